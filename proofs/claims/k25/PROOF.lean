import PyProof.Rows.All
import Wide.All
import OpenK.AllK
import Wide.FinOn
import PyProof.EqAt
import PyProof.EqKinds
import PyProof.TupleCall
import PySem.Challenge.RW_sparecut_k25_whole_trees_and_ladders
import HandS.ForMost
import HandS.Evl
import HandS.Conv
import HandS.Exc
import HandS.ExcOwn
import HandS.ExcInit
import HandS.ExcValue
import HandS.ExcIs
import KE.KExcIs
import KE.KxText
import HandS.AnyAll
import HandS.GenOver
import HandS.GenList
import HandS.SortInts
import HandS.TupAny
import HandS.TupSets
import HandS.TupMul
import HandS.Strs
import HandS.IsInst
import HandS.EndTab
import HandS.EndOwn
import HandS.SetFor
import KE.KNestM
import KE.GoesEnum
import HandS.FStr
import HandS.RaiseMore
import KE.DatumOrd
import HandS.Zip
import HandS.Style
import HandS.RevRange
import HandS.TryOnly
import HandS.WordsExc
import KE.LtData
import HandS.TupLe
import HandS.ExcField
import HandS.Dict
import HandS.More
import HandS.WordsDict
import HandS.DictComp
import HandS.Deep
set_option Elab.async false
set_option linter.all false
set_option maxRecDepth 100000
set_option maxHeartbeats 2000000
namespace Nw
open PySem PySem.Spec PyProof.Rows L2
/-! ### readings that hide the heap: what is new is told by its facts alone -/
theorem same_new {H : Hp} {p : Addr} {o : HO} (h : H p = none) : Same H (upd H p o) := fun b x e => by
  rw [upd_ne (ne_of_none e h)]
  exact e
theorem sqt {K : PySem.W.Frag} {H H' : Hp} {a : Addr} {xs : List V} (e : Same H H') (h : SqT K H a xs) : SqT K H' a xs := by
  rcases h with (h | ⟨o, h⟩) | h
  · exact .inl (.inl (e _ _ h))
  · exact .inl (.inr ⟨o, e _ _ h⟩)
  · exact .inr h
/-- a new object o at a place of its own -/
def New (H : Hp) (o : HO) (Q : VK) : Prop := ∀ p H2, H p = none → Same H H2 → H2 p = some o → (∀ b, b ≠ p → H2 b = H b) → Q (.ref p) H2
theorem New.to {H : Hp} {o : HO} {Q : VK} (h : New H o Q) : ∀ p, H p = none → Q (.ref p) (upd H p o) := fun p n => h p _ n (same_new n) upd_same fun b nb => upd_ne nb
section
variable {X : Cx} {e : Expr} {es : List Expr} {t t' : TE} {ta : TA} {pos : Pos}
theorem pe_weak (h : PE X e t) (i : ∀ σ H Q, t' σ H Q → t σ H Q) : PE X e t' := ⟨fun pins s σ H Q I q => h.run pins s σ H Q I (i σ H Q q)⟩
theorem op_weak {f : Value → Value → Sem Value} {r r' : R2} (h : OpR X f r) (i : ∀ x y H Q, r' x y H Q → r x y H Q) : OpR X f r' := fun pins s σ H x y v u Q I rx ry q => h pins s σ H x y v u Q I rx ry (i x y H Q q)
theorem call_weak {f : Value} {r r' : List V → Hp → VK → Prop} (h : CallR X f r) (i : ∀ xs H Q, r' xs H Q → r xs H Q) : CallR X f r' := fun pins s σ H xs us Q I rx q => h pins s σ H xs us Q I rx (i xs H Q q)
theorem mt_weak {id : String} {r r' : V → List V → Hp → VK → Prop} (h : MtR X id r) (i : ∀ x xs H Q, r' x xs H Q → r x xs H Q) : MtR X id r' := fun pins s σ H x xs v us Q I rx rs q => h pins s σ H x xs v us Q I rx rs (i x xs H Q q)
theorem sl_weak {r r' : V → Option Int → Option Int → Hp → VK → Prop} (h : SlR X r) (i : ∀ x lo hi H Q, r' x lo hi H Q → r x lo hi H Q) : SlR X r' := fun pins s σ H x v vl vu lo hi sl Q I rx a b c q => h pins s σ H x v vl vu lo hi sl Q I rx a b c (i x lo hi H Q q)
/-- what follows may be asked for less -/
def clA (t : TA) : TA := fun σ H R => ∃ R' : List V → Hp → Prop, (∀ xs H1, R' xs H1 → R xs H1) ∧ t σ H R'
theorem pa_cl (h : PA X es ta) : PA X es (clA ta) := ⟨fun ps pins s σ H Q I ⟨R', i, q⟩ => thn (h.run ps pins s σ H R' I q) fun us s1 ⟨vs, H1, I1, r1, q1⟩ => ⟨vs, H1, I1, r1, i vs H1 q1⟩⟩
def clE (t : TE) : TE := fun σ H R => ∃ R' : VK, (∀ v H1, R' v H1 → R v H1) ∧ t σ H R'
theorem pe_cl (h : PE X e t) : PE X e (clE t) := ⟨fun pins s σ H Q I ⟨R', i, q⟩ => thn (h.run pins s σ H R' I q) fun u s1 ⟨v, H1, I1, r1, q1⟩ => ⟨v, H1, I1, r1, i v H1 q1⟩⟩
def nLst (t : TA) : TE := fun σ H Q => t σ H fun xs H1 => xs.length ≤ sizeLine ∧ New H1 (.lst xs) Q
def nTup (t : TA) : TE := fun σ H Q => t σ H fun xs H1 => xs.length ≤ sizeLine ∧ New H1 (.tup xs) Q
theorem pe_lstN (h : PA X es ta) : PE X (.List es pos) (nLst ta) := pe_weak (pe_lst (pa_cl h)) fun _ _ _ q => ⟨_, fun _ _ z => ⟨z.1, z.2.to⟩, q⟩
theorem pe_tupN {x1} (h : PA X es ta) : PE X (.Tuple es x1 pos) (nTup ta) := pe_weak (pe_tup (pa_cl h)) fun _ _ _ q => ⟨_, fun _ _ z => ⟨z.1, z.2.to⟩, q⟩
/-- xs + ys (lists) -/
def rCatN : R2 := fun x y H Q => ∃ p q xs ys, x = .ref p ∧ y = .ref q ∧ H p = some (.lst xs) ∧ H q = some (.lst ys) ∧ xs.length + ys.length ≤ sizeLine ∧ New H (.lst (xs ++ ys)) Q
theorem op_catN : OpR X (binaryOp .Add) rCatN := op_weak op_cat fun x y H Q ⟨p, q, xs, ys, h1, h2, h3, h4, h5, h6⟩ => ⟨p, q, xs, ys, h1, h2, h3, h4, h5, h6.to⟩
/-- a tuple of xs, new or not -/
def ResT (H : Hp) (xs : List V) (Q : VK) : Prop := ∀ p H2, Same H H2 → H2 p = some (.tup xs) → Q (.ref p) H2
theorem call_list_ofN : CallR X (.type "list") (fun xs H Q => ∃ p ys, xs = [.ref p] ∧ (SqL X.K H p ys ∨ SqT X.K H p ys) ∧ New H (.lst ys) Q) := call_weak call_list_of fun _ _ _ ⟨p, ys, h1, h2, h3⟩ => ⟨p, ys, h1, h2, h3.to⟩
theorem call_tuple_ofN : CallR X (.type "tuple") (fun xs H Q => ∃ p ys, xs = [.ref p] ∧ SqL X.K H p ys ∧ New H (.tup ys) Q) := call_weak call_tuple_of fun _ _ _ ⟨p, ys, h1, h2, h3⟩ => ⟨p, ys, h1, .inl ⟨h2, h3.to⟩⟩
theorem sl_listN : SlR X (fun x lo hi H Q => ∃ a xs, x = .ref a ∧ SqL X.K H a xs ∧ New H (.lst (cutV xs lo hi)) Q) := sl_weak sl_list fun _ _ _ _ _ ⟨a, xs, h1, h2, h3⟩ => ⟨a, xs, h1, h2, h3.to⟩
end
/-! ### data by its values -/
theorem dp_bls {K : PySem.W.Frag} {H : Hp} : ∀ bs : List Bool, DpAll K H (bs.map V.bl) (bs.map PyData.bool)
  | [] => .nil
  | b :: r => .cons (.bl b) (dp_bls r)
theorem dp_ints {K : PySem.W.Frag} {H : Hp} : ∀ ns : List Int, DpAll K H (ns.map V.int) (ns.map PyData.int)
  | [] => .nil
  | b :: r => .cons (.int b) (dp_ints r)
/-- flat data: numbers, truths, None -/
def flatD : PyData → Bool
  | .none | .bool _ | .int _ => true
  | _ => false
theorem flat_lay : ∀ ds : List PyData, ds.all flatD = true → PyData.canLayAll0 ds = true
  | [], _ => rfl
  | d :: r, h => by
    rw [List.all_cons, Bool.and_eq_true] at h
    show (PyData.canLay0 d && PyData.canLayAll0 r) = true
    rw [flat_lay r h.2, Bool.and_true]
    cases d <;> first | rfl | exact Bool.noConfusion h.1
theorem flat_depth : ∀ ds : List PyData, ds.all flatD = true → PyData.depthAll ds ≤ 1
  | [], _ => by decide
  | d :: r, h => by
    rw [List.all_cons, Bool.and_eq_true] at h
    have ih := flat_depth r h.2
    have hd : PyData.depth d ≤ 1 := by
      cases d <;> first | decide | exact Bool.noConfusion h.1 | exact Nat.zero_le _ | exact Nat.le_refl _
    show Nat.max (PyData.depth d) (PyData.depthAll r) ≤ 1
    exact Nat.max_le.mpr ⟨hd, ih⟩
theorem shaped_list {ds : List PyData} (h : ds.all flatD = true) : SeqAt.shaped (.list ds) = true := by
  have e := flat_depth ds h
  have e2 : PyData.depth (.list ds) ≤ 64 := by
    show PyData.depthAll ds + 1 ≤ 64
    omega
  show (PyData.canLayAll0 ds && decide (PyData.depth (.list ds) ≤ 64)) = true
  rw [flat_lay ds h, decide_eq_true e2]
  rfl
theorem shaped_tuple {ds : List PyData} (h : ds.all flatD = true) : SeqAt.shaped (.tuple ds) = true := by
  have e := flat_depth ds h
  have e2 : PyData.depth (.tuple ds) ≤ 64 := by
    show PyData.depthAll ds + 1 ≤ 64
    omega
  show (PyData.canLayAll0 ds && decide (PyData.depth (.tuple ds) ≤ 64)) = true
  rw [flat_lay ds h, decide_eq_true e2]
  rfl
theorem flat_bls (bs : List Bool) : (bs.map PyData.bool).all flatD = true := by
  rw [List.all_map, List.all_eq_true]
  exact fun _ _ => rfl
theorem flat_ints (ns : List Int) : (ns.map PyData.int).all flatD = true := by
  rw [List.all_map, List.all_eq_true]
  exact fun _ _ => rfl
theorem eqv_self {d : PyData} (h : SeqAt.shaped d = true) : PyData.eqv d d = true := SeqAt.eqv_refl d (SeqAt.canLay_of_shaped h)
end Nw
namespace Nw
open PySem PySem.Spec PyProof.Rows L2
section
variable {X : Cx}
theorem cr_sortedN : CallR X (.builtin "sorted") (fun vs H Q => ∃ (a : Addr) (ns : List Int), vs = [V.ref a] ∧ SqL X.K H a (ns.map V.int) ∧ ∀ ns' : List Int, ns'.Perm ns → ns'.Pairwise (· ≤ ·) → New H (.lst (ns'.map V.int)) Q) :=
  call_weak cr_sortedI fun _ _ _ ⟨a, ns, h1, h2, h3⟩ => ⟨a, ns, h1, h2, fun ns' p hp hs np => (h3 ns' hp hs).to p np⟩
theorem cutV_all {xs : List V} {lo hi : Option Int} (h : HT.sIx xs.length 0 lo = 0 ∧ HT.sIx xs.length xs.length hi = xs.length) : cutV xs lo hi = xs := by
  unfold cutV
  rw [h.1, h.2]
  exact List.take_length
theorem sl_tupN : SlR X (fun x lo hi H Q => ∃ a xs, x = .ref a ∧ H a = some (.tup xs) ∧ ResT H (cutV xs lo hi) Q) := sl_weak sl_tupA fun _ lo hi H Q ⟨a, xs, h1, h2, h3⟩ =>
  ⟨a, xs, h1, .of h2, fun z => h3 a H (Same.refl H) (by rw [cutV_all z]; exact h2), fun _ p np => h3 p _ (same_new np) upd_same⟩
theorem op_catTN : OpR X (binaryOp .Add) (fun x y H Q => ∃ a b xs ys, x = .ref a ∧ y = .ref b ∧ H a = some (.tup xs) ∧ H b = some (.tup ys) ∧ xs.length + ys.length ≤ sizeLine ∧ ResT H (xs ++ ys) Q) :=
  op_weak op_catA fun _ _ H Q ⟨a, b, xs, ys, h1, h2, h3, h4, h5, h6⟩ => ⟨a, b, xs, ys, h1, h2, .of h3, .of h4, h5, fun z => h6 b H (Same.refl H) (by rw [z]; exact h4), fun _ z => h6 a H (Same.refl H) (by rw [z, List.append_nil]; exact h3), fun _ _ p np => h6 p _ (same_new np) upd_same⟩
theorem op_repTN : OpR X (binaryOp .Mult) (fun x y H Q => ∃ l k xs, x = .ref l ∧ y = .int k ∧ H l = some (.tup xs) ∧ xs ≠ [] ∧ 2 ≤ k ∧ k ≤ 1000 ∧ xs.length ≤ 1000 ∧ ResT H (List.replicate k.toNat xs).flatten Q) :=
  op_weak op_repT fun _ _ H Q ⟨l, k, xs, h1, h2, h3, h4, h5, h6, h7, h8⟩ => ⟨l, k, xs, h1, h2, .of h3, h4, h5, h6, h7, fun p np => h8 p _ (same_new np) upd_same⟩
/-! the same rules with the written part by its name (for comprehensions' blocks) -/
variable {K : PySem.W.Frag}
theorem ix_tupB (h : X.K = K) : IxR X (rIxT K) := by subst h; exact ix_tup
theorem ix_listB (h : X.K = K) : IxR X (rIxL K) := by subst h; exact ix_list
theorem op_in_seqB (h : X.K = K) : OpR X (compareOp .In) (rIn K false) := by subst h; exact op_in_seq
theorem op_notIn_seqB (h : X.K = K) : OpR X (compareOp .NotIn) (rIn K true) := by subst h; exact op_notIn_seq
theorem call_len_seqB (h : X.K = K) : CallR X (.builtin "len") (fun xs H Q => ∃ p ys, xs = [.ref p] ∧ (SqL K H p ys ∨ SqT K H p ys) ∧ Q (.int ys.length) H) := by subst h; exact call_len_seq
theorem call_isiB (h : X.K = K) : CallR X (.builtin "isinstance") (rIsi K) := by subst h; exact call_isi
theorem op_eqDB (h : X.K = K) (hu : X.A.units + 64 < cLine) : OpR X (compareOp .Eq) (rEqD K) := by subst h; exact op_eqD hu
theorem op_neDB (h : X.K = K) (hu : X.A.units + 64 < cLine) : OpR X (compareOp .NotEq) (rNeD K) := by subst h; exact op_neD hu
end
end Nw
namespace Ev1
open PySem PySem.Spec PyProof.Rows L2 Nw
/-! ### exceptions as values -/
/-- at a an exception of the class cls, its dict d -/
def ExV (cls : Value) (d : Option Addr) (a : Addr) : HO := .ext fun h => ∃ (oe : Obj) (vs : Array Value), h.get? a = some oe ∧ Zc cls d oe ∧ oe.data = .fields vs
/-- an exception that was made of the class cls, its dict d: it stands at a place of its own -/
def Made (H1 : Hp) (cls : Value) (d : Option Addr) (Q : VK) : Prop := ∀ a H3, H1 a = none → Same H1 H3 → H3 a = some (ExV cls d a) → Q (.ref a) H3
theorem pe_made {X : Cx} {e : Expr} {t : L2.St → Hp → XK → Prop} (m : PMk X e t) : PE X e (fun σ H Q => t σ H fun cls d H1 => Made H1 cls d Q) := by
  refine ⟨fun pins s σ H Q I h => thn (m pins s σ H _ I h) fun u s1 z => ?_⟩
  obtain ⟨a, oe, vs, sI, H1, cls, d, rfl, J, k, na, ha, hz, hd, _, ha1, os, ag, _, q⟩ := z
  have new : ObjOk X.prog X.w (upd H1 a (ExV cls d a)) s1.heap a (ExV cls d a) := ⟨⟨oe, vs, ha, hz, hd⟩, ⟨oe, ha⟩, fun h1 h2 ⟨o, v, y, r⟩ i => ⟨o, v, i o y, r⟩⟩
  exact ⟨.ref a, upd H1 a (ExV cls d a), J.call' (ch := []) os (Un.laidN k na ha1) (J.hok.laidN k ha1 new) ag (fun b y => absurd y (by simp)), rfl, q a _ ha1 (same_new ha1) upd_same⟩
/-- at a an exception of the class D, with the field at = y -/
def ExF (H : Hp) (a D : Addr) (y : V) : Prop := ∃ dx, H a = some (ExV (.ref D) (some dx) a) ∧ H dx = some (.xd [(("at" : Str), y)])
/-- at a an exception of the class D -/
def ExAt (H : Hp) (a D : Addr) : Prop := H a = some (ExO (.ref D) a) ∨ ∃ y, ExF H a D y
theorem ExF.same {H H' : Hp} {a D : Addr} {y : V} (h : ExF H a D y) (s : Same H H') : ExF H' a D y := by
  obtain ⟨dx, h1, h2⟩ := h
  exact ⟨dx, s _ _ h1, s _ _ h2⟩
theorem ExAt.same {H H' : Hp} {a D : Addr} (h : ExAt H a D) (s : Same H H') : ExAt H' a D := by
  rcases h with h | ⟨y, h⟩
  · exact .inl (s _ _ h)
  · exact .inr ⟨y, h.same s⟩
theorem notCls_of {o : Obj} {vs : Array Value} (hd : o.data = .fields vs) : PySem.W.notCls o = true := by
  unfold PySem.W.notCls
  rw [hd]
section
variable {X : Cx} {pins : List (Addr × Obj)} {σ : L2.St} {H : Hp} {s : Shared} {a D : Addr} {y : V}
theorem ExF.inst (I : Inv X pins σ H s) (h : ExF H a D y) : ∃ ox od u, PySem.W.InstAt s.heap a ox D (some od) ∧ PySem.W.lookIn "at" od = some (some u) ∧ RelV y u := by
  obtain ⟨dx, h1, h2⟩ := h
  have z1 : ObjOk X.prog X.w H s.heap a (.ext fun h => ∃ (oe : Obj) (vs : Array Value), h.get? a = some oe ∧ Zc (.ref D) (some dx) oe ∧ oe.data = .fields vs) := I.hok a _ h1
  obtain ⟨⟨oe, vs, ha, ⟨hc, hd⟩, hv⟩, _⟩ := z1
  have z2 : ObjOk X.prog X.w H s.heap dx (.xd [(("at" : Str), y)]) := I.hok dx _ h2
  obtain ⟨mA, hn, hr⟩ := z2
  obtain ⟨od, ho, hl⟩ := lookIn_ns hn
  have l : List.lookup ("at" : Str) [(("at" : Str), y)] = some y := by simp [List.lookup]
  obtain ⟨u, hu, ru⟩ := RelO.some_of (v := y) (o := mA "at") (by rw [← l]; exact hr "at")
  exact ⟨oe, od, u, ⟨ha, hc, notCls_of hv, by rw [hd]; exact ho⟩, by rw [hl, hu], ru⟩
theorem ExAt.inst (I : Inv X pins σ H s) (h : ExAt H a D) : ∃ ox od, PySem.W.InstAt s.heap a ox D od := by
  rcases h with h | ⟨y, h⟩
  · obtain ⟨⟨oe, vs, ha, ⟨hc, hd⟩, hv, _⟩, _⟩ := I.hok a _ h
    exact ⟨oe, none, ⟨ha, hc, notCls_of hv, by rw [hd]; exact trivial⟩⟩
  · obtain ⟨ox, od, _, J, _⟩ := h.inst I
    exact ⟨ox, some od, J⟩
end
/-- X(e), X an own class without own __init__ -/
def tExN (C : Addr) (te : TE) : TE := fun σ H Q => te σ H fun _ H1 => ∀ a H2, H1 a = none → Same H1 H2 → H2 a = some (ExO (.ref C) a) → Q (.ref a) H2
theorem pe_excN {X : Cx} {C : Addr} {bmB : List Value} {B newId initId : String} {x : Str} {e : Expr} {te : TE} {p pos : Pos} (F : ExcBaseFacts B newId initId bmB) (q : PySem.W.excIn X.K C bmB newId = true) (gC : X.mg x = some (.ref C)) (kC : PySem.W.keepIn X.K (.ref C) = true) (hg : Gl X x)
    (he : PE X e te) (hs : starEach [e] X.env = (false, eval e X.env) :: starEach [] X.env := by rfl) (hdb : (x == ("__debug__" : Str)) = false := by decide) : PE X (.Call (.Name x p) [e] [] pos) (tExN C te) :=
  pe_weak (pe_exc1 F q gC kC hg (pe_cl he) hs hdb) fun _ _ _ h => ⟨_, fun _ _ z a na => z a _ na (same_new na) upd_same, h⟩
/-- isinstance(e, c) of an exception -/
def rIsX (K : PySem.W.Frag) : List V → Hp → VK → Prop := fun xs H Q => ∃ (a D : Addr) (c : V) (cv : Value) (b : Bool), xs = [.ref a, c] ∧ ExAt H a D ∧ ExcC K D ∧ (∀ u, RelV c u → u = cv) ∧ PySem.W.kitOne K (.ref D) cv = some b ∧ Q (.bl b) H
theorem call_isX {X : Cx} : CallR X (.builtin "isinstance") (rIsX X.K) := by
  intro pins s σ H xs us Q I r h
  obtain ⟨a, D, c, cv, b, rfl, hE, C, hcv, e, q⟩ := h
  cases r with
  | cons rx rr =>
    cases rr with
    | cons rt rr =>
      cases rr
      cases rx
      have ec := hcv _ rt
      subst ec
      obtain ⟨ox, od, J⟩ := hE.inst I
      have cl : (PySem.W.clsIn X.K D).isSome = true := by
        obtain ⟨cd, hc, _⟩ := PySem.W.any_some C.hd
        rw [hc]
        rfl
      exact PySem.W.kia_one (PySem.W.kitx_exc cl C.hg C.hk C.hs C.ha C.hn C.ht C.hm) I.kIn J e (fun z => nomatch z) fun tk => ⟨.bl b, H, I.kept (t' := tk) fun _ _ z => z, rfl, q⟩
/-- e.at of an exception -/
def tAtX (K : PySem.W.Frag) (te : TE) : TE := fun σ H Q => te σ H fun x H1 => ∃ (a D : Addr) (y : V), x = .ref a ∧ ExF H1 a D y ∧ ExcC K D ∧ PySem.W.findIn K (.ref D) "at" = some none ∧ Q y H1
theorem pe_atX {X : Cx} {e : Expr} {te : TE} {pos : Pos} (he : PE X e te) (hb : attributeBase e "at" X.env (eval e X.env) = eval e X.env := by rfl) : PE X (.Attribute e "at" pos) (tAtX X.K te) := by
  refine ⟨fun pins s σ H Q I h => attr_of hb (thn (he.run pins s σ H _ I h) fun u s1 hh => ?_)⟩
  obtain ⟨x, H1, I1, rx, a, D, y, rfl, hE, C, nf, q⟩ := hh
  cases rx
  obtain ⟨ox, od, u, J, l, ru⟩ := hE.inst I1
  exact HandSPX.exc_get I1.kIn J C.hg C.hk C.hs (PySem.W.findObj_own C.hd nf rfl l) (handed_of ru) ⟨y, H1, I1.tok _, ru, q⟩
/-- the promise of «def __init__(self, at): self.at = at» -/
def spInit (K : PySem.W.Frag) : Sp := fun vs H Q _ => ∃ (a C : Addr) (y : V), vs = [.ref a, y] ∧ OexC K C ∧ PySem.W.findIn K (.ref C) "at" = some none ∧ H a = some (exo a C none) ∧
  ∀ dx, H dx = none → dx ≠ a → Q .non (upd (upd H dx (exd dx [(("at" : Str), y)])) a (exo a C (some dx)))
theorem del_new {H1 : Hp} {a dx : Addr} {o1 o2 o3 : HO} (na : H1 a = none) (ne : dx ≠ a) : del (upd (upd (upd H1 a o1) dx o2) a o3) a = upd H1 dx o2 := by
  funext b
  by_cases hb : b = a
  · subst hb
    rw [del_same, upd_ne (Ne.symm ne), na]
  · rw [del_ne hb, upd_ne hb]
    by_cases hd : b = dx
    · subst hd
      rw [upd_same, upd_same]
    · rw [upd_ne hd, upd_ne hd, upd_ne hb]
/-- what C(y) asks, C with that __init__: the exception and its field -/
theorem made_F {K : PySem.W.Frag} {C : Addr} {y : V} {H1 : Hp} {Q : VK} (T : OexC K C) (nf : PySem.W.findIn K (.ref C) "at" = some none) (h : ∀ a H2, H1 a = none → Same H1 H2 → ExF H2 a C y → Q (.ref a) H2) :
    [y].length ≤ 1000 ∧ ∀ a, H1 a = none → spInit K (.ref a :: ([y] ++ [])) (upd H1 a (exo a C none)) (fun v H2 => v = .non ∧ ∃ (d : Addr) (fs : List (Str × V)), H2 a = some (exo a C (some d)) ∧ H2 d = some (exd d fs) ∧ H1 d = none ∧
      Made (upd (del H2 a) d (.xd fs)) (Value.ref C) (some d) Q) (fun _ _ _ => False) := by
  refine ⟨by simp, fun a na => ⟨a, C, y, rfl, T, nf, upd_same, fun dx nd ne => ?_⟩⟩
  have nd1 : H1 dx = none := by
    rw [upd_ne ne] at nd
    exact nd
  refine ⟨rfl, dx, [(("at" : Str), y)], upd_same, by rw [upd_ne ne, upd_same], nd1, ?_⟩
  rw [del_new na ne, upd_upd]
  intro b H3 nb s3 e3
  have sd : Same H1 (upd H1 dx (.xd [(("at" : Str), y)])) := same_new nd1
  exact h b H3 (sd.free nb) (sd.trans s3) ⟨dx, e3, s3 _ _ upd_same⟩
end Ev1
namespace Gx
open PySem PySem.Spec PyProof.Rows L2 GxR
/-! ### any, all of a generator expression whose element is run by the layer's own rules -/
/-- the generator's frame running, awake under any | all -/
abbrev gCx (X : Cx) (ge : Expr) (s : Shared) (H : Hp) (cenv : Env) (it : Addr) (fp : List Addr) (pn : List (Addr × Obj)) : Cx :=
  { X with
    s_0 := s
    H_0 := H
    env := cenv
    outer := X.stack
    stack := cenv :: X.stack
    ex := fp
    fn := fun _ => false
    pn := pn
    xe := fun _ _ => False
    A := X.A.in1.in1.over (.compLoop ge 0 (.ref it) .none cenv) [] }
theorem room_gen {k : Nat} {X : Cx} {elt : Expr} {gs : List Comprehension} {scope : Scope} {pos : Pos} {s : Shared} {H : Hp} {cenv : Env} {it : Addr} {fp : List Addr} {pn : List (Addr × Obj)} (r : Room (k + 1) X.A) :
    Room k (gCx X (.GeneratorExp elt gs scope pos) s H cenv it fp pn).A := by
  refine ⟨r.hd, ?_, ?_⟩
  · have := r.dp
    show X.A.depth + 0 + 1 + 3 * k + 5 < recursionLimit
    omega
  · have := r.un
    show X.A.units + 1 + 1 + 0 + 3 + 16 * k + 200 < cLine
    omega
/-- gens, drawn and toks say nothing but that all are bare -/
theorem inv_gens {X : Cx} {pins : List (Addr × Obj)} {σ : L2.St} {H : Hp} {s s' : Shared} (I : Inv X pins σ H s) (hh : s'.heap = s.heap) (ho : s'.os = s.os) (hb : AllBare s'.gens) : Inv X pins σ H s' := by
  obtain ⟨h, g, d, t, o⟩ := s
  obtain ⟨h', g', d', t', o'⟩ := s'
  dsimp only at hh ho hb
  subst hh ho
  exact { ok := I.ok, os := I.os, bare := hb, base := I.base, loc := I.loc, cell := I.cell, free := I.free, freeC := I.freeC, pin := I.pin, hok := I.hok, len := I.len }
theorem bare_set {s : Shared} {g : Nat} {x : GenState} (h : AllBare s.gens) (hx : x.bare = true) : AllBare (s.setGen g x).gens := by
  intro y hy
  have hy' : y ∈ s.gens.setIfInBounds g x := hy
  obtain ⟨i, hi, e⟩ := Array.mem_iff_getElem.mp hy'
  by_cases hg : g = i
  · subst hg
    rw [Array.getElem_setIfInBounds_self] at e
    rw [← e]
    exact hx
  · rw [Array.getElem_setIfInBounds_ne (by simpa using hi) hg] at e
    rw [← e]
    exact h _ (Array.getElem_mem _)
section
variable {X : Cx} {pins : List (Addr × Obj)} {σ : L2.St} {H : Hp} {s : Shared}
/-- what the frame of the generator knows as it begins -/
theorem gen_start {ge : Expr} {scope : Scope} {own : List (Str × Nat)} {fp : List Addr} {it a : Addr} {code : Value} {go : Obj} {gs : Array GenState} {tk : Nat} {h5 : Heap} {m : Str → Option Value} (I : Inv X pins σ H s) (hc : X.calm = true) (ok : BlkOk X.N X.env.scope scope own) (hN : X.N.Nodup)
    (nc : ∀ y ∈ scope.names, y.2 ≠ .cell) (hfp : ∀ b ∈ fp, FpOk X pins H b ∧ b < s.heap.objs.size) (fr : (X.A.in1.in1.over (.compLoop ge 0 (.ref it) .none (genEnv scope (cloFrom X.env.cells scope.names []) s.heap.objs.size code builtinsNs X.env)) []).frames = some (genEnv scope (cloFrom X.env.cells scope.names []) s.heap.objs.size code builtinsNs X.env :: X.stack))
    (hg : AllBare gs) (kp : ∀ b o, s.heap.get? b = some o → h5.get? b = some o) (hns : h5.Ns s.heap.objs.size m) (ha : h5.get? a = some go) (ha1 : s.heap.objs.size < a) (hd : ∀ v, go.data ≠ .cell v) :
    Inv (gCx X ge s H (genEnv scope (cloFrom X.env.cells scope.names []) s.heap.objs.size code builtinsNs X.env) it fp [(a, go)]) [] (wipe σ (own.map (·.2))) H { s with gens := gs, toks := tk, heap := h5 } := by
  have cm : ∀ {y : Str} {c : Addr}, (cloFrom X.env.cells scope.names []).lookup y = some c → X.env.cells.lookup y = some c := fun {y c} e => by
    rcases cloFrom_mem (PySem.mem_of_lookup e) with z | ⟨h1, z⟩
    · cases z
    · have q : ∃ c', X.env.cells.lookup y = some c' := by
        rcases ok.free (y, .free) h1 rfl with k | k
        · exact I.ok.has y (.inl k)
        · exact I.ok.has y (.inr k)
      obtain ⟨c', q⟩ := q
      rw [q] at z
      rw [q, z]
      rfl
  have ch : ∀ {y : Str}, scope.names.lookup y = some .free → ∃ c, (cloFrom X.env.cells scope.names []).lookup y = some c := fun {y} e => mem_lookup (cloFrom_has (PySem.mem_of_lookup e))
  have noc : ∀ {y : Str}, scope.names.lookup y ≠ some .cell := fun {y} e => nc _ (PySem.mem_of_lookup e) rfl
  have stL : ∀ b ∈ frs X.stack, b < s.heap.objs.size := fun b hb => by
    obtain ⟨_, o, e, _⟩ := I.stack.mem hb
    exact Heap.lt_size e
  have okG : (gCx X ge s H (genEnv scope (cloFrom X.env.cells scope.names []) s.heap.objs.size code builtinsNs X.env) it fp [(a, go)]).Ok := {
    mod := I.ok.mod
    kind := ok.kind
    glob := I.ok.glob
    blt := rfl
    above := Nat.le_refl _
    inj := fun x y c h1 h2 => I.ok.inj x y c (cm h1) (cm h2)
    has := fun x h => h.elim (fun k => absurd k noc) fun k => ch k
    cab := fun x c h => Bool.noConfusion h
    hd := fun h => I.ok.hd h
    frames := fr
    stk := .inr ⟨rfl, rfl⟩
    exf := fun b hb => ⟨Nat.ne_of_lt (hfp b hb).2, fun x c e => (hfp b hb).1.2.2.2.2.1 x c (cm e)⟩
    bs := I.bs
    bsz := Nat.le_trans I.ok.bsz I.sz
    noex := fun b o e hb => by
      rcases (hfp b hb).1.2.2.2.1 with z | z
      · exact I.ok.noex b o e z
      · exact Nat.lt_irrefl _ (Nat.lt_of_lt_of_le (Heap.lt_size e) (Nat.le_trans I.ok.bsz z))
    exfs := fun b hb z => by
      rcases List.mem_cons.mp (I.stkSub b z) with y | y
      · exact (hfp b hb).1.2.1 y
      · exact (hfp b hb).1.2.2.1 y
    funs := I.stack
    frf := I.stkFree }
  refine { ok := okG, os := rfl, bare := hg, base := Un.kept kp, loc := ⟨m, hns, fun i x v e1 e2 e3 => ?_⟩, cell := fun x c e => ?_, free := I.hok.fresh (Nat.le_refl _), freeC := fun x c e => I.freeC x c (cm e), pin := fun p hp => ?_, hok := I.hok.kept kp, len := (wipe_length _ _).trans I.len }
  · obtain ⟨e2, hi⟩ := wipe_some e2
    have hf : scope.names.lookup x = some .free := by
      have no : ∀ k, scope.names.lookup x = some k → ¬ (k = .local ∨ k = .cell) := fun k hk hh => by
        rcases ok.own _ (PySem.mem_of_lookup hk) hh with z | z
        · obtain ⟨p, hp, hx⟩ := List.mem_map.mp z
          have q := ok.ix p hp
          have hx' : p.1 = x := hx
          rw [hx'] at q
          exact hi (List.mem_map.mpr ⟨p, hp, nodup_ix hN q e1⟩)
        · exact z (List.mem_of_getElem? e1)
      have e3 : Vis scope x := e3
      rcases e3 with k | k | k
      · exact absurd (.inl rfl) (no _ k)
      · exact absurd (.inr rfl) (no _ k)
      · exact k
    have hv := ok.free _ (PySem.mem_of_lookup hf) rfl
    obtain ⟨m0, _, hl⟩ := I.loc
    obtain ⟨u, ru, q⟩ := hl i x v e1 e2 (.inr hv)
    refine ⟨u, ru, .inr ⟨.inr hf, ?_⟩⟩
    rcases q with ⟨k, _⟩ | ⟨_, c, ec, z⟩
    · have k' : X.env.scope.names.lookup x = some .local := k
      rcases hv with y | y
      · have y' : X.env.scope.names.lookup x = some .cell := y
        rw [k'] at y'
        cases y'
      · have y' : X.env.scope.names.lookup x = some .free := y
        rw [k'] at y'
        cases y'
    · obtain ⟨c', e'⟩ := ch hf
      have e2 := cm e'
      rw [ec] at e2
      cases e2
      exact ⟨c, e', z.keeps kp⟩
  · obtain ⟨v, z⟩ := I.cell x c (cm e)
    exact ⟨v, z.keeps kp⟩
  · have hp' : p ∈ [(a, go)] ++ ([] : List (Addr × Obj)) := hp
    have e : p = (a, go) := by simpa using hp'
    subst e
    refine ⟨ha, I.hok.fresh (Nat.le_of_lt ha1), Nat.ne_of_gt ha1, fun z => ?_, hd⟩
    exact Nat.lt_irrefl _ (Nat.lt_trans (stL _ z) ha1)
end
/-- what a turn's way through the generator must reach. stopb: the truth at which any (true), all (false) stops -/
def GEndP (Y : Cx) (σw : L2.St) (stopb : Bool) (Q : VK) : Nat → Shared → Shared → Prop := fun _ _ s => ∃ H', Inv Y [] σw H' s ∧ Q (.bl (!stopb)) H'
def GProto (Y : Cx) (σw : L2.St) (fp : List Addr) (tn : Nat → Heap → Prop) (W : Nat → Nat → Hp → Prop) (stopb : Bool) (Q : VK) : Protocol := fun n _ v s kap => ∃ (k : Bool) (H' : Hp), v = .bool k ∧ Inv Y [] σw H' s ∧
  ((k = stopb ∧ Q (.bl stopb) H') ∨ (k = !stopb ∧ ∃ i m, m < n ∧ W i m H' ∧ ∀ s'' : Shared, s''.heap = s.heap → s''.os = s.os → AllBare s''.gens → kap (.send .none) s''))
section
variable {X : Cx} {elt tg iter : Expr} {ifs : List Expr} {scope : Scope} {gpos : Pos} {s4 : Shared} {H4 : Hp} {cenv : Env} {it : Addr} {fp : List Addr} {pn : List (Addr × Obj)} {J : It} {tn : Nat → Heap → Prop} {g : TG} {tt : TT} {te : TE} {own : List Nat} {σ : L2.St} {stopb : Bool} {Q : VK} {W : Nat → Nat → Hp → Prop}
/-- the turns of the generator's own loop -/
theorem gen_loop (hc : X.calm = true) (hco : cenv.scope.isCoroutine = false) (T : Turn X.prog X.w X.K tg J fp it tn) (hpn : ∀ p ∈ pn, ∀ b ∈ fp, p.1 ≠ b)
    (pg : PG (gCx X (.GeneratorExp elt [⟨tg, iter, ifs, 0⟩] scope gpos) s4 H4 cenv it fp pn) tg g) (pt : PTs (gCx X (.GeneratorExp elt [⟨tg, iter, ifs, 0⟩] scope gpos) s4 H4 cenv it fp pn) ifs tt) (pe : PE (gCx X (.GeneratorExp elt [⟨tg, iter, ifs, 0⟩] scope gpos) s4 H4 cenv it fp pn) elt te)
    (turn : ∀ i m H, W i m H → (J.stop i H ∧ Q (.bl (!stopb)) H) ∨ (J.go i H ∧ ∃ Nx : Hp → Prop, (∀ H', Nx H' → ∃ m', m' < m ∧ W (i + 1) m' H') ∧ ∀ x H', J.yld i H x H' → g x (wipe σ own) H' fun σ2 H2 => wipe σ2 own = wipe σ own ∧ tt σ2 H2 fun b H3 =>
      if b = true then te σ2 H3 fun y H4 => (y = .bl stopb ∧ Q (.bl stopb) H4) ∨ (y = .bl (!stopb) ∧ Nx H4) else Nx H3)) :
    ∀ (m n i : Nat) (s0 s : Shared) (H' : Hp), m < n → W i m H' → Inv (gCx X (.GeneratorExp elt [⟨tg, iter, ifs, 0⟩] scope gpos) s4 H4 cenv it fp pn) [] (wipe σ own) H' s → tn i s.heap → (∀ b ∈ fp, H' b = none) →
      Seg (model X.prog X.w) X.A.in1.in1 (fun n s0 r s1 => r = .ok .next ∧ GEndP (gCx X (.GeneratorExp elt [⟨tg, iter, ifs, 0⟩] scope gpos) s4 H4 cenv it fp pn) (wipe σ own) stopb Q n s0 s1)
        (GProto (gCx X (.GeneratorExp elt [⟨tg, iter, ifs, 0⟩] scope gpos) s4 H4 cenv it fp pn) (wipe σ own) fp tn W stopb Q) n s0
        (.compLoop (.GeneratorExp elt [⟨tg, iter, ifs, 0⟩] scope gpos) 0 (.ref it) .none cenv) ((model X.prog X.w).den (.compLoop (.GeneratorExp elt [⟨tg, iter, ifs, 0⟩] scope gpos) 0 (.ref it) .none cenv)) [] s := by
  intro m
  induction m using Nat.strongRecOn with
  | ind m ih =>
    intro n i s0 s H' hmn w I st nf
    have fpk : ∀ {σ' : L2.St} {H' : Hp} {s' : Shared}, Inv (gCx X (.GeneratorExp elt [⟨tg, iter, ifs, 0⟩] scope gpos) s4 H4 cenv it fp pn) [] σ' H' s' → (∀ b ∈ fp, H' b = none) → ∀ b ∈ fp, FpOk (gCx X (.GeneratorExp elt [⟨tg, iter, ifs, 0⟩] scope gpos) s4 H4 cenv it fp pn) [] H' b := fun {σ' H' s'} I' hn b hb =>
      ⟨hn b hb, (I'.ok.exf b hb).1, I'.ok.exfs b hb, .inl hb, (I'.ok.exf b hb).2, fun p hp => hpn p (by simpa using hp) b hb⟩
    show Seg _ _ _ _ n s0 _ ((compTurn (.GeneratorExp elt [⟨tg, iter, ifs, 0⟩] scope gpos) 0 (.ref it) .none cenv).onRaise (leaving cenv)) [] s
    rw [compTurn_gen, Sem.onRaise_eq_wrap]
    refine seg_bind_wrap (wpAny_standAt ?_)
    rcases turn i m H' w with ⟨stop, q⟩ | ⟨go, Nx, hNx, step⟩
    · refine seg_bind_wrap (thnF (T.done (gCx X (.GeneratorExp elt [⟨tg, iter, ifs, 0⟩] scope gpos) s4 H4 cenv it fp pn) rfl rfl rfl hc i [] s _ H' (fun _ _ => False) I (fpk I nf) st stop) fun r s1 z => ?_)
      obtain ⟨rfl, I1⟩ := z
      exact seg_end (.ok .next) ⟨rfl, H', I1, q⟩
    · refine seg_bind_wrap (thnF (T.item (gCx X (.GeneratorExp elt [⟨tg, iter, ifs, 0⟩] scope gpos) s4 H4 cenv it fp pn) rfl rfl rfl hc i [] s _ H' (fun _ _ => False) I (fpk I nf) st go) fun r s1 z => ?_)
      obtain ⟨u, rfl, z⟩ := z
      refine seg_bind_wrap (thnF z fun _ s2 z2 => ?_)
      obtain ⟨x, H2, I2, r2, y2, st2, n2⟩ := z2
      have P2 := I2.pinned (fpk I2 n2) (T.obj _ _ st2)
      refine seg_bind_wrap (thnF (pg.run _ s2 _ H2 x u _ P2 r2 (step x H2 y2)) fun _ s3 z3 => ?_)
      obtain ⟨σ3, H3, I3, hw, q3⟩ := z3
      refine seg_bind_wrap (thnF (pt.run _ s3 σ3 H3 _ I3 q3) fun b sb zb => ?_)
      obtain ⟨Hb, Ib, qb⟩ := zb
      have back : ∀ {s' : Shared} {H' : Hp}, Inv (gCx X (.GeneratorExp elt [⟨tg, iter, ifs, 0⟩] scope gpos) s4 H4 cenv it fp pn) ([] ++ pinsAt fp s2.heap) σ3 H' s' →
          Inv (gCx X (.GeneratorExp elt [⟨tg, iter, ifs, 0⟩] scope gpos) s4 H4 cenv it fp pn) [] (wipe σ own) H' s' ∧ tn (i + 1) s'.heap ∧ ∀ b ∈ fp, H' b = none := fun {s' H'} I' => by
        have pin' : ∀ b ∈ fp, ∀ o, s2.heap.get? b = some o → s'.heap.get? b = some o ∧ H' b = none := fun b hb o e =>
          have y := I'.pin (b, o) (List.mem_append_right _ (List.mem_append_right _ (mem_pinsAt hb e)))
          ⟨y.1, y.2.1⟩
        have hl : (wipe σ own).length = σ3.length := by
          rw [← hw, wipe_length]
        refine ⟨(I'.unpinned (pins := [])).weak hl (fun j v e => ?_), T.keep _ _ _ st2 (fun b hb o e => (pin' b hb o e).1), fun b hb => ?_⟩
        · rw [← hw] at e
          exact (wipe_some e).1
        · obtain ⟨o, e, _⟩ := T.obj _ _ st2 b hb
          exact (pin' b hb o e).2
      cases b with
      | false =>
        simp only [Bool.false_eq_true, if_false] at qb ⊢
        obtain ⟨m', hm, w'⟩ := hNx _ qb
        obtain ⟨I', st', n'⟩ := back Ib
        exact seg_again rfl (ih m' hm n (i + 1) s0 sb Hb (Nat.lt_trans hm hmn) w' I' st' n')
      | true =>
        simp only [if_true] at qb ⊢
        have hy : ∀ v, yieldOut cenv v = yieldValue v := fun v => by simp only [yieldOut, hco, Bool.false_eq_true, if_false]
        simp only [hy]
        rw [Sem.bind_eq_wrap', Sem.bind_eq_wrap', Sem.wrap_wrap, Sem.wrap_wrap]
        refine seg_wrap (thnF (pe.run _ sb σ3 Hb _ Ib qb) fun z sy zy => ?_)
        obtain ⟨v, Hy, Iy, ry, qy⟩ := zy
        obtain ⟨I', st', n'⟩ := back Iy
        obtain ⟨n1, rfl⟩ : ∃ n1, n = n1 + 1 := ⟨n - 1, by omega⟩
        refine seg_at (seg_yield rfl rfl rfl ?_)
        rcases qy with ⟨rfl, q⟩ | ⟨rfl, q⟩
        · cases ry
          exact ⟨stopb, Hy, rfl, I', .inl ⟨rfl, q⟩⟩
        · cases ry
          obtain ⟨m', hm, w'⟩ := hNx _ q
          refine ⟨!stopb, Hy, rfl, I', .inr ⟨rfl, i + 1, m', by omega, w', fun s'' hh ho hb => ?_⟩⟩
          exact seg_again rfl (ih m' hm n1 (i + 1) s'' s'' Hy (by omega) w' (inv_gens I' hh ho hb) (by rw [hh]; exact st') n')
/-- the start of the generator's code -/
theorem gen_begin {n : Nat} {s0 s : Shared} {R : GenEnd} {Y : Protocol} (T : Turn X.prog X.w X.K tg J fp it tn) (st : tn 0 s.heap)
    (loop : Seg (model X.prog X.w) X.A.in1.in1 R Y n s0 (.compLoop (.GeneratorExp elt [⟨tg, iter, ifs, 0⟩] scope gpos) 0 (.ref it) .none cenv) ((model X.prog X.w).den (.compLoop (.GeneratorExp elt [⟨tg, iter, ifs, 0⟩] scope gpos) 0 (.ref it) .none cenv)) [] s) :
    Seg (model X.prog X.w) X.A.in1.in1 R Y n s0 (.compStart (.GeneratorExp elt [⟨tg, iter, ifs, 0⟩] scope gpos) 0 (.ref it) .none cenv) ((model X.prog X.w).den (.compStart (.GeneratorExp elt [⟨tg, iter, ifs, 0⟩] scope gpos) 0 (.ref it) .none cenv)) [] s := by
  show Seg _ _ _ _ n s0 _ ((compStart (.GeneratorExp elt [⟨tg, iter, ifs, 0⟩] scope gpos) 0 (.ref it) .none cenv).onRaise (leaving cenv)) [] s
  unfold compStart
  rw [Sem.onRaise_eq_wrap]
  refine seg_bind_wrap (wpAny_askSetting ?_)
  split
  · exact seg_again rfl loop
  · refine seg_bind_wrap (wpAny_rule ?_)
    show Seg _ _ _ _ n s0 _ ((standAt iter.pos >>= _).wrap _ _ _ _) [] s
    refine seg_bind_wrap (wpAny_standAt (seg_bind_wrap ?_))
    exact T.self _ 0 s _ _ st (seg_again rfl loop)
end
/-- the generator at a, number gn, is asleep (or fresh), with n turns at most -/
def Asleep (X Y : Cx) (σw : L2.St) (fp : List Addr) (tn : Nat → Heap → Prop) (W : Nat → Nat → Hp → Prop) (stopb : Bool) (Q : VK) (gn n : Nat) (s : Shared) : Prop :=
  ∃ (gs : GenState) (H' : Hp), s.gens[gn]? = some gs ∧ Inv Y [] σw H' s ∧ ∀ s'' : Shared, s''.heap = s.heap → s''.os = s.os → AllBare s''.gens →
    gs.Goes (model X.prog X.w) X.A.in1.in1 (fun n s0 r s1 => r = .ok .next ∧ GEndP Y σw stopb Q n s0 s1) (GProto Y σw fp tn W stopb Q) n (.send .none) s''
section
variable {X Y : Cx} {σw : L2.St} {fp : List Addr} {tn : Nat → Heap → Prop} {W : Nat → Nat → Hp → Prop} {Q : VK} {gn : Nat} {a : Addr} {go : Obj} {R : Result → Shared → Prop}
theorem set_at {s : Shared} {x : GenState} (h : gn < s.gens.size) : (s.setGen gn x).gens[gn]? = some x := by
  show (s.gens.setIfInBounds gn x)[gn]? = some x
  rw [Array.getElem?_setIfInBounds_self_of_lt h]
/-- one waking of the generator -/
theorem wake {stopb : Bool} {n : Nat} {s : Shared} {Q' : Option Value → Shared → Prop} {E : Value → Shared → Prop} (hh : X.A.handled = none) (hroom : X.A.depth < recursionLimit) (hp : (a, go) ∈ Y.pn) (hgo : ∀ h : Heap, h.get? a = some go → h.IsGen a gn) (S : Asleep X Y σw fp tn W stopb Q gn n s)
    (stop : ∀ s' H', Inv Y [] σw H' s' → Q (.bl stopb) H' → Q' (some (.bool stopb)) s') (next : ∀ s' m, m < n → Asleep X Y σw fp tn W stopb Q gn m s' → Q' (some (.bool (!stopb))) s') (done : ∀ s' H', Inv Y [] σw H' s' → Q (.bl (!stopb)) H' → Q' none s') :
    wpAny (model X.prog X.w) X.A.in1 (pyNext (.ref a)) Q' E s := by
  obtain ⟨gs, H', hg, I, hG⟩ := S
  have hlt : gn < s.gens.size := by
    rcases Nat.lt_or_ge gn s.gens.size with z | z
    · exact z
    · rw [Array.getElem?_eq_none z] at hg
      cases hg
  have ig : s.heap.IsGen a gn := hgo _ (I.pin (a, go) (List.mem_append_left _ hp)).1
  refine GenW.wpAny_gsz (n := s.gens.size) (Nat.le_refl _) ?_
  refine wpAny_pyNext_genexpQ (A := X.A.in1) hh I.nolimit hroom ig hg (hG _ rfl rfl (bare_set I.bare rfl)) (fun v s1 gs' hb hv sz => ?_) (fun s1 hp1 h' hk sz => ?_)
  · obtain ⟨k, H1, rfl, I1, z⟩ := hv
    have sz1 : gn < s1.gens.size := by
      have e : (s1.setGen gn gs').gens.size = s1.gens.size := GenW.setGen_size _ _ _
      rw [e] at sz
      omega
    have I2 : Inv Y [] σw H1 (s1.setGen gn gs') := inv_gens I1 rfl rfl (bare_set I1.bare hb)
    rcases z with ⟨rfl, q⟩ | ⟨rfl, i, m, hm, w, kap⟩
    · exact stop _ H1 I2 q
    · cases n with
      | zero => omega
      | succ n1 =>
        refine next _ n1 (Nat.lt_succ_self _) ⟨gs', H1, set_at sz1, I2, fun s'' h1 h2 h3 => ?_⟩
        exact kap s'' h1 h2 h3
  · obtain ⟨H1, I1, q⟩ := hp1
    refine done _ H1 ?_ q
    have I2 : Inv Y [] σw H1 (s1.setGen gn .finished) := inv_gens I1 rfl rfl (bare_set I1.bare rfl)
    exact I2.kept (h' := h') (t' := s1.toks) fun b o e => hk b o e
theorem any_loop (hh : X.A.handled = none) (hroom : X.A.depth < recursionLimit) (hp : (a, go) ∈ Y.pn) (hgo : ∀ h : Heap, h.get? a = some go → h.IsGen a gn)
    (fin : ∀ s' H' b, Inv Y [] σw H' s' → Q (.bl b) H' → R (.ok (.ret (.bool b))) s') : ∀ (n : Nat) (s : Shared), Asleep X Y σw fp tn W true Q gn n s → codeAny (model X.prog X.w) X.A (.builtin "any.loop" ⟨[.ref a], []⟩) R s := by
  intro n
  induction n using Nat.strongRecOn with
  | ind n ih =>
    intro s S
    refine codeAny_builtin F.entry_any_loop ?_
    rw [Around.under_plainId F.plain_any_loop _]
    show wpAny _ X.A.in1 (pyNext (.ref a) >>= _) _ _ s
    refine wpAny_bind (wake hh hroom hp hgo S (fun s' H' I q => ?_) (fun s' m hm S' => ?_) (fun s' H' I q => ?_))
    · refine wpAny_bind (wpAny_holding (wpAny_truthy_bool (wpAny_bind (wpAny_letGo ?_))))
      simp only [if_true]
      exact wpAny_bind (wpAny_rule (wpAny_pure (fin s' H' true I q)))
    · refine wpAny_bind (wpAny_holding (wpAny_truthy_bool (wpAny_bind (wpAny_letGo ?_))))
      simp only [Bool.not_true, Bool.false_eq_true, if_false]
      exact wpAny_pure ⟨plainId_quiet F.plain_any_loop _, ih m hm s' S'⟩
    · exact wpAny_bind (wpAny_rule (wpAny_pure (fin s' H' false I q)))
theorem all_loop (hh : X.A.handled = none) (hroom : X.A.depth < recursionLimit) (hp : (a, go) ∈ Y.pn) (hgo : ∀ h : Heap, h.get? a = some go → h.IsGen a gn)
    (fin : ∀ s' H' b, Inv Y [] σw H' s' → Q (.bl b) H' → R (.ok (.ret (.bool b))) s') : ∀ (n : Nat) (s : Shared), Asleep X Y σw fp tn W false Q gn n s → codeAny (model X.prog X.w) X.A (.builtin "all.loop" ⟨[.ref a], []⟩) R s := by
  intro n
  induction n using Nat.strongRecOn with
  | ind n ih =>
    intro s S
    refine codeAny_builtin F.entry_all_loop ?_
    rw [Around.under_plainId F.plain_all_loop _]
    show wpAny _ X.A.in1 (pyNext (.ref a) >>= _) _ _ s
    refine wpAny_bind (wake hh hroom hp hgo S (fun s' H' I q => ?_) (fun s' m hm S' => ?_) (fun s' H' I q => ?_))
    · refine wpAny_bind (wpAny_holding (wpAny_truthy_bool (wpAny_bind (wpAny_letGo ?_))))
      simp only [Bool.false_eq_true, if_false]
      exact wpAny_bind (wpAny_rule (wpAny_pure (fin s' H' false I q)))
    · refine wpAny_bind (wpAny_holding (wpAny_truthy_bool (wpAny_bind (wpAny_letGo ?_))))
      simp only [Bool.not_false, if_true]
      exact wpAny_pure ⟨plainId_quiet F.plain_all_loop _, ih m hm s' S'⟩
    · exact wpAny_bind (wpAny_rule (wpAny_pure (fin s' H' true I q)))
end
/-- any(elt for target in iter if ..) (stopb true), all(..) (stopb false): W by the turn and a measure, Nx what a turn is to reach; P: the def's table of code objects -/
def tAA (P : Addr) (stopb : Bool) (wi : TI) (g : TG) (tt : TT) (te : TE) (vs : List Nat) : TE := fun σ H Q => wi σ H fun J H1 => TabG H1 P ∧ ∀ H2, Tabbed P H1 H2 → ∃ W : Nat → Nat → Hp → Prop, (∃ m, W 0 m H2) ∧
  ∀ i m H, W i m H → (J.stop i H ∧ Q (.bl (!stopb)) H) ∨ (J.go i H ∧ ∃ Nx : Hp → Prop, (∀ H', Nx H' → ∃ m', m' < m ∧ W (i + 1) m' H') ∧ ∀ x H', J.yld i H x H' → g x (wipe σ vs) H' fun σ2 H2 => wipe σ2 vs = wipe σ vs ∧ tt σ2 H2 fun b H3 =>
    if b = true then te σ2 H3 fun y H4 => (y = .bl stopb ∧ Q (.bl stopb) H4) ∨ (y = .bl (!stopb) ∧ Nx H4) else Nx H3)
/-- over a tuple that stays -/
theorem aa_tup {K : PySem.W.Frag} {a : Addr} {xs : List V} {g : TG} {tt : TT} {te : TE} {vs : List Nat} {σ : L2.St} {H1 : Hp} {stopb : Bool} {Q : VK} (Pv : Nat → Hp → Prop) (h0 : Pv 0 H1) (hl : ∀ i H, i ≤ xs.length → Pv i H → SqT K H a xs)
    (hs : ∀ i x H, xs[i]? = some x → Pv i H → g x (wipe σ vs) H fun σ2 H2 => wipe σ2 vs = wipe σ vs ∧ tt σ2 H2 fun b H3 => if b = true then te σ2 H3 fun y H4 => (y = .bl stopb ∧ Q (.bl stopb) H4) ∨ (y = .bl (!stopb) ∧ Pv (i + 1) H4) else Pv (i + 1) H3) (hd : ∀ H, Pv xs.length H → Q (.bl (!stopb)) H) :
    ∃ W : Nat → Nat → Hp → Prop, (∃ m, W 0 m H1) ∧ ∀ i m H, W i m H → ((Itt K a).stop i H ∧ Q (.bl (!stopb)) H) ∨ ((Itt K a).go i H ∧ ∃ Nx : Hp → Prop, (∀ H', Nx H' → ∃ m', m' < m ∧ W (i + 1) m' H') ∧ ∀ x H', (Itt K a).yld i H x H' → g x (wipe σ vs) H' fun σ2 H2 => wipe σ2 vs = wipe σ vs ∧ tt σ2 H2 fun b H3 =>
      if b = true then te σ2 H3 fun y H4 => (y = .bl stopb ∧ Q (.bl stopb) H4) ∨ (y = .bl (!stopb) ∧ Nx H4) else Nx H3) := by
  refine ⟨fun i m H => i + m = xs.length ∧ Pv i H, ⟨xs.length, Nat.zero_add _, h0⟩, fun i m H ⟨e, p⟩ => ?_⟩
  have sq := hl i H (by omega) p
  cases m with
  | zero =>
    have ei : i = xs.length := by omega
    subst ei
    exact .inl ⟨⟨xs, sq, Nat.le_refl _⟩, hd H p⟩
  | succ m =>
    have lt : i < xs.length := by omega
    refine .inr ⟨⟨xs, xs[i], sq, List.getElem?_eq_getElem lt⟩, Pv (i + 1), fun H' q => ⟨m, Nat.lt_succ_self m, by omega, q⟩, fun x H' y => ?_⟩
    obtain ⟨rfl, y⟩ := y
    exact hs i x _ (y xs sq) p
section
variable {X : Cx} {pins : List (Addr × Obj)} {σ : L2.St} {H : Hp} {s : Shared} {c P : Addr} {elt tg iter : Expr} {ifs : List Expr} {scope : Scope} {own : List (Str × Nat)} {gpos : Pos} {wi : TI} {g : TG} {tt : TT} {te : TE} {stopb : Bool} {k : Nat}
/-- the scope of a generator expression: no cells of its own -/
structure GSc (scope : Scope) : Prop where
  co : scope.isCoroutine = false
  nc : ∀ y ∈ scope.names, y.2 ≠ .cell
  dot : scope.names.lookup (".0" : Str) = some NameKind.local
theorem gen_make {Q : VK} {Q' : Value → Shared → Prop} (hr : Room k X.A) (hc : X.calm = true) (hN : X.N.Nodup) (TB : TabB X.base X.mg c P) (hcode : X.env.code = .ref c) (hi : PI X tg iter wi) (ok : BlkOk X.N X.env.scope scope own) (S : GSc scope)
    (hg : ∀ (s : Shared) (H : Hp) (C : Addr) (code : Value) (it : Addr) (fp : List Addr) (pn : List (Addr × Obj)), PG (gCx X (.GeneratorExp elt [⟨tg, iter, ifs, 0⟩] scope gpos) s H (genEnv scope (cloFrom X.env.cells scope.names []) C code builtinsNs X.env) it fp pn) tg g)
    (ht : ∀ (s : Shared) (H : Hp) (C : Addr) (code : Value) (it : Addr) (fp : List Addr) (pn : List (Addr × Obj)), PTs (gCx X (.GeneratorExp elt [⟨tg, iter, ifs, 0⟩] scope gpos) s H (genEnv scope (cloFrom X.env.cells scope.names []) C code builtinsNs X.env) it fp pn) ifs tt)
    (he : ∀ (s : Shared) (H : Hp) (C : Addr) (code : Value) (it : Addr) (fp : List Addr) (pn : List (Addr × Obj)), PE (gCx X (.GeneratorExp elt [⟨tg, iter, ifs, 0⟩] scope gpos) s H (genEnv scope (cloFrom X.env.cells scope.names []) C code builtinsNs X.env) it fp pn) elt te)
    (hs : ∀ x, genFold iter X.env x = pure x) (I : Inv X pins σ H s) (h : tAA P stopb wi g tt te (own.map (·.2)) σ H Q)
    (hQ : ∀ (a : Addr) (go : Obj) (gn n : Nat) (Y : Cx) (fp : List Addr) (tn : Nat → Heap → Prop) (W : Nat → Nat → Hp → Prop) (s5 : Shared), (a, go) ∈ Y.pn → (∀ h : Heap, h.get? a = some go → h.IsGen a gn) → (∀ s' H', Inv Y [] (wipe σ (own.map (·.2))) H' s' → Inv X pins σ H' s') → s5.heap.get? a = some go →
      Asleep X Y (wipe σ (own.map (·.2))) fp tn W stopb Q gn n s5 → Q' (.ref a) s5) :
    wpAny (model X.prog X.w) X.A (eval (.GeneratorExp elt [⟨tg, iter, ifs, 0⟩] scope gpos) X.env) Q' X.xe s := by
  have hfree : ∀ y ∈ scope.names, y.2 = .free → ∃ c, X.env.cells.lookup y.1 = some c := fun y hy e => by
    rcases ok.free y hy e with z | z
    · exact I.ok.has _ (.inl z)
    · exact I.ok.has _ (.inr z)
  refine wpAny_GeneratorExp_make S.co (closure_ok hfree) S.nc S.dot ok.kind (by have := hr.dp; omega) (thn (hi.run pins s σ H _ I h) fun xv s1 hx => thn hx fun itv s2 h2 => ?_) hs
  obtain ⟨it, fp, tn, J, H2, rfl, I2, T, st2, f2, ⟨ps, hP, hT⟩, q⟩ := h2
  have hPs : s2.heap.get? P = some { cls := .none, data := .fields ps } := I2.hok P _ hP
  have cd : PySem.W.CodeHd s2.heap c P := TB.code.keeps I2.bk
  have szf : ∀ b ∈ fp, b < s2.heap.objs.size := fun b hb => by
    obtain ⟨o, e, _⟩ := T.obj _ _ st2 b hb
    exact Heap.lt_size e
  have nP : ∀ b ∈ fp, b ≠ P := fun b hb z => by
    have e := (f2 b hb).1
    rw [z, hP] at e
    cases e
  refine ⟨I2.nolimit, ?_⟩
  have cont : ∀ (code : Value) (h3 : Heap) (tk : Nat) (more : Array Value), Heap.ExtBut P s2.heap h3 → s2.heap.objs.size ≤ h3.objs.size → h3.get? P = some { cls := .none, data := .fields (ps ++ more) } → TriplesOk (ps ++ more).toList →
      wpAny (model X.prog X.w) X.A (builtinsFor X.env.globals X.env.builtins) (fun bi s4 => ∀ h', h'.Ns s4.heap.objs.size (fun y => if y = ".0" then some (.ref it) else none) → Heap.SameBut s4.heap.objs.size (s4.heap.push { cls := .type "frame", data := .dict #[] }) h' →
        Q' (.ref h'.objs.size) { s4 with
          gens := s4.gens.push (.fresh (.compStart (.GeneratorExp elt [⟨tg, iter, ifs, 0⟩] scope gpos) 0 (.ref it) .none (genEnv scope (cloFrom X.env.cells scope.names []) s4.heap.objs.size code bi X.env))),
          toks := s4.toks + 1 + 1 + 1,
          heap := h'.push { cls := .type "generator", data := .fields #[.int s4.gens.size 0, .str "<genexpr>" (s4.toks + 1), .str (X.env.qual ++ "<genexpr>") (s4.toks + 1 + 1)] } }) X.xe { s2 with heap := h3, toks := tk } := by
    intro code h3 tk more hx hsz hP3 hT3
    obtain ⟨bm, ob, e1, e2, e3, e4, e5, e6, e7, e8⟩ := TB.bm
    have I3 : Inv X pins σ (upd H2 P (.tbl (ps ++ more))) { s2 with heap := h3, toks := tk } := inv_tab (g' := s2.gens) (d' := s2.drawn) (t' := tk) I2 hP (fun b o hb e => hx b o hb e) hP3 I2.bare
    have f3 : ∀ b ∈ fp, FpOk X pins (upd H2 P (.tbl (ps ++ more))) b ∧ b < h3.objs.size := fun b hb => ⟨⟨by rw [upd_ne (nP b hb)]; exact (f2 b hb).1, (f2 b hb).2⟩, Nat.lt_of_lt_of_le (szf b hb) hsz⟩
    have st3 : tn 0 h3 := T.keep _ _ _ st2 fun b hb o e => hx b o (nP b hb) e
    obtain ⟨W, ⟨m0, w0⟩, turn⟩ := q (upd H2 P (.tbl (ps ++ more))) ⟨⟨_, upd_same, hT3⟩, fun b hb => upd_ne hb⟩
    refine wpAny_builtinsFor (m := X.mg) (by rw [I3.ok.glob]; exact I3.mod.glob.keeps I3.bk) e1 e2 (hx _ _ e4 (I2.bk _ _ e5)) e6 e7 e8 ?_
    intro h' hn' hs'
    have hsz' : h'.objs.size = h3.objs.size + 1 := by
      rw [hs'.1]
      exact Heap.size_push ..
    have kp : ∀ b o, h3.get? b = some o → (h'.push { cls := .type "generator", data := .fields #[.int s2.gens.size 0, .str "<genexpr>" (tk + 1), .str (X.env.qual ++ "<genexpr>") (tk + 1 + 1)] }).get? b = some o := fun b o e =>
      Heap.get?_push_of_some _ (hs'.extBut b o (Nat.ne_of_lt (Heap.lt_size e)) (Heap.get?_push_of_some _ e))
    have st5 := T.keep _ _ _ st3 fun b hb o e => kp b o e
    have nf : ∀ b ∈ fp, (upd H2 P (.tbl (ps ++ more))) b = none := fun b hb => (f3 b hb).1.1
    have IG := gen_start (ge := .GeneratorExp elt [⟨tg, iter, ifs, 0⟩] scope gpos) (it := it) (code := code) (tk := tk + 1 + 1 + 1)
      (gs := s2.gens.push (.fresh (.compStart (.GeneratorExp elt [⟨tg, iter, ifs, 0⟩] scope gpos) 0 (.ref it) .none (genEnv scope (cloFrom X.env.cells scope.names []) h3.objs.size code builtinsNs X.env)))) I3 hc ok hN S.nc f3
      (by show pushEnvs [_] (pushEnvs [] X.A.frames) = _; rw [I.ok.frames]; rfl) (I2.bare.push rfl) kp (hn'.keeps fun b o e => Heap.get?_push_of_some _ e) (Heap.get?_push_size h' rfl) (show h3.objs.size < h'.objs.size by omega) (fun v z => by cases z)
    refine hQ h'.objs.size _ s2.gens.size (m0 + 1) _ fp tn W _ List.mem_cons_self (fun h0 e => ?_) (fun s' H' J' => ?_) (Heap.get?_push_size h' rfl) ⟨_, _, Array.getElem?_push_size .., IG, fun s'' h1 h2 h3' => ?_⟩
    · exact ⟨_, _, _, e, rfl, rfl, rfl⟩
    · exact I3.call' (ch := fp) J'.os J'.base J'.hok J'.bare fun b hb => ⟨(f3 b hb).1.2.2.2.1, (f3 b hb).1.2.1, (f3 b hb).1.2.2.2.2.1, (f3 b hb).1.2.2.2.2.2⟩
    · refine ⟨rfl, gen_begin T (by rw [h1]; exact st5) ?_⟩
      refine gen_loop hc S.co T (fun p hp b hb z => ?_) (hg _ _ _ _ _ _ _) (ht _ _ _ _ _ _ _) (he _ _ _ _ _ _ _) turn m0 (m0 + 1) 0 s'' s'' _ (Nat.lt_succ_self _) w0 (inv_gens IG h1 h2 h3') (by rw [h1]; exact st5) nf
      rw [List.mem_singleton.mp hp] at z
      have z1 := (f3 b hb).2
      rw [← z] at z1
      have z2 : h'.objs.size < h3.objs.size := z1
      omega
  cases hf : codeAmong gpos ps.toList with
  | none =>
    refine wpAny_genexprCodeX hcode (cd.code hPs hT) (cd.tab hPs) hf fun c' h' tk hx hge hlt hco' _ htab' _ => ?_
    have tr : TriplesOk (ps ++ #[rawInt gpos.line, rawInt gpos.col, Value.ref c']).toList := by
      obtain ⟨_, _, _, _, _, _, _, _, _, _, _, _, _, _, _, _, _, _, _, z, _⟩ := hco'
      exact z
    exact cont _ h' tk _ hx (Nat.le_trans hge (Nat.le_of_lt hlt)) htab'.2 tr
  | some cv =>
    refine wpAny_genexprCode_hit hcode (cd.code hPs hT) hf ?_
    exact cont cv s2.heap s2.toks #[] (Heap.ExtBut.refl _ _) (Nat.le_refl _) (by rw [Array.append_empty]; exact hPs) (by rw [Array.append_empty]; exact hT)
theorem pe_any {p pos : Pos} (hr : Room k X.A) (hb : Gl X "any") (hm : X.mg "any" = none) (hc : X.calm = true) (hN : X.N.Nodup) (TB : TabB X.base X.mg c P) (hcode : X.env.code = .ref c) (hi : PI X tg iter wi) (ok : BlkOk X.N X.env.scope scope own) (S : GSc scope)
    (hg : ∀ (s : Shared) (H : Hp) (C : Addr) (code : Value) (it : Addr) (fp : List Addr) (pn : List (Addr × Obj)), PG (gCx X (.GeneratorExp elt [⟨tg, iter, ifs, 0⟩] scope gpos) s H (genEnv scope (cloFrom X.env.cells scope.names []) C code builtinsNs X.env) it fp pn) tg g)
    (ht : ∀ (s : Shared) (H : Hp) (C : Addr) (code : Value) (it : Addr) (fp : List Addr) (pn : List (Addr × Obj)), PTs (gCx X (.GeneratorExp elt [⟨tg, iter, ifs, 0⟩] scope gpos) s H (genEnv scope (cloFrom X.env.cells scope.names []) C code builtinsNs X.env) it fp pn) ifs tt)
    (he : ∀ (s : Shared) (H : Hp) (C : Addr) (code : Value) (it : Addr) (fp : List Addr) (pn : List (Addr × Obj)), PE (gCx X (.GeneratorExp elt [⟨tg, iter, ifs, 0⟩] scope gpos) s H (genEnv scope (cloFrom X.env.cells scope.names []) C code builtinsNs X.env) it fp pn) elt te)
    (hs : ∀ x, genFold iter X.env x = pure x := by intro _; rfl)
    (hst : starEach [.GeneratorExp elt [⟨tg, iter, ifs, 0⟩] scope gpos] X.env = (false, eval (.GeneratorExp elt [⟨tg, iter, ifs, 0⟩] scope gpos) X.env) :: starEach [] X.env := by rfl) :
    PE X (.Call (.Name "any" p) [.GeneratorExp elt [⟨tg, iter, ifs, 0⟩] scope gpos] [] pos) (tAA P true wi g tt te (own.map (·.2))) := by
  refine ⟨fun pins s σ H Q I h => wpAny_Call_Name_kw (ld_blt I hb hm boot_any (PyProof.Rows.callWith_builtin1 ?_ hst (by rfl)))⟩
  rw [hst]
  refine Calls.spliced_cons (gen_make hr hc hN TB hcode hi ok S hg ht he hs I h fun a go gn n Y fp tn W s5 h1 h2 h3 h4 SL => Calls.spliced_nil ?_)
  refine call_function_tree F.kind_any F.plain_any F.entry_any (F.args_any1 _) ?_
  unfold Builtin.«any»
  refine wpAny_bind (m := oneArg "any" _) (wpAny_pure (wpAny_bind (wpAny_pyIter_gen (h2 _ h4) (wpAny_pure ⟨plainId_quiet F.plain_any_loop _, ?_⟩))))
  exact any_loop (I.ok.hd hc) hr.depth h1 h2 (fun s' H' b J q => ⟨.bl b, H', h3 s' H' J, rfl, q⟩) n s5 SL
theorem pe_all {p pos : Pos} (hr : Room k X.A) (hb : Gl X "all") (hm : X.mg "all" = none) (hc : X.calm = true) (hN : X.N.Nodup) (TB : TabB X.base X.mg c P) (hcode : X.env.code = .ref c) (hi : PI X tg iter wi) (ok : BlkOk X.N X.env.scope scope own) (S : GSc scope)
    (hg : ∀ (s : Shared) (H : Hp) (C : Addr) (code : Value) (it : Addr) (fp : List Addr) (pn : List (Addr × Obj)), PG (gCx X (.GeneratorExp elt [⟨tg, iter, ifs, 0⟩] scope gpos) s H (genEnv scope (cloFrom X.env.cells scope.names []) C code builtinsNs X.env) it fp pn) tg g)
    (ht : ∀ (s : Shared) (H : Hp) (C : Addr) (code : Value) (it : Addr) (fp : List Addr) (pn : List (Addr × Obj)), PTs (gCx X (.GeneratorExp elt [⟨tg, iter, ifs, 0⟩] scope gpos) s H (genEnv scope (cloFrom X.env.cells scope.names []) C code builtinsNs X.env) it fp pn) ifs tt)
    (he : ∀ (s : Shared) (H : Hp) (C : Addr) (code : Value) (it : Addr) (fp : List Addr) (pn : List (Addr × Obj)), PE (gCx X (.GeneratorExp elt [⟨tg, iter, ifs, 0⟩] scope gpos) s H (genEnv scope (cloFrom X.env.cells scope.names []) C code builtinsNs X.env) it fp pn) elt te)
    (hs : ∀ x, genFold iter X.env x = pure x := by intro _; rfl)
    (hst : starEach [.GeneratorExp elt [⟨tg, iter, ifs, 0⟩] scope gpos] X.env = (false, eval (.GeneratorExp elt [⟨tg, iter, ifs, 0⟩] scope gpos) X.env) :: starEach [] X.env := by rfl) :
    PE X (.Call (.Name "all" p) [.GeneratorExp elt [⟨tg, iter, ifs, 0⟩] scope gpos] [] pos) (tAA P false wi g tt te (own.map (·.2))) := by
  refine ⟨fun pins s σ H Q I h => wpAny_Call_Name_kw (ld_blt I hb hm (show bootBuiltins "all" = some (.builtin "all") by decide +kernel) (PyProof.Rows.callWith_builtin1 ?_ hst (by rfl)))⟩
  rw [hst]
  refine Calls.spliced_cons (gen_make hr hc hN TB hcode hi ok S hg ht he hs I h fun a go gn n Y fp tn W s5 h1 h2 h3 h4 SL => Calls.spliced_nil ?_)
  refine call_function_tree F.kind_all F.plain_all F.entry_all (F.args_all1 _) ?_
  unfold Builtin.«all»
  refine wpAny_bind (m := oneArg "all" _) (wpAny_pure (wpAny_bind (wpAny_pyIter_gen (h2 _ h4) (wpAny_pure ⟨plainId_quiet F.plain_all_loop _, ?_⟩))))
  exact all_loop (I.ok.hd hc) hr.depth h1 h2 (fun s' H' b J q => ⟨.bl b, H', h3 s' H' J, rfl, q⟩) n s5 SL
end
end Gx
namespace Gk
open PySem
open Sem (wp)
/-! ### what runs well whatever sleeps in the table of generators leaves the sleepers as they are
A sleeper is put into the table in place of each one that shows the same and can't be woken: where all goes well there too, none was woken. -/
/-- woken, it is stuck -/
def bad : Resume → Sem PySem.Fin := fun _ => .unsupported "asleep"
theorem stuck0 {M : Model} {Γ : Ctx} {p : Pos} {m : String} {s s' : Shared} {e : End} : ¬ Runs M Γ p (.unsupported m) [] s e s' := fun h => by cases h
theorem stuck {M : Model} {Γ : Ctx} {p : Pos} {m : String} {fs : List Frame} {s s' : Shared} {e : End} (h : Runs M Γ p (.unsupported m) fs s e s') : False := by
  cases h with
  | segRet a _ => exact stuck0 a
  | segGen a _ => exact stuck0 a
  | segSuspOut _ a => exact stuck0 a
  | segSuspGen _ a _ _ => exact stuck0 a
def ClS : GenState → Prop
  | .suspended _ _ _ _ fs _ => splitAtGen fs = none
  | _ => True
def ClE : End → Prop
  | .susp _ _ _ _ _ _ fs => splitAtGen fs = none
  | .ret _ => True
theorem ClE.st {e : End} (h : ClE e) : ClS e.genState := by
  cases e with
  | ret r => trivial
  | susp v g l k c p fs => exact h
/-- the one shows what the other shows -/
def PR (x y : GenState) : Prop := (∃ k l c p fs cl, x = .suspended bad l c p fs cl ∧ y = .suspended k l c p fs cl) ∨ (x = y ∧ ClS x)
theorem PR.seen {x y : GenState} (h : PR x y) : x.seen = y.seen := by
  rcases h with ⟨k, l, c, p, fs, cl, rfl, rfl⟩ | ⟨rfl, _⟩ <;> rfl
theorem PR.bare {x y : GenState} (h : PR x y) : x.bare = y.bare := by
  rcases h with ⟨k, l, c, p, fs, cl, rfl, rfl⟩ | ⟨rfl, _⟩ <;> rfl
structure Rel (A B : Array GenState) : Prop where
  sz : A.size = B.size
  pr : ∀ (i : Nat) (x : GenState), A[i]? = some x → ∃ y, B[i]? = some y ∧ PR x y
theorem Rel.set {A B : Array GenState} (h : Rel A B) {g : Nat} {x : GenState} (c : ClS x) : Rel (A.setIfInBounds g x) (B.setIfInBounds g x) := by
  refine ⟨by rw [Array.size_setIfInBounds, Array.size_setIfInBounds, h.sz], fun i y e => ?_⟩
  by_cases z : g = i
  · subst z
    by_cases l : g < A.size
    · rw [Array.getElem?_setIfInBounds_self_of_lt l] at e
      cases e
      exact ⟨x, Array.getElem?_setIfInBounds_self_of_lt (by rw [← h.sz]; exact l), .inr ⟨rfl, c⟩⟩
    · rw [Array.getElem?_eq_none (by rw [Array.size_setIfInBounds]; omega)] at e
      cases e
  · rw [Array.getElem?_setIfInBounds_ne z] at e ⊢
    exact h.pr i y e
theorem Rel.push {A B : Array GenState} (h : Rel A B) {x : GenState} (c : ClS x) : Rel (A.push x) (B.push x) := by
  refine ⟨by rw [Array.size_push, Array.size_push, h.sz], fun i y e => ?_⟩
  rw [Array.getElem?_push] at e ⊢
  by_cases z : i = A.size
  · rw [if_pos z] at e
    rw [if_pos (z.trans h.sz)]
    cases e
    exact ⟨x, rfl, .inr ⟨rfl, c⟩⟩
  · rw [if_neg z] at e
    rw [if_neg (fun y => z (y.trans h.sz.symm))]
    exact h.pr i y e
/-- the sleepers are kept -/
def Kp (A A' B B' : Array GenState) : Prop := ∀ (i : Nat) (k : Resume → Sem PySem.Fin) (l : List Value) (c : Code) (p : Pos) (fs : List Frame) (cl : Bool), A[i]? = some (.suspended bad l c p fs cl) → B[i]? = some (.suspended k l c p fs cl) →
  A'[i]? = some (.suspended bad l c p fs cl) ∧ B'[i]? = some (.suspended k l c p fs cl)
theorem Kp.refl (A B : Array GenState) : Kp A A B B := fun _ _ _ _ _ _ _ a b => ⟨a, b⟩
theorem Kp.trans {A A' A'' B B' B'' : Array GenState} (a : Kp A A' B B') (b : Kp A' A'' B' B'') : Kp A A'' B B'' := fun i k l c p fs cl h1 h2 =>
  let ⟨h3, h4⟩ := a i k l c p fs cl h1 h2
  b i k l c p fs cl h3 h4
theorem Kp.set {A B : Array GenState} {g : Nat} {x : GenState} (h : ∀ l c p fs cl, A[g]? ≠ some (.suspended bad l c p fs cl)) : Kp A (A.setIfInBounds g x) B (B.setIfInBounds g x) := fun i k l c p fs cl h1 h2 => by
  have ne : g ≠ i := fun z => h l c p fs cl (by rw [z]; exact h1)
  rw [Array.getElem?_setIfInBounds_ne ne, Array.getElem?_setIfInBounds_ne ne]
  exact ⟨h1, h2⟩
theorem Kp.woke {A A1 A2 B B1 B2 : Array GenState} {g : Nat} {x y : GenState} (h : ∀ l c p fs cl, A[g]? ≠ some (.suspended bad l c p fs cl)) (k1 : Kp (A.setIfInBounds g x) A1 (B.setIfInBounds g x) B1) (k2 : Kp (A1.setIfInBounds g y) A2 (B1.setIfInBounds g y) B2) : Kp A A2 B B2 := fun i k l c p fs cl h1 h2 => by
  have ne : g ≠ i := fun z => h l c p fs cl (by rw [z]; exact h1)
  obtain ⟨h3, h4⟩ := k1 i k l c p fs cl (by rw [Array.getElem?_setIfInBounds_ne ne]; exact h1) (by rw [Array.getElem?_setIfInBounds_ne ne]; exact h2)
  exact k2 i k l c p fs cl (by rw [Array.getElem?_setIfInBounds_ne ne]; exact h3) (by rw [Array.getElem?_setIfInBounds_ne ne]; exact h4)
theorem Kp.push {A B : Array GenState} {x : GenState} : Kp A (A.push x) B (B.push x) := fun i k l c p fs cl h1 h2 => by
  have l1 := (Array.getElem?_eq_some_iff.mp h1).1
  have l2 := (Array.getElem?_eq_some_iff.mp h2).1
  rw [Array.getElem?_push, Array.getElem?_push, if_neg (by omega), if_neg (by omega)]
  exact ⟨h1, h2⟩
abbrev wg (s : Shared) (B : Array GenState) : Shared := { s with gens := B }
/-- what a run of the one table tells of the other -/
def Lk (M : Model) (Γ : Ctx) (p : Pos) (t : Sem PySem.Fin) (fs : List Frame) (s : Shared) (e : End) (s' : Shared) : Prop :=
  splitAtGen fs = none → ∀ B, Rel s.gens B → ∃ B', Runs M Γ p t fs (wg s B) e (wg s' B') ∧ Rel s'.gens B' ∧ ClE e ∧ Kp s.gens s'.gens B B'
theorem split_app : ∀ {fs gs : List Frame}, splitAtGen fs = none → splitAtGen gs = none → splitAtGen (fs ++ gs) = none
  | [], _, _, h => h
  | .gen _ _ _ _ _ :: _, _, h, _ => by cases h
  | .ret k h' g l c p kp :: rest, gs, h, h2 => by
    have h1 : (splitAtGen rest).map _ = none := h
    show (splitAtGen (rest ++ gs)).map _ = none
    rw [split_app (Option.map_eq_none_iff.mp h1) h2]
    rfl
theorem split_tail {k h g l c p kp} {fs : List Frame} (e : splitAtGen (.ret k h g l c p kp :: fs) = none) : splitAtGen fs = none := by
  have e1 : (splitAtGen fs).map _ = none := e
  exact Option.map_eq_none_iff.mp e1
theorem lock {M : Model} {Γ : Ctx} {p : Pos} {t : Sem PySem.Fin} {fs : List Frame} {s : Shared} {e : End} {s' : Shared} (h : Runs M Γ p t fs s e s') : Lk M Γ p t fs s e s' := by
  induction h with
  | done => exact fun _ B R => ⟨B, .done, R, trivial, .refl _ _⟩
  | raise => exact fun _ B R => ⟨B, .raise, R, trivial, .refl _ _⟩
  | again q _ ih => exact fun f B R => let ⟨B', r, R', c, k⟩ := ih f B R; ⟨B', .again q r, R', c, k⟩
  | rule _ ih => exact fun f B R => let ⟨B', r, R', c, k⟩ := ih f B R; ⟨B', .rule r, R', c, k⟩
  | «at» _ ih => exact fun f B R => let ⟨B', r, R', c, k⟩ := ih f B R; ⟨B', .at r, R', c, k⟩
  | load q _ ih => exact fun f B R => let ⟨B', r, R', c, k⟩ := ih f B R; ⟨B', .load q r, R', c, k⟩
  | update q _ ih => exact fun f B R => let ⟨B', r, R', c, k⟩ := ih f B R; ⟨B', .update q r, R', c, k⟩
  | loadIfAlive _ ih => exact fun f B R => let ⟨B', r, R', c, k⟩ := ih f B R; ⟨B', .loadIfAlive r, R', c, k⟩
  | point _ ih => exact fun f B R => let ⟨B', r, R', c, k⟩ := ih f B R; ⟨B', .point r, R', c, k⟩
  | alloc _ ih => exact fun f B R => let ⟨B', r, R', c, k⟩ := ih f B R; ⟨B', .alloc r, R', c, k⟩
  | fresh _ ih => exact fun f B R => let ⟨B', r, R', c, k⟩ := ih f B R; ⟨B', .fresh r, R', c, k⟩
  | ask _ ih => exact fun f B R => let ⟨B', r, R', c, k⟩ := ih f B R; ⟨B', .ask r, R', c, k⟩
  | choose q _ ih => exact fun f B R => let ⟨B', r, R', c, k⟩ := ih f B R; ⟨B', .choose q r, R', c, k⟩
  | os _ ih => exact fun f B R => let ⟨B', r, R', c, k⟩ := ih f B R; ⟨B', .os r, R', c, k⟩
  | handled _ ih => exact fun f B R => let ⟨B', r, R', c, k⟩ := ih f B R; ⟨B', .handled r, R', c, k⟩
  | genState q _ ih =>
    intro f B R
    obtain ⟨B', r, R', c, k⟩ := ih f B R
    obtain ⟨y, hy, pr⟩ := R.pr _ _ q
    rw [pr.seen] at r
    exact ⟨B', .genState hy r, R', c, k⟩
  | stack _ ih => exact fun f B R => let ⟨B', r, R', c, k⟩ := ih f B R; ⟨B', .stack r, R', c, k⟩
  | thread _ ih => exact fun f B R => let ⟨B', r, R', c, k⟩ := ih f B R; ⟨B', .thread r, R', c, k⟩
  | newGen _ ih =>
    intro f B R
    obtain ⟨B', r, R', c, k⟩ := ih f (B.push _) (R.push trivial)
    rw [R.sz] at r
    exact ⟨B', .newGen r, R', c, Kp.push.trans k⟩
  | call _ _ ih1 ih2 =>
    intro f B R
    obtain ⟨B1, r1, R1, c1, k1⟩ := ih1 rfl B R
    obtain ⟨B2, r2, R2, c2, k2⟩ := ih2 f B1 R1
    exact ⟨B2, .call r1 r2, R2, c2, k1.trans k2⟩
  | callSusp _ ih =>
    intro f B R
    obtain ⟨B', r, R', c, k⟩ := ih rfl B R
    exact ⟨B', .callSusp r, R', split_app c rfl, k⟩
  | yield => exact fun _ B R => ⟨B, .yield, R, rfl, .refl _ _⟩
  | resumeFresh q _ qe _ ih1 ih2 =>
    intro f B R
    obtain ⟨y, hy, pr⟩ := R.pr _ _ q
    rcases pr with ⟨_, _, _, _, _, _, z, _⟩ | ⟨rfl, _⟩
    · cases z
    obtain ⟨B1, r1, R1, c1, k1⟩ := ih1 rfl _ (R.set (x := .running) trivial)
    obtain ⟨B2, r2, R2, c2, k2⟩ := ih2 f _ (R1.set c1.st)
    exact ⟨B2, .resumeFresh hy r1 qe r2, R2, c2, Kp.woke (fun l c p fs cl z => by rw [q] at z; cases z) k1 k2⟩
  | resumeSuspended q run qe _ ih1 ih2 =>
    intro f B R
    obtain ⟨y, hy, pr⟩ := R.pr _ _ q
    rcases pr with ⟨_, _, _, _, _, _, z, _⟩ | ⟨rfl, cy⟩
    · cases z
      exact (stuck run).elim
    obtain ⟨B1, r1, R1, c1, k1⟩ := ih1 cy _ (R.set (x := .running) trivial)
    obtain ⟨B2, r2, R2, c2, k2⟩ := ih2 f _ (R1.set c1.st)
    exact ⟨B2, .resumeSuspended hy r1 qe r2, R2, c2, Kp.woke (fun l c p fs cl z => by
      rw [q] at z
      cases z
      exact stuck run) k1 k2⟩
  | resumeJustStarted q v _ ih =>
    intro f B R
    obtain ⟨y, hy, pr⟩ := R.pr _ _ q
    rcases pr with ⟨_, _, _, _, _, _, z, _⟩ | ⟨rfl, _⟩
    · cases z
    obtain ⟨B', r, R', c, k⟩ := ih f B R
    exact ⟨B', .resumeJustStarted hy v r, R', c, k⟩
  | resumeThrowFresh q _ ih =>
    intro f B R
    obtain ⟨y, hy, pr⟩ := R.pr _ _ q
    rcases pr with ⟨_, _, _, _, _, _, z, _⟩ | ⟨rfl, _⟩
    · cases z
    obtain ⟨B', r, R', c, k⟩ := ih f _ (R.set (x := .finished) trivial)
    exact ⟨B', .resumeThrowFresh hy r, R', c, Kp.trans (Kp.set fun l c p fs cl z => by rw [q] at z; cases z) k⟩
  | resumeRunning q _ ih =>
    intro f B R
    obtain ⟨y, hy, pr⟩ := R.pr _ _ q
    rcases pr with ⟨_, _, _, _, _, _, z, _⟩ | ⟨rfl, _⟩
    · cases z
    obtain ⟨B', r, R', c, k⟩ := ih f B R
    exact ⟨B', .resumeRunning hy r, R', c, k⟩
  | resumeFinished q _ ih =>
    intro f B R
    obtain ⟨y, hy, pr⟩ := R.pr _ _ q
    rcases pr with ⟨_, _, _, _, _, _, z, _⟩ | ⟨rfl, _⟩
    · cases z
    obtain ⟨B', r, R', c, k⟩ := ih f B R
    exact ⟨B', .resumeFinished hy r, R', c, k⟩
  | segRet _ _ ih1 ih2 =>
    intro f B R
    obtain ⟨B1, r1, R1, _, k1⟩ := ih1 rfl B R
    obtain ⟨B2, r2, R2, c2, k2⟩ := ih2 (split_tail f) B1 R1
    exact ⟨B2, .segRet r1 r2, R2, c2, k1.trans k2⟩
  | segGen _ _ _ _ => exact fun f => by cases f
  | segSuspOut q _ ih =>
    intro f B R
    obtain ⟨B', r, R', c, k⟩ := ih rfl B R
    exact ⟨B', .segSuspOut q r, R', split_app c q, k⟩
  | segSuspGen q _ _ _ _ _ =>
    intro f
    rw [f] at q
    cases q
/-! ### the same of a tree -/
/-- behind it: the other table, with the sleepers as they were -/
def Bh {α : Type} (A B : Array GenState) (Q : α → Pos → Shared → Prop) : α → Pos → Shared → Prop := fun a p s' => ∃ A', Rel A' s'.gens ∧ Kp A A' B s'.gens ∧ Q a p (wg s' A')
theorem Bh.move {α : Type} {A A1 B B1 : Array GenState} {Q : α → Pos → Shared → Prop} (k : Kp A A1 B B1) {a : α} {p : Pos} {s' : Shared} (h : Bh A1 B1 Q a p s') : Bh A B Q a p s' :=
  let ⟨A', R, k', q⟩ := h
  ⟨A', R, k.trans k', q⟩
theorem wp_lock {α : Type} (M : Model) (Γ : Ctx) (t : Sem α) : ∀ (Q : α → Pos → Shared → Prop) (E : Value → Pos → Shared → Prop) (p : Pos) (s : Shared) (B : Array GenState), Rel s.gens B → wp M Γ t Q E p s → wp M Γ t (Bh s.gens B Q) (Bh s.gens B E) p (wg s B) := by
  induction t with
  | pure a => exact fun Q E p s B R h => ⟨s.gens, R, .refl _ _, h⟩
  | raise e => exact fun Q E p s B R h => ⟨s.gens, R, .refl _ _, h⟩
  | unsupported _ => exact fun Q E p s B R h => h
  | finish _ => exact fun Q E p s B R h => h
  | rule _ k ih => exact fun Q E p s B R h => ih () Q E p s B R h
  | «at» p' k ih => exact fun Q E p s B R h => ih () Q E p' s B R h
  | load a _ k ih =>
    rintro Q E p s B R ⟨o, ho, h⟩
    exact ⟨o, ho, ih o Q E p s B R h⟩
  | update a _ f k ih =>
    rintro Q E p s B R ⟨ho, h⟩
    exact ⟨ho, ih () Q E p { s with heap := s.heap.update a f } B R h⟩
  | loadIfAlive a k ih => exact fun Q E p s B R h => ih _ Q E p s B R h
  | point _ k ih => exact fun Q E p s B R h => ih () Q E p s B R h
  | register _ _ => exact fun Q E p s B R h => h
  | alloc o k ih => exact fun Q E p s B R h => ih s.heap.objs.size Q E p { s with heap := s.heap.push o } B R h
  | fresh k ih => exact fun Q E p s B R h => ih s.toks Q E p { s with toks := s.toks + 1 } B R h
  | ask k ih => exact fun Q E p s B R h => ih _ Q E p s B R h
  | choose src m k ih =>
    rintro Q E p s B R ⟨ho, h⟩
    exact ⟨ho, ih _ Q E p { s with drawn := s.drawn.bump src } B R h⟩
  | os q _ k ih => exact fun Q E p s B R h => ih _ Q E p { s with os := (Os.step s.os q).1 } B R h
  | call c hd _ _ k ih =>
    rintro Q E p s B R ⟨r, s', hr, h⟩
    obtain ⟨B', r', R', _, k'⟩ := lock hr rfl B R
    exact ⟨r, wg s' B', r', Sem.wp_mono M Γ _ (fun a p s z => Bh.move k' z) (fun a p s z => Bh.move k' z) _ _ (ih r Q E p s' B' R' h)⟩
  | handled own k ih => exact fun Q E p s B R h => ih _ Q E p s B R h
  | genState g k ih =>
    rintro Q E p s B R ⟨st, hs, h⟩
    obtain ⟨y, hy, pr⟩ := R.pr _ _ hs
    refine ⟨y, hy, ?_⟩
    rw [← pr.seen]
    exact ih _ Q E p s B R h
  | newGen c k ih =>
    intro Q E p s B R h
    have e := ih s.gens.size Q E p { s with gens := s.gens.push (.fresh c) } (B.push (.fresh c)) (R.push trivial) h
    rw [R.sz] at e
    exact Sem.wp_mono M Γ _ (fun a p s z => Bh.move Kp.push z) (fun a p s z => Bh.move Kp.push z) _ _ e
  | resume g r _ k ih =>
    rintro Q E p s B R ⟨res, s', hw, h⟩
    have key : ∃ B', Wakes M Γ p g r (wg s B) res (wg s' B') ∧ Rel s'.gens B' ∧ Kp s.gens s'.gens B B' := by
      unfold Wakes at hw ⊢
      cases hg : s.gens[g]? with
      | none =>
        rw [hg] at hw
        exact hw.elim
      | some x =>
        obtain ⟨y, hy, pr⟩ := R.pr _ _ hg
        rw [hg] at hw
        have hy' : (wg s B).gens[g]? = some y := hy
        rw [hy']
        cases x with
        | fresh c =>
          rcases pr with ⟨_, _, _, _, _, _, z, _⟩ | ⟨rfl, _⟩
          · cases z
          have nb : ∀ l c p fs cl, s.gens[g]? ≠ some (GenState.suspended bad l c p fs cl) := fun l c p fs cl z => by
            rw [hg] at z
            cases z
          cases r with
          | throw x =>
            obtain ⟨rfl, rfl⟩ := hw
            exact ⟨_, ⟨rfl, rfl⟩, R.set (x := .finished) trivial, Kp.set nb⟩
          | send v =>
            cases v with
            | none =>
              obtain ⟨e1, s1, run, qe, rfl, rfl⟩ := hw
              obtain ⟨B1, r1, R1, c1, k1⟩ := lock run rfl _ (R.set (x := .running) trivial)
              exact ⟨_, ⟨e1, wg s1 B1, r1, qe, rfl, rfl⟩, R1.set c1.st, Kp.woke nb k1 (.refl _ _)⟩
            | _ =>
              obtain ⟨rfl, rfl⟩ := hw
              exact ⟨B, ⟨rfl, rfl⟩, R, .refl _ _⟩
        | suspended k0 l0 c0 p0 fs cl =>
          obtain ⟨e1, s1, run, qe, rfl, rfl⟩ := hw
          rcases pr with ⟨_, _, _, _, _, _, z, _⟩ | ⟨rfl, cy⟩
          · cases z
            exact (stuck run).elim
          obtain ⟨B1, r1, R1, c1, k1⟩ := lock run cy _ (R.set (x := .running) trivial)
          refine ⟨_, ⟨e1, wg s1 B1, r1, qe, rfl, rfl⟩, R1.set c1.st, Kp.woke (fun l c p fs cl z => ?_) k1 (.refl _ _)⟩
          rw [hg] at z
          cases z
          exact stuck run
        | running =>
          rcases pr with ⟨_, _, _, _, _, _, z, _⟩ | ⟨rfl, _⟩
          · cases z
          obtain ⟨rfl, rfl⟩ := hw
          exact ⟨B, ⟨rfl, rfl⟩, R, .refl _ _⟩
        | finished =>
          rcases pr with ⟨_, _, _, _, _, _, z, _⟩ | ⟨rfl, _⟩
          · cases z
          obtain ⟨rfl, rfl⟩ := hw
          exact ⟨B, ⟨rfl, rfl⟩, R, .refl _ _⟩
    obtain ⟨B', hw', R', k'⟩ := key
    exact ⟨res, wg s' B', hw', Sem.wp_mono M Γ _ (fun a p s z => Bh.move k' z) (fun a p s z => Bh.move k' z) _ _ (ih res Q E p s' B' R' h)⟩
  | yield _ _ _ _ => exact fun Q E p s B R h => h
  | stack k ih => exact fun Q E p s B R h => ih _ Q E p s B R h
  | fork _ _ => exact fun Q E p s B R h => h
  | thread k ih => exact fun Q E p s B R h => ih _ Q E p s B R h
  | await _ _ _ _ _ => exact fun Q E p s B R h => h
/-! ### the word for it -/
def drug : GenState → GenState
  | .suspended _ l c p fs cl => .suspended bad l c p fs cl
  | x => x
theorem drug_rel (B : Array GenState) : Rel (B.map drug) B := by
  refine ⟨Array.size_map, fun i x e => ?_⟩
  rw [Array.getElem?_map] at e
  obtain ⟨y, hy, rfl⟩ := Option.map_eq_some_iff.mp e
  refine ⟨y, hy, ?_⟩
  cases y with
  | suspended k l c p fs cl => exact .inl ⟨k, l, c, p, fs, cl, rfl, rfl⟩
  | _ => exact .inr ⟨rfl, trivial⟩
theorem Rel.bareL {A B : Array GenState} (h : Rel A B) (b : PyProof.Rows.AllBare B) : PyProof.Rows.AllBare A := fun x hx => by
  obtain ⟨i, hi⟩ := Array.getElem?_of_mem hx
  obtain ⟨y, hy, pr⟩ := h.pr i x hi
  rw [pr.bare]
  exact b y (Array.mem_of_getElem? hy)
theorem Rel.bareR {A B : Array GenState} (h : Rel A B) (b : PyProof.Rows.AllBare A) : PyProof.Rows.AllBare B := fun y hy => by
  obtain ⟨i, hi⟩ := Array.getElem?_of_mem hy
  have l := (Array.getElem?_eq_some_iff.mp hi).1
  have l2 : i < A.size := by rw [h.sz]; exact l
  obtain ⟨y', hy', pr⟩ := h.pr i _ (Array.getElem?_eq_getElem l2)
  rw [hi] at hy'
  cases hy'
  rw [← pr.bare]
  exact b _ (Array.getElem_mem l2)
/-- THE WORD: what runs well from any table that is bare leaves this sleeper as it is -/
theorem kept {α : Type} {M : Model} {A : Around} {m : Sem α} {Q : α → Shared → Prop} {E : Value → Shared → Prop} {s : Shared} {g : Nat} {k : Resume → Sem PySem.Fin} {l : List Value} {c : Code} {p : Pos} {fs : List Frame} {cl : Bool} (hb : PyProof.Rows.AllBare s.gens) (hg : s.gens[g]? = some (.suspended k l c p fs cl))
    (h : ∀ G, PyProof.Rows.AllBare G → wpAny M A m Q E (wg s G)) :
    wpAny M A m (fun a s' => s'.gens[g]? = some (.suspended k l c p fs cl) ∧ ∃ G, (PyProof.Rows.AllBare G → PyProof.Rows.AllBare s'.gens) ∧ Q a (wg s' G)) (fun e s' => ∃ G, (PyProof.Rows.AllBare G → PyProof.Rows.AllBare s'.gens) ∧ E e (wg s' G)) s := by
  intro Γ q hΓ
  have R := drug_rel s.gens
  have e := wp_lock M Γ m _ _ q (wg s (s.gens.map drug)) s.gens R (h _ (R.bareL hb) Γ q hΓ)
  refine Sem.wp_mono M Γ m (fun a p' s' z => ?_) (fun x p' s' z => ?_) q s e
  · obtain ⟨A', R', k', z⟩ := z
    have e1 : (s.gens.map drug)[g]? = some (.suspended bad l c p fs cl) := by
      rw [Array.getElem?_map, hg]
      rfl
    exact ⟨(k' g k l c p fs cl e1 hg).2, A', R'.bareR, z⟩
  · obtain ⟨A', R', _, z⟩ := z
    exact ⟨A', R'.bareR, z⟩
end Gk
namespace Gq
open PySem PySem.Spec PyProof.Rows L2 GenW
open Sem (wp)
/-! ### a run of a generator's code, up to its end or to the next item -/
def SegC (M : Model) (A : Around) (F : End → Shared → Prop) (c : Code) (t : Sem PySem.Fin) (fs : List Frame) (s : Shared) : Prop := ∀ Γ p, Γ.code = c → Γ.Woken A → ∃ e s', Runs M Γ p t fs s e s' ∧ F e s'
section
variable {M : Model} {A : Around} {F : End → Shared → Prop} {c : Code} {fs : List Frame} {s : Shared}
theorem segc_wrap {α : Type} {m : Sem α} {K : α → Sem PySem.Fin} {J : Value → Sem PySem.Fin} {gd : Bool → Bool} {lv : List Value → List Value}
    (h : wpAny M (A.over c fs) m (fun a s' => SegC M A F c (K a) fs s') (fun x s' => SegC M A F c (J x) fs s') s) : SegC M A F c (m.wrap K J gd lv) fs s := by
  rintro Γ p rfl hΓ
  exact runs_wrap_of_wp K J gd lv m (h (Γ.over fs) p (hΓ.over fs)) (fun a p' s' h' => h' Γ p' rfl hΓ) (fun x p' s' h' => h' Γ p' rfl hΓ)
theorem segc_bind {α : Type} {m : Sem α} {K : α → Sem PySem.Fin}
    (h : wpAny M (A.over c fs) m (fun a s' => SegC M A F c (K a) fs s') (fun x s' => SegC M A F c (.raise x) fs s') s) : SegC M A F c (m >>= K) fs s := by
  rw [Sem.bind_eq_wrap']
  exact segc_wrap h
theorem segc_at {p' : Pos} {k : Unit → Sem PySem.Fin} (h : SegC M A F c (k ()) fs s) : SegC M A F c (.at p' k) fs s :=
  segc_wrap (m := standAt p') (K := k) (J := .raise) (gd := id) (lv := id) (wpAny_standAt h)
theorem segc_point {l : List Value} {k : Unit → Sem PySem.Fin} (h : SegC M A F c (k ()) fs s) : SegC M A F c (.point l k) fs s :=
  segc_wrap (m := point) (K := k) (J := .raise) (gd := id) (lv := fun _ => l) (wpAny_point h)
theorem segc_call {c' : Code} {h : Option Value} {g : Bool} {l : List Value} {k : Result → Sem PySem.Fin} (hc : ∀ p, SegC M A F c' (M.den c') (.ret k h g l c p [] :: fs) s) : SegC M A F c (.call c' h g l k) fs s := by
  rintro Γ p rfl hΓ
  obtain ⟨e, s', hr, he⟩ := hc p (Γ.goto c') p rfl (hΓ.goto c')
  exact ⟨e, s', runs_call_seg hr, he⟩
theorem segc_leaf {k : Result → Sem PySem.Fin} {h : Option Value} {g : Bool} {l : List Value} {c₁ : Code} {p₁ : Pos} {kp : List Value} (r : Result) (hk : SegC M A F c₁ (k r) fs s) : SegC M A F c (leafOf r) (.ret k h g l c₁ p₁ kp :: fs) s := by
  rintro Γ p rfl hΓ
  obtain ⟨e, s', hr, he⟩ := hk (Γ.goto c₁) p₁ rfl (hΓ.goto c₁)
  exact ⟨e, s', Runs.pop r hr, he⟩
theorem segc_again {c' : Code} (hq : c'.quiet = true) (hc : SegC M A F c' (M.den c') fs s) : SegC M A F c (.pure (.again c')) fs s := by
  rintro Γ p rfl hΓ
  obtain ⟨e, s', hr, he⟩ := hc (Γ.goto c') p rfl (hΓ.goto c')
  exact ⟨e, s', Runs.head (c₁ := c') (fun _ _ x => .again hq x) hr, he⟩
theorem segc_end (r : Result) (h : F (.ret r) s) : SegC M A F c (leafOf r) [] s := by
  rintro Γ p rfl _
  exact ⟨.ret r, s, Runs.leaf r, h⟩
theorem segc_yield {v : Value} {g : Bool} {l : List Value} {k : Resume → Sem PySem.Fin} (hfs : splitAtGen fs = none) (h : ∀ p, F (.susp v g l k c p fs) s) : SegC M A F c (.yield v g l k) fs s := by
  rintro Γ p rfl _
  exact ⟨_, s, Runs.yield' fs hfs, h p⟩
theorem segc_mono {F' : End → Shared → Prop} {t : Sem PySem.Fin} (h : SegC M A F c t fs s) (i : ∀ e s', F e s' → F' e s') : SegC M A F' c t fs s := by
  intro Γ p hc hΓ
  obtain ⟨e, s', hr, he⟩ := h Γ p hc hΓ
  exact ⟨e, s', hr, i e s' he⟩
/-- `yield e` as a statement -/
theorem segc_Expr_Yield {env : Env} {K : Flow → Sem PySem.Fin} {J : Value → Sem PySem.Fin} {gd : Bool → Bool} {lv : List Value → List Value} {e : Expr} {ypos pos : Pos} (hfs : splitAtGen fs = none)
    (h : wpAny M (A.over c fs) (eval e env) (fun v s' => ∀ l k p, k (.send .none) = K .next → F (.susp v (gd false) l k c p fs) s') (fun x s' => SegC M A F c (J x) fs s') s) (hco : env.scope.isCoroutine = false := by rfl) (hi : interactive env = false := by rfl) :
    SegC M A F c ((exec (.Expr (.Yield (some e) ypos) pos) env).wrap K J gd lv) fs s := by
  rw [exec_Expr env _ pos hi rfl]
  show SegC M A F c (.at pos fun _ => ((eval e env >>= fun v => (standAt ypos >>= fun _ => yieldOut env v)) >>= fun x =>
    dropValue (.Yield (some e) ypos) pos x).wrap K J gd lv) fs s
  have hy : ∀ v, yieldOut env v = yieldValue v := fun v => by simp only [yieldOut, hco, Bool.false_eq_true, if_false]
  simp only [hy]
  refine segc_at ?_
  rw [Sem.bind_eq_wrap', Sem.bind_eq_wrap', Sem.wrap_wrap, Sem.wrap_wrap]
  refine segc_wrap (wpAny_mono h (fun v s' h' => ?_) fun _ _ x => x)
  refine segc_at (segc_yield hfs fun p => ?_)
  exact h' _ _ p rfl
end
section
variable {prog : Program} {w : World} {A : Around} {F : End → Shared → Prop} {fs : List Frame} {s : Shared} {env : Env}
theorem segc_func {body : List Stmt}
    (h : SegC (model prog w) A F (.func body env) ((execs body env).wrap (fun f => .pure (.done (.ret (match f with | .ret v => v | _ => .none))))
      (fun e => (leaving env e).wrap (fun _ => .raise e) .raise id id) id id) fs s) :
    SegC (model prog w) A F (.func body env) ((model prog w).den (.func body env)) fs s := by
  show SegC _ A F _ (.point [] fun _ => ((execs body env).onRaise (leaving env)) >>= _) fs s
  refine segc_point ?_
  rw [Sem.onRaise_eq_wrap, Sem.bind_eq_wrap', Sem.wrap_wrap]
  rw [Sem.wrap_congr (execs body env) _ _ (K' := fun f => .pure (.done (.ret (match f with | .ret v => v | _ => .none))))
    (H' := fun e => (leaving env e).wrap (fun _ => .raise e) .raise id id) (fun f => by cases f <;> rfl)
    (fun e => by rw [Sem.bind_eq_wrap, Sem.wrap_wrap]; rfl)]
  exact h
/-- one turn of a for loop in a generator's code -/
theorem segc_forLoop {target : Expr} {it : Value} {body : List Stmt}
    (h : wpAny (model prog w) (A.over (.forLoop target it body [] env) fs) (pyNext it) (fun r s1 => match r with
        | none => SegC (model prog w) A F (.block [] env) ((model prog w).den (.block [] env)) fs s1
        | some v => wpAny (model prog w) (A.over (.forLoop target it body [] env) fs) (letOwnedTupleGo target it v) (fun _ s2 =>
          wpAny (model prog w) (A.over (.forLoop target it body [] env) fs) (assign target env v) (fun _ s3 =>
            SegC (model prog w) A F (.forLoop target it body [] env) ((execs body env).wrap (fun f => match f with
              | .next | .cont => .pure (.again (.forLoop target it body [] env))
              | .brk => .pure (.done .next)
              | .ret v => .pure (.done (.ret v))) (fun e => (do noteFrame e env; theTreesLotGoes e : Sem Unit).wrap (fun _ => .raise e) .raise id id) id id) fs s3) (fun _ _ => False) s2) (fun _ _ => False) s1) (fun _ _ => False) s) :
    SegC (model prog w) A F (.forLoop target it body [] env) ((model prog w).den (.forLoop target it body [] env)) fs s := by
  show SegC _ A F _ ((forTurn target it body [] env).onRaise (fun x => do noteFrame x env; theTreesLotGoes x)) fs s
  simp only [forTurn]
  rw [Sem.onRaise_eq_wrap, Sem.bind_eq_wrap', Sem.wrap_wrap]
  refine segc_wrap (wpAny_standAt ?_)
  show SegC _ A F _ (Sem.wrap _ _ _ _ ((pyNext it).onRaise _ >>= _)) fs s
  rw [Sem.bind_eq_wrap', Sem.wrap_wrap]
  refine segc_wrap (wpAny_onRaise (wpAny_mono h (fun r s1 h1 => ?_) fun _ _ x => x.elim))
  cases r with
  | none =>
    show SegC _ A F _ (.pure (.again (.block [] env))) fs s1
    exact segc_again rfl h1
  | some v =>
    show SegC _ A F _ (Sem.wrap _ _ _ _ (letOwnedTupleGo target it v >>= fun _ => _)) fs s1
    rw [Sem.bind_eq_wrap', Sem.wrap_wrap]
    refine segc_wrap (wpAny_mono h1 (fun _ s2 h2 => ?_) fun _ _ x => x.elim)
    show SegC _ A F _ (Sem.wrap _ _ _ _ (assign target env v >>= fun _ => _)) fs s2
    rw [Sem.bind_eq_wrap', Sem.wrap_wrap]
    refine segc_wrap (wpAny_mono h2 (fun _ s3 h3 => ?_) fun _ _ x => x.elim)
    show SegC _ A F _ (Sem.wrap _ _ _ _ (execs body env >>= fun f => _)) fs s3
    rw [Sem.bind_eq_wrap', Sem.wrap_wrap]
    rw [Sem.wrap_congr (execs body env) _ _ (K' := fun f => match f with
            | .next | .cont => .pure (.again (.forLoop target it body [] env))
            | .brk => .pure (.done .next)
            | .ret v => .pure (.done (.ret v))) (H' := (fun e => (do noteFrame e env; theTreesLotGoes e : Sem Unit).wrap (fun _ => .raise e) .raise id id))
        (fun f => by cases f <;> rfl)
        (fun e => by first | exact Sem.bind_eq_wrap _ _ | (show (do noteFrame e env; theTreesLotGoes e : Sem Unit).bind (fun _ => .raise e) = _; rw [Sem.bind_eq_wrap]))]
    exact h3
/-- a for statement in a generator's code -/
theorem segc_For {c : Code} {K : Flow → Sem PySem.Fin} {J : Value → Sem PySem.Fin} {gd : Bool → Bool} {lv : List Value → List Value} {target iter : Expr} {body : List Stmt} {pos : Pos} (hs : ∀ x, foldedSetIterable iter env x = pure x)
    (h : wpAny (model prog w) (A.over c fs) (eval iter env) (fun x s1 => wpAny (model prog w) (A.over c fs) (pyIter x) (fun it s2 =>
      ∀ k l p, k (.ok .next) = K .next → SegC (model prog w) A F (.forLoop target it body [] env) ((model prog w).den (.forLoop target it body [] env)) (.ret k none (gd false) l c p [] :: fs) s2) (fun _ _ => False) s1) (fun _ _ => False) s) :
    SegC (model prog w) A F c ((exec (.For target iter body [] pos) env).wrap K J gd lv) fs s := by
  rw [exec_For]
  show SegC _ A F c (.at pos fun _ => Sem.wrap _ _ _ _ (eval iter env >>= fun x => _)) fs s
  refine segc_at ?_
  rw [Sem.bind_eq_wrap', Sem.wrap_wrap]
  refine segc_wrap (wpAny_mono h (fun x s1 h1 => ?_) fun _ _ x => x.elim)
  simp only [hs]
  show SegC _ A F c (.at iter.pos fun _ => Sem.wrap _ _ _ _ (holding [x] (pyIter x) >>= fun it => _)) fs s1
  refine segc_at ?_
  rw [Sem.bind_eq_wrap', Sem.wrap_wrap]
  refine segc_wrap (wpAny_holding (wpAny_mono h1 (fun it s2 h2 => ?_) fun _ _ x => x.elim))
  exact segc_call fun p => h2 _ _ p rfl
theorem segc_block0 (h : SegC (model prog w) A F (.block [] env) (.pure (.done .next)) fs s) : SegC (model prog w) A F (.block [] env) ((model prog w).den (.block [] env)) fs s := by
  first
    | exact h
    | (refine segc_point ?_; exact h)
end
/-! ### waking -/
/-- this sleeper, woken -/
def GoesC (M : Model) (A : Around) (F : End → Shared → Prop) (gs : GenState) (s : Shared) : Prop :=
  match gs with
  | .fresh c => SegC M A F c (M.den c) [] s
  | .suspended k _ c _ fs _ => SegC M A F c (k (.send .none)) fs s
  | _ => False
theorem wpAny_resumeC {M : Model} {A : Around} {F : End → Shared → Prop} {E : Value → Shared → Prop} {s : Shared} {g : Nat} {gs : GenState} {l : List Value} {α : Type} {k : GenResult → Sem α} {Q : α → Shared → Prop} (hg : s.gens[g]? = some gs)
    (hgo : GoesC M A F gs (s.setGen g .running)) (hF : ∀ e s1, F e s1 → e.quiet = true ∧ wpAny M A (k e.result) Q E (s1.setGen g e.genState)) : wpAny M A (.resume g (.send .none) l k) Q E s := by
  intro Γ p hΓ
  rw [Sem.wp_resume]
  have hB : ∀ c, (Γ.wake c p).Woken A := fun c => hΓ.wake c p
  cases gs with
  | fresh c =>
    obtain ⟨e₁, s₁, hr, he⟩ := hgo (Γ.wake c p) p rfl (hB c)
    obtain ⟨q1, q2⟩ := hF e₁ s₁ he
    exact ⟨_, _, by unfold Wakes; rw [hg]; exact ⟨e₁, s₁, hr, q1, rfl, rfl⟩, q2 Γ p hΓ⟩
  | suspended k₀ l₀ c₀ p₀ fs₀ cl =>
    obtain ⟨e₁, s₁, hr, he⟩ := hgo (Γ.wake c₀ p) p₀ rfl (hB c₀)
    obtain ⟨q1, q2⟩ := hF e₁ s₁ he
    exact ⟨_, _, by unfold Wakes; rw [hg]; exact ⟨e₁, s₁, hr, q1, rfl, rfl⟩, q2 Γ p hΓ⟩
  | running => exact hgo.elim
  | finished => exact hgo.elim
/-- how a waking ends: an item, or the end -/
theorem next_genC {P : Program} {w : World} {A : Around} {E : Value → Shared → Prop} {s : Shared} {a : Addr} {g : Nat} {gs : GenState} {Q : Option Value → Shared → Prop} (hh : A.handled = none) (hl : s.heap.NoLimit) (hroom : A.depth < recursionLimit) (hg : s.heap.IsGen a g) (hgs : s.gens[g]? = some gs)
    (hgo : GoesC (model P w) A.in1 (fun e s1 => (e = .ret (.ok (.ret .none)) ∧ ∀ h', (∀ b o, s1.heap.get? b = some o → h'.get? b = some o) → Q none { s1.setGen g .finished with heap := h' }) ∨
      (∃ v gg l k c p fs, e = .susp v gg l k c p fs ∧ e.quiet = true ∧ Q (some v) (s1.setGen g e.genState))) gs (s.setGen g .running)) : wpAny (model P w) A (pyNext (.ref a)) Q E s := by
  unfold pyNext
  refine wpAny_bind (wpAny_attempt (wpAny_callSpecial?_slot (name := Str.ofString "__next__") hg.typeIs slot_gen_next
    (wpAny_call_entry slot_gen_next hg.typeIs entry_gen_next ?_ (args_gen_next _))))
  show wpAny _ A.in1 (Builtin.Generator.genWake (.ref a) (.send .none)) _ _ s
  unfold Builtin.Generator.genWake
  refine wpAny_bind (wpAny_holding (wpAny_genNumber hg (wpAny_bind (wpAny_genState hgs ?_))))
  cases gs with
  | running => exact hgo.elim
  | finished => exact hgo.elim
  | _ =>
    refine wpAny_bind (wpAny_roomToWake hl hroom ?_)
    show wpAny _ A.in1 (.resume g (.send .none) [] _) _ _ s
    refine wpAny_resumeC hgs hgo fun e s₁ he => ?_
    rcases he with ⟨rfl, hp⟩ | ⟨v, gg, l, k, c, p, fs, rfl, hq, hv⟩
    · refine ⟨rfl, ?_⟩
      show wpAny _ A.in1 (newExc (.type "StopIteration") [] >>= _) _ _ _
      refine wpAny_bind ?_
      simp only [newExc, newTuple]
      refine wpAny_bind (wpAny_newObj_type ?_ (by size_fits))
      refine wpAny_bind (m := firstArgMember _ _) (wpAny_of_eq (a := Value.none) (by first | rfl | (simp only [firstArgMember]; rfl)) ?_)
      refine wpAny_newObj_type ?_ (by size_fits)
      simp only [raiseNew]
      refine wpAny_bind (wpAny_bind (wpAny_handled ?_))
      first | rw [show A.in1.handled = none from hh] | rw [hh]
      refine wpAny_throw ?_
      refine wpAny_bind (wpAny_isInstance (T := "StopIteration") (b := true) ⟨_, Heap.get?_push_size _ rfl, rfl⟩ isSubtype_stop ?_)
      exact wpAny_pure (hp _ fun b o hb => Heap.get?_push_of_some _ (Heap.get?_push_of_some _ hb))
    · exact ⟨hq, wpAny_pure ⟨v, rfl, wpAny_pure hv⟩⟩
end Gq
namespace Gr
open PySem PySem.Spec PyProof.Rows L2 GenW Gq
open Sem (wp)
/-! ### for x in g(): a generator def of our own, which loops over a range and hands out an item each turn -/
/-- the heap below L -/
def tr (h : Heap) (L : Addr) : Heap := { h with objs := h.objs.extract 0 L }
theorem tr_lt {h : Heap} {L b : Nat} (hb : b < L) : (tr h L).get? b = h.get? b := by
  unfold tr Heap.get?
  simp only [Array.getElem?_extract]
  by_cases hs : b < h.objs.size
  · rw [if_pos (by omega), Nat.zero_add]
  · rw [if_neg (by omega), Array.getElem?_eq_none (by omega)]
theorem tr_some {h : Heap} {L b : Nat} {o : Obj} (e : (tr h L).get? b = some o) : b < L ∧ h.get? b = some o := by
  have l : b < (tr h L).objs.size := Heap.lt_size e
  have l2 : b < L := by
    have z : (tr h L).objs.size = min L h.objs.size - 0 := Array.size_extract
    omega
  exact ⟨l2, (tr_lt l2).symm.trans e⟩
theorem tr_size {h : Heap} {L : Nat} (hL : L ≤ h.objs.size) : (tr h L).objs.size = L := by
  have z : (tr h L).objs.size = min L h.objs.size - 0 := Array.size_extract
  omega
def trH (H : Hp) (L : Addr) : Hp := fun b => if b < L then H b else none
theorem trH_lt {H : Hp} {L b : Addr} (hb : b < L) : trH H L b = H b := if_pos hb
theorem trH_some {H : Hp} {L b : Addr} {u : HO} (e : trH H L b = some u) : b < L ∧ H b = some u := by
  unfold trH at e
  split at e
  · exact ⟨by assumption, e⟩
  · cases e
/-- the generator's own context, made anew at each waking: all below its frame stands as it does now -/
def gX (X : Cx) (env : Env) (N : List Str) (s : Shared) (H : Hp) : Cx where
  prog := X.prog
  w := X.w
  K := X.K
  mg := X.mg
  base := X.base
  A := X.A.in1.deeper env
  N := N
  s_0 := { s with heap := tr s.heap env.locals }
  H_0 := trH H env.locals
  env := env
  outer := X.stack
  stack := env :: X.stack
  ex := []
  fn := fun _ => true
  calm := true
  pn := []
  xe := fun _ _ => False
/-- what is so of its frame all along -/
structure GE (X : Cx) (env : Env) : Prop where
  kind : env.scope.kind = .function
  glob : env.globals = mainGlobals
  blt : env.builtins = builtinsNs
  cells : env.cells = []
  nocell : ∀ x, env.kindOf x ≠ some .cell ∧ env.kindOf x ≠ some .free
  frame : env.frame = some env.locals
  bsz : X.base.objs.size ≤ env.locals
  old : X.env.locals < env.locals
  olds : X.s_0.heap.objs.size ≤ env.locals
  oldc : ∀ x c, X.env.cells.lookup x = some c → c < env.locals
  oldf : ∀ b ∈ frs X.stack, b < env.locals
  hd : X.A.handled = none
section
variable {X : Cx} {env : Env} {N : List Str} {pins : List (Addr × Obj)} {σ : L2.St} {H : Hp} {s : Shared}
theorem Inv.regens {G : Array GenState} (I : Inv X pins σ H s) (hG : AllBare G) : Inv X pins σ H { s with gens := G } := ⟨I.ok, I.os, hG, I.base, I.loc, I.cell, I.free, I.freeC, I.pin, I.hok, I.len⟩
theorem toG (E : GE X env) (I : Inv X pins σ H s) (hL : H env.locals = none) (ns : ∃ m, s.heap.Ns env.locals m) (pl : List (Addr × Obj)) (hpl : ∀ p ∈ pl, s.heap.get? p.1 = some p.2 ∧ H p.1 = none ∧ p.1 ≠ env.locals ∧ p.1 ∉ frs X.stack ∧ ∀ v, p.2.data ≠ .cell v) :
    Inv (gX X env N s H) pl (List.replicate N.length none) H s := by
  obtain ⟨m, hm⟩ := ns
  have ltL : env.locals < s.heap.objs.size := hm.lt
  have noC : ∀ x c, env.cells.lookup x = some c → False := fun x c e => by
    rw [E.cells] at e
    cases e
  have nil : ∀ b : Addr, b ∉ ([] : List Addr) := fun b z => by cases z
  refine ⟨⟨I.ok.mod, E.kind, E.glob, E.blt, ?_, fun x y c h1 => (noC x c h1).elim, fun x hx => ?_, fun x c _ h => (noC x c h).elim, fun _ => E.hd, Around.frames_deeper I.ok.frames, .inr ⟨rfl, E.frame⟩, fun b z => absurd z (nil b), fun b o e => ?_, ?_, fun b _ _ => nil b, fun b z => absurd z (nil b), ?_, fun b hb => ?_⟩,
    rfl, I.bare, ⟨fun b o e n _ _ => ?_, fun b o e n _ _ => ?_, fun b o e n _ => ?_, fun b o e _ => ?_, fun b xs e => ?_, fun b o u e => ?_, fun b ps e => ?_⟩, ⟨m, hm, fun i x v _ h2 _ => ?_⟩, fun x c h => (noC x c h).elim, hL, fun x c h => (noC x c h).elim, fun p hp => hpl p hp, I.hok, List.length_replicate⟩
  · show (tr s.heap env.locals).objs.size ≤ env.locals
    rw [tr_size (Nat.le_of_lt ltL)]
    exact Nat.le_refl _
  · rcases hx with hx | hx
    · exact absurd hx (E.nocell x).1
    · exact absurd hx (E.nocell x).2
  · have lb : b < env.locals := Nat.lt_of_lt_of_le (Heap.lt_size e) E.bsz
    obtain ⟨q1, q2⟩ := I.bs b o e
    exact ⟨(tr_lt lb).trans q1, (trH_lt lb).trans q2⟩
  · show X.base.objs.size ≤ (tr s.heap env.locals).objs.size
    rw [tr_size (Nat.le_of_lt ltL)]
    exact E.bsz
  · show (tr s.heap env.locals).FunFrames X.base X.stack
    have all : ∀ (l : List Env), (∀ b ∈ frs l, b < env.locals) → s.heap.FunFrames X.base l → (tr s.heap env.locals).FunFrames X.base l := by
      intro l
      induction l with
      | nil => intro _ _; trivial
      | cons e1 r ih =>
        intro hs hl
        obtain ⟨hk, ⟨L, o, hf, hn, ho, hd⟩, hr⟩ := hl
        have hL : L < env.locals := hs L (by unfold frs; rw [List.filterMap_cons, hf]; exact List.mem_cons_self)
        exact ⟨hk, ⟨L, o, hf, hn, (tr_lt hL).trans ho, hd⟩, ih (fun b hb => hs b (by unfold frs; rw [List.filterMap_cons, hf]; exact List.mem_cons_of_mem _ hb)) hr⟩
    exact all X.stack E.oldf I.stack
  · have hb : b ∈ frs X.stack := hb
    exact (trH_lt (E.oldf b hb)).trans (I.stkFree b hb)
  · exact (tr_some e).2
  · exact ⟨o.slots, (tr_some e).2⟩
  · exact (trH_lt (tr_some e).1).symm.trans n
  · exact ⟨o, (tr_some e).2⟩
  · exact (trH_some e).2
  · exact (trH_some e).2
  · exact ⟨#[], by rw [(trH_some e).2]; simp⟩
  · rw [List.getElem?_replicate] at h2
    split at h2 <;> cases h2
open Classical in
/-- all that is younger than its frame, is not ours and no cell -/
noncomputable def yng (s : Shared) (H : Hp) (L : Addr) (fp : List Addr) : List (Addr × Obj) := (List.range s.heap.objs.size).filterMap fun b => if L < b ∧ b ∉ fp ∧ H b = none ∧ ∀ o v, s.heap.get? b = some o → o.data ≠ .cell v then (s.heap.get? b).map fun o => (b, o) else none
theorem mem_yng {L b : Addr} {fp : List Addr} {o : Obj} (h1 : L < b) (h2 : b ∉ fp) (h3 : H b = none) (h4 : s.heap.get? b = some o) (h5 : ∀ v, o.data ≠ .cell v) : (b, o) ∈ yng s H L fp := by
  refine List.mem_filterMap.mpr ⟨b, List.mem_range.mpr (Heap.lt_size h4), ?_⟩
  rw [if_pos ⟨h1, h2, h3, fun o' v e => by rw [h4] at e; cases e; exact h5 v⟩, h4]
  rfl
theorem of_yng {L : Addr} {fp : List Addr} {p : Addr × Obj} (h : p ∈ yng s H L fp) : L < p.1 ∧ p.1 ∉ fp ∧ H p.1 = none ∧ s.heap.get? p.1 = some p.2 ∧ ∀ v, p.2.data ≠ .cell v := by
  obtain ⟨b, _, e⟩ := List.mem_filterMap.mp h
  split at e
  · rename_i c
    obtain ⟨c1, c2, c3, c4⟩ := c
    cases q : s.heap.get? b with
    | none => rw [q] at e; cases e
    | some o =>
      rw [q] at e
      have e' : (b, o) = p := Option.some.inj e
      subst e'
      exact ⟨c1, c2, c3, q, fun v => c4 o v q⟩
  · cases e
theorem lty {b L : Nat} (h1 : b ≠ L) (hl : ¬ b < L) : L < b := by omega
open Classical in
/-- what may turn while the generator runs -/
noncomputable def trn (s : Shared) (H : Hp) (L : Addr) (fp : List Addr) : List Addr := L :: (fp ++ (List.range s.heap.objs.size).filter fun b => decide (L < b ∧ ∃ o v, s.heap.get? b = some o ∧ o.data = .cell v))
theorem objOk_there {P : Program} {w : World} {h : Heap} {b : Addr} {u : HO} (x : ObjOk P w H h b u) : ∃ o, h.get? b = some o := by
  cases u with
  | lst xs => obtain ⟨_, _, _, _, e⟩ := x; exact ⟨_, e⟩
  | tup xs => obtain ⟨_, _, _, o, e, _⟩ := x; exact ⟨o, e⟩
  | dK kvs => obtain ⟨_, _, _, _, o, _, _, e, _⟩ := x; exact ⟨o, e⟩
  | dT kvs => obtain ⟨_, _, _, _, o, _, _, e, _⟩ := x; exact ⟨o, e⟩
  | set S n => obtain ⟨o, _, _, _, e, _⟩ := x; exact ⟨o, e⟩
  | ins C dx fs => obtain ⟨_, _, _, e, _⟩ := x; exact ⟨_, e⟩
  | own y => obtain ⟨_, e⟩ := x; exact ⟨_, e⟩
  | xd fs => obtain ⟨_, ⟨o, _, _, e, _⟩, _⟩ := x; exact ⟨o, e⟩
  | rng lo hi => obtain ⟨_, _, _, e⟩ := x; exact ⟨_, e⟩
  | frz ob u => obtain ⟨e, _⟩ := x; exact ⟨_, e⟩
  | tbl ps => exact ⟨_, show h.get? b = some _ from x⟩
  | met f y => exact ⟨_, show h.get? b = some _ from x⟩
  | ext φ => obtain ⟨_, ⟨o, e⟩, _⟩ := x; exact ⟨o, e⟩
open Classical in
/-- back at the consumer -/
theorem back {fp : List Addr} {pm : List (Addr × Obj)} {σ' : L2.St} {H' : Hp} {s' : Shared} (E : GE X env) (I : Inv X pins σ H s) (fL : FpOk X pins H env.locals) (ff : ∀ b ∈ fp, FpOk X pins H b) (J : Inv (gX X env N s H) (yng s H env.locals fp ++ pm) σ' H' s') (km : ∀ b u, H b = some u → H' b = some u) :
    Inv X pins σ H' s' := by
  have pinY : ∀ {b o}, s.heap.get? b = some o → H b = none → b ∉ trn s H env.locals fp → ¬ b < env.locals → s'.heap.get? b = some o ∧ H' b = none := fun {b o} e n hx hl => by
    have h1 : b ≠ env.locals := fun z => hx (by rw [z]; exact List.mem_cons_self)
    have h2 : b ∉ fp := fun z => hx (List.mem_cons_of_mem _ (List.mem_append_left _ z))
    have h3 : ∀ v, o.data ≠ .cell v := fun v z => hx (List.mem_cons_of_mem _ (List.mem_append_right _ (List.mem_filter.mpr ⟨List.mem_range.mpr (Heap.lt_size e), decide_eq_true ⟨lty h1 hl, o, v, e, z⟩⟩)))
    have m := mem_yng (s := s) (H := H) (L := env.locals) (fp := fp) (b := b) (o := o) (lty h1 hl) h2 n e h3
    obtain ⟨q1, q2, _⟩ := J.pin (b, o) (List.mem_append_right _ (List.mem_append_left _ m))
    exact ⟨q1, q2⟩
  have nil : ∀ b : Addr, b ∉ ([] : List Addr) := fun b z => by cases z
  refine I.call' (ch := trn s H env.locals fp) (s' := s') J.os ⟨fun b o e n hb hx => ?_, fun b o e n hb hx => ?_, fun b o e n hx => ?_, fun b o e hx => ?_, fun b xs e => km _ _ e, fun b o u e => km _ _ e, fun b ps e => ⟨#[], by rw [km _ _ e]; simp⟩⟩ J.hok J.bare fun b hb => ?_
  · by_cases l : b < env.locals
    · exact J.base.keep b o ((tr_lt l).trans e) ((trH_lt l).trans n) hb (nil b)
    · exact (pinY e n hx l).1
  · have l := E.oldf b hb
    exact J.base.slot b o ((tr_lt l).trans e) ((trH_lt l).trans n) hb (nil b)
  · by_cases l : b < env.locals
    · exact J.base.free b o ((tr_lt l).trans e) ((trH_lt l).trans n) (nil b)
    · exact (pinY e n hx l).2
  · by_cases l : b < env.locals
    · exact J.base.there b o ((tr_lt l).trans e) (nil b)
    · cases q : H b with
      | none => exact ⟨o, (pinY e q hx l).1⟩
      | some u => exact objOk_there (J.hok b u (km b u q))
  · rcases List.mem_cons.mp hb with z | hb
    · rw [z]
      exact ⟨fL.2.2.2.1, fL.2.1, fL.2.2.2.2.1, fL.2.2.2.2.2⟩
    · rcases List.mem_append.mp hb with hb | hb
      · exact ⟨(ff b hb).2.2.2.1, (ff b hb).2.1, (ff b hb).2.2.2.2.1, (ff b hb).2.2.2.2.2⟩
      · obtain ⟨lb, o, v, e, d⟩ := of_decide_eq_true (List.mem_filter.mp hb).2
        refine ⟨.inr (Nat.le_of_lt (Nat.lt_of_le_of_lt E.olds lb)), fun z => absurd (Nat.lt_trans (z ▸ lb) E.old) (Nat.lt_irrefl _), fun x c h z => ?_, fun p hp z => ?_⟩
        · have := E.oldc x c h
          rw [z] at this
          exact absurd (Nat.lt_trans this lb) (Nat.lt_irrefl _)
        · obtain ⟨q1, _, _, _, q5⟩ := I.pin p hp
          rw [z, e] at q1
          cases q1
          exact q5 v d
end
end Gr
namespace Gs
open PySem PySem.Spec PyProof.Rows L2 GenW Gq Gr
open Sem (wp)
section
variable {X : Cx} {env : Env} {N : List Str} {pins : List (Addr × Obj)} {σ : L2.St} {H : Hp} {s : Shared}
theorem fpTo {H' : Hp} {b : Addr} (f : FpOk X pins H b) (h : H' b = none) : FpOk X pins H' b := ⟨h, f.2⟩
/-- at the turn i, ahead of a waking -/
structure Wk (X : Cx) (env : Env) (a : Addr) (g : Nat) (fp : List Addr) (tn : Nat → Heap → Prop) (i : Nat) (pins : List (Addr × Obj)) (σ : L2.St) (H : Hp) (s : Shared) : Prop where
  inv : Inv X pins σ H s
  fL : FpOk X pins H env.locals
  ff : ∀ b ∈ fp, FpOk X pins H b
  fa : FpOk X pins H a
  gen : s.heap.IsGen a g
  ns : ∃ m, s.heap.Ns env.locals m
  st : tn i s.heap
theorem Wk.regens {a : Addr} {g : Nat} {fp : List Addr} {tn : Nat → Heap → Prop} {i : Nat} {G : Array GenState} (W : Wk X env a g fp tn i pins σ H s) (hG : AllBare G) : Wk X env a g fp tn i pins σ H { s with gens := G } :=
  ⟨Inv.regens W.inv hG, W.fL, W.ff, W.fa, W.gen, W.ns, W.st⟩
/-- how a waking ends when m turns are left -/
def Dn (X : Cx) (env : Env) (a : Addr) (g : Nat) (fp : List Addr) (tn : Nat → Heap → Prop) (Yl : Nat → Hp → V → Hp → Prop) (tot m : Nat) (R : Nat → Code → Sem PySem.Fin → List Frame → Prop) (pins : List (Addr × Obj)) (σ : L2.St) (H : Hp) (e : End) (s1 : Shared) : Prop :=
  match m with
  | 0 => e = .ret (.ok (.ret .none)) ∧ Inv X pins σ H s1
  | m + 1 => ∃ v gg l k c p fs x H1, e = .susp v gg l k c p fs ∧ e.quiet = true ∧ RelV x v ∧ Yl (tot - (m + 1)) H x H1 ∧ Wk X env a g fp tn (tot - m) pins σ H1 s1 ∧ R m c (k (.send .none)) fs
def Rdy (X : Cx) (A : Around) (env : Env) (a : Addr) (g : Nat) (fp : List Addr) (tn : Nat → Heap → Prop) (Yl : Nat → Hp → V → Hp → Prop) (tot : Nat) : Nat → Code → Sem PySem.Fin → List Frame → Prop
  | 0 => fun c t fs => ∀ pins σ H s, Wk X env a g fp tn tot pins σ H s → SegC (model X.prog X.w) A (Dn X env a g fp tn Yl tot 0 (fun _ _ _ _ => False) pins σ H) c t fs s
  | m + 1 => fun c t fs => ∀ pins σ H s, Wk X env a g fp tn (tot - (m + 1)) pins σ H s → SegC (model X.prog X.w) A (Dn X env a g fp tn Yl tot (m + 1) (fun _ => Rdy X A env a g fp tn Yl tot m) pins σ H) c t fs s
theorem Rdy.to {A : Around} {a : Addr} {g : Nat} {fp : List Addr} {tn : Nat → Heap → Prop} {Yl : Nat → Hp → V → Hp → Prop} {tot : Nat} {c c' : Code} {t t' : Sem PySem.Fin} {fs fs' : List Frame} : ∀ {m : Nat},
    (∀ F s, SegC (model X.prog X.w) A F c t fs s → SegC (model X.prog X.w) A F c' t' fs' s) → Rdy X A env a g fp tn Yl tot m c t fs → Rdy X A env a g fp tn Yl tot m c' t' fs'
  | 0, i, h => fun pins σ H s W => i _ _ (h pins σ H s W)
  | _ + 1, i, h => fun pins σ H s W => i _ _ (h pins σ H s W)
/-- the body of the generator's loop -/
structure GBody (X : Cx) (env : Env) (N : List Str) (tg e : Expr) (te : TE) (tot : Nat) (Yl : Nat → Hp → V → Hp → Prop) : Prop where
  pg : ∀ s H, PG (gX X env N s H) tg (gName 0)
  pe : ∀ s H, PE (gX X env N s H) e te
  te : ∀ i H Q, i < tot → (∀ x H', Yl i H x H' → Q x H') → te ((List.replicate N.length none).set 0 (some (.int (0 + (i : Nat))))) H Q
  yl : ∀ i H x H', Yl i H x H' → ∀ b u, H b = some u → H' b = some u
  co : env.scope.isCoroutine = false
  int : interactive env = false
theorem loop_rdy {a : Addr} {g : Nat} {fp : List Addr} {it : Addr} {tn : Nat → Heap → Prop} {tot : Nat} {Yl : Nat → Hp → V → Hp → Prop} {tg e : Expr} {te : TE} {yp ep : Pos} {K : PySem.W.Frag} (E : GE X env) (B : GBody X env N tg e te tot Yl) (hK : X.K = K) (T : Turn X.prog X.w K tg (Itr 0 tot) fp it tn)
    (hLf : ∀ b ∈ fp, env.locals < b) (haf : a ∉ fp) (hLa : env.locals < a) {kk : Result → Sem PySem.Fin} {l : List Value} {c0 : Code} {p0 : Pos} (hov : ∀ A : Around, A.over c0 [] = A.deeper env)
    (hend : ∀ F s, F (.ret (.ok (.ret .none))) s → SegC (model X.prog X.w) X.A.in1 F c0 (kk (.ok .next)) [] s) : ∀ m, m ≤ tot →
    Rdy X X.A.in1 env a g fp tn Yl tot m (.forLoop tg (.ref it) [.Expr (.Yield (some e) yp) ep] [] env) ((model X.prog X.w).den (.forLoop tg (.ref it) [.Expr (.Yield (some e) yp) ep] [] env)) [.ret kk none false l c0 p0 []] := by
  have over : X.A.in1.over (.forLoop tg (.ref it) [.Expr (.Yield (some e) yp) ep] [] env) [.ret kk none false l c0 p0 []] = X.A.in1.deeper env := (over_loop rfl rfl).trans (hov _)
  -- the generator's own side at a waking
  have side : ∀ {i pins σ H s}, Wk X env a g fp tn i pins σ H s → Inv (gX X env N s H) (yng s H env.locals fp) (List.replicate N.length none) H s ∧ ∀ b ∈ fp, FpOk (gX X env N s H) (yng s H env.locals fp) H b := fun {i pins σ H s} W => by
    have J := toG (N := N) E W.inv W.fL.1 W.ns (yng s H env.locals fp) fun p hp => by
      obtain ⟨q1, q2, q3, q4, q5⟩ := of_yng hp
      exact ⟨q4, q3, Nat.ne_of_gt q1, fun z => absurd (Nat.lt_trans (E.oldf _ z) q1) (Nat.lt_irrefl _), q5⟩
    refine ⟨J, fun b hb => ⟨(W.ff b hb).1, Nat.ne_of_gt (hLf b hb), fun z => absurd (Nat.lt_trans (E.oldf _ z) (hLf b hb)) (Nat.lt_irrefl _), .inr ?_, fun x c z => ?_, fun p hp z => ?_⟩⟩
    · obtain ⟨m, hm⟩ := W.ns
      show (tr s.heap env.locals).objs.size ≤ b
      rw [tr_size (Nat.le_of_lt hm.lt)]
      exact Nat.le_of_lt (hLf b hb)
    · have z : env.cells.lookup x = some c := z
      rw [E.cells] at z
      cases z
    · exact (of_yng hp).2.1 (by rw [z]; exact hb)
  intro m
  induction m with
  | zero =>
    intro _ pins σ H s W
    obtain ⟨J, Jf⟩ := side W
    refine segc_forLoop ?_
    rw [over]
    refine wpAny_mono (T.done (gX X env N s H) rfl rfl hK rfl tot _ s _ H (fun _ _ => False) J Jf W.st (Nat.le_refl _)) (fun r s1 ⟨hr, J1⟩ => ?_) fun _ _ x => x
    subst hr
    refine segc_block0 (segc_leaf (.ok .next) (hend _ _ ⟨rfl, ?_⟩))
    exact back (pm := []) E W.inv W.fL W.ff (by rw [List.append_nil]; exact J1) fun _ _ z => z
  | succ m ih =>
    intro hm pins σ H s W
    obtain ⟨J, Jf⟩ := side W
    have hi : tot - (m + 1) < tot := by omega
    refine segc_forLoop ?_
    rw [over]
    refine wpAny_mono (T.item (gX X env N s H) rfl rfl hK rfl (tot - (m + 1)) _ s _ H (fun _ _ => False) J Jf W.st hi) (fun r s1 ⟨u, hr, h1⟩ => ?_) fun _ _ x => x
    subst hr
    refine wpAny_mono h1 (fun _ s5 ⟨x, H5, J5, r5, y5, st5, fr5⟩ => ?_) fun _ _ x => x
    obtain ⟨e5, ex⟩ := y5
    subst e5
    subst ex
    have obj5 := T.obj _ _ st5
    have J5' := Inv.pinned J5 (fun b hb => fpTo (Jf b hb) (fr5 b hb)) obj5
    refine wpAny_mono ((B.pg s H5).run _ s5 _ H5 _ u (fun σ' H' => σ' = (List.replicate N.length none).set 0 (some (.int (0 + ((tot - (m + 1) : Nat) : Int)))) ∧ H' = H5) J5' r5 ⟨rfl, rfl⟩) (fun _ s6 ⟨σ6, H6, J6, e6, e7⟩ => ?_) fun _ _ x => x
    subst e6
    subst e7
    rw [execs_cons_wrap]
    refine segc_Expr_Yield rfl ?_ B.co B.int
    rw [over]
    refine wpAny_mono ((B.pe s H6).run _ s6 _ H6 _ J6 (B.te _ H6 (fun x H' => Yl (tot - (m + 1)) H6 x H') hi fun _ _ z => z)) (fun v s7 ⟨x, H7, J7, rx, y7⟩ => ?_) fun _ _ x => x.elim
    intro l7 k7 p7 ek
    have km := B.yl _ _ _ _ y7
    have I7 := back (fp := fp) E W.inv W.fL W.ff J7 km
    have pinf : ∀ b ∈ fp, ∀ o, s5.heap.get? b = some o → s7.heap.get? b = some o ∧ H7 b = none := fun b hb o eo =>
      let z := J7.pin (b, o) (List.mem_append_right _ (List.mem_append_right _ (mem_pinsAt hb eo)))
      ⟨z.1, z.2.1⟩
    obtain ⟨og, nm, qn, eg, hgc, hgd, hgs⟩ := id W.gen
    have pina := J7.pin (a, og) (List.mem_append_right _ (List.mem_append_left _ (mem_yng hLa haf W.fa.1 eg fun v z => by rw [hgd] at z; cases z)))
    refine ⟨v, _, l7, k7, _, p7, _, x, H7, rfl, rfl, rx, y7, ⟨I7, fpTo W.fL J7.free, fun b hb => ?_, fpTo W.fa pina.2.1, ⟨og, nm, qn, pina.1, hgc, hgd, hgs⟩, ?_, ?_⟩, ?_⟩
    · obtain ⟨o, eo, _⟩ := obj5 b hb
      exact fpTo (W.ff b hb) (pinf b hb o eo).2
    · obtain ⟨m7, hn7, _⟩ := J7.loc
      exact ⟨m7, hn7⟩
    · have e : tot - (m + 1) + 1 = tot - m := by omega
      rw [← e]
      exact T.keep _ _ _ st5 fun b hb o eo => (pinf b hb o eo).1
    · rw [ek]
      exact Rdy.to (fun F s' h => segc_again rfl h) (ih (by omega))
/-- the first waking: the loop is begun -/
theorem first {a : Addr} {g : Nat} {tot : Nat} {Yl : Nat → Hp → V → Hp → Prop} {tg e iter : Expr} {te : TE} {wi : TI} {yp ep pos : Pos} {K : PySem.W.Frag} (E : GE X env) (B : GBody X env N tg e te tot Yl) (hK : X.K = K) (h0 : 0 < tot) (hLa : env.locals < a) (hpi : ∀ s H, PI (gX X env N s H) tg iter wi) (hwi : ∀ σ H R, R (Itr 0 tot) H → wi σ H R)
    (hfo : ∀ x, foldedSetIterable iter env x = pure x) (hov : ∀ A : Around, A.over (.func [.For tg iter [.Expr (.Yield (some e) yp) ep] [] pos] env) [] = A.deeper env)
    (I : Inv X pins σ H s) (fL : FpOk X pins H env.locals) (fa : FpOk X pins H a) (gen : s.heap.IsGen a g) (ns : ∃ m, s.heap.Ns env.locals m) :
    SegC (model X.prog X.w) X.A.in1 (fun e1 s1 => ∃ fp tn, (∀ b ∈ fp, env.locals < b) ∧ a ∉ fp ∧ (∃ it, Turn X.prog X.w K tg (Itr 0 tot) fp it tn) ∧ Dn X env a g fp tn Yl tot (tot - 1 + 1) (fun _ => Rdy X X.A.in1 env a g fp tn Yl tot (tot - 1)) pins σ H e1 s1)
      (.func [.For tg iter [.Expr (.Yield (some e) yp) ep] [] pos] env) ((model X.prog X.w).den (.func [.For tg iter [.Expr (.Yield (some e) yp) ep] [] pos] env)) [] s := by
  subst hK
  have J := toG (N := N) E I fL.1 ns (yng s H env.locals []) fun p hp => by
    obtain ⟨q1, q2, q3, q4, q5⟩ := of_yng hp
    exact ⟨q4, q3, Nat.ne_of_gt q1, fun z => absurd (Nat.lt_trans (E.oldf _ z) q1) (Nat.lt_irrefl _), q5⟩
  have ltL : env.locals < s.heap.objs.size := let ⟨_, hm⟩ := ns; hm.lt
  refine segc_func ?_
  rw [execs_cons_wrap]
  refine segc_For hfo ?_
  rw [hov]
  refine wpAny_mono ((hpi s H).run _ s _ H (fun J' H' => J' = Itr 0 tot ∧ H' = H) J (hwi _ _ _ ⟨rfl, rfl⟩)) (fun v s1 h1 => ?_) fun _ _ x => x.elim
  refine wpAny_mono h1 (fun u s2 h2 => ?_) fun _ _ x => x.elim
  obtain ⟨it, fp, tn, J', H2, eu, J2, T, st2, f2, eJ, eH⟩ := h2
  subst eu
  subst eJ
  subst eH
  intro k l p ek
  have hL : ∀ b ∈ fp, env.locals < b := fun b hb => by
    obtain ⟨_, n1, _, z, _⟩ := f2 b hb
    rcases z with z | z
    · cases z
    · have z : (tr s.heap env.locals).objs.size ≤ b := z
      rw [tr_size (Nat.le_of_lt ltL)] at z
      exact Nat.lt_of_le_of_ne z (Ne.symm n1)
  have apart : ∀ p ∈ yng s H2 env.locals [], p.1 ∉ fp := fun p hp z => (f2 p.1 z).2.2.2.2.2 p (List.mem_append_right _ hp) rfl
  obtain ⟨og, nm, qn, eg, hgc, hgd, hgs⟩ := id gen
  have ya := mem_yng (s := s) (H := H2) (L := env.locals) (fp := []) hLa (fun z => by cases z) fa.1 eg fun v z => by rw [hgd] at z; cases z
  have haf : a ∉ fp := apart _ ya
  have I2 := back (fp := []) (pm := []) E I fL (fun b z => by cases z) (by rw [List.append_nil]; exact J2) fun _ _ z => z
  have pina := J2.pin (a, og) (List.mem_append_right _ ya)
  have W : Wk X env a g fp tn 0 pins σ H2 s2 := ⟨I2, fL, fun b hb => ⟨(f2 b hb).1, Nat.ne_of_gt (Nat.lt_trans E.old (hL b hb)), fun z => ?_, .inr (Nat.le_of_lt (Nat.lt_of_le_of_lt E.olds (hL b hb))), fun x c z y => ?_, fun p hp z => ?_⟩, fa, ⟨og, nm, qn, pina.1, hgc, hgd, hgs⟩, (let ⟨m2, hn2, _⟩ := J2.loc; ⟨m2, hn2⟩), st2⟩
  · obtain ⟨n, rfl⟩ : ∃ n, tot = n + 1 := ⟨tot - 1, by omega⟩
    have q := loop_rdy (g := g) (yp := yp) (ep := ep) E B rfl T hL haf hLa (kk := k) (l := l) (p0 := p) hov (fun F s' h => by
      rw [ek]
      exact segc_end (.ok (.ret .none)) h) (n + 1) (Nat.le_refl _)
    refine segc_mono (q pins σ H2 s2 (by rw [Nat.sub_self]; exact W)) fun e1 s1 h => ⟨fp, tn, hL, haf, ⟨it, T⟩, h⟩
  · have hz : b ∈ frs X.stack := by
      rcases I.ok.stk with q | ⟨q, _⟩
      · rw [q]; exact z
      · rw [q]
        unfold frs
        rw [List.filterMap_cons]
        split
        · exact z
        · exact List.mem_cons_of_mem _ z
    exact absurd (Nat.lt_trans (E.oldf _ hz) (hL b hb)) (Nat.lt_irrefl _)
  · have q := E.oldc x c z
    rw [y] at q
    exact absurd (Nat.lt_trans q (hL b hb)) (Nat.lt_irrefl _)
  · obtain ⟨q1, q2, _, _, q5⟩ := I.pin p hp
    have lb := hL b hb
    rw [← z] at lb hb
    exact apart (p.1, p.2) (mem_yng lb (fun z => by cases z) q2 q1 q5) hb
end
end Gs
namespace Gt
open PySem PySem.Spec PyProof.Rows L2 GenW Gq Gr Gs
open Sem (wp)
/-- for x in g(): Yl i: what the turn i hands out -/
def tForG (tot : Nat) (Yl : Nat → Hp → V → Hp → Prop) (g : TG) (tb : TS) : TS := fun D σ H => ∃ W : Nat → L2.St → Hp → Prop, W 0 σ H ∧
  (∀ i σ H, i < tot → W i σ H → ∀ x H', Yl i H x H' → g x σ H' fun σ2 H2 => tb { D with nx := W (i + 1), ct := W (i + 1), bk := D.nx } σ2 H2) ∧ ∀ σ H, W tot σ H → D.nx σ H
theorem goes_mono {M : Model} {A : Around} {F F' : End → Shared → Prop} {gs : GenState} {s : Shared} (h : GoesC M A F gs s) (i : ∀ e s', F e s' → F' e s') : GoesC M A F' gs s := by
  cases gs with
  | fresh c => exact segc_mono h i
  | suspended k l c p fs cl => exact segc_mono h i
  | running => exact h.elim
  | finished => exact h.elim
section
variable {X : Cx}
theorem ps_forG {f : Addr} {x qual : Str} {cdv oc dV kV doc pm ct : Value} {an od : Option Addr} {osl : Array (Option Value)} {params : Arguments} {scope : Scope} {N : List Str} {tot : Nat} {Yl : Nat → Hp → V → Hp → Prop} {tgG eG iterG : Expr} {teG : TE} {wiG : TI} {yp ep fp_ : Pos}
    {tg : Expr} {body : List Stmt} {g : TG} {tb : TS} {pos cp np : Pos}
    (lk : X.K.lookup f = some ⟨oc, od, .func (PySem.W.fnOf x qual params [.For tgG iterG [.Expr (.Yield (some eG) yp) ep] [] fp_] scope dV kV doc pm an cdv ct), osl⟩) (hcd : PySem.W.codeIn X.K cdv qual = true) (hkp : PySem.W.keepIn X.K (.ref f) = true) (S : GScope N [] scope)
    (hbd : Binds X.K (PySem.W.fnOf x qual params [.For tgG iterG [.Expr (.Yield (some eG) yp) ep] [] fp_] scope dV kV doc pm an cdv ct) [] [])
    (hcells : ∀ n, cellsFrom n scope.names [] = []) (hnc : ∀ y, scope.names.lookup y ≠ some .cell ∧ scope.names.lookup y ≠ some .free) (h0 : 0 < tot)
    (hB : ∀ L, GBody X (envOfC qual scope L f cdv) N tgG eG teG tot Yl) (hpi : ∀ L s H, PI (gX X (envOfC qual scope L f cdv) N s H) tgG iterG wiG) (hwi : ∀ σ H R, R (Itr 0 tot) H → wiG σ H R) (hfo : ∀ L y, foldedSetIterable iterG (envOfC qual scope L f cdv) y = pure y)
    (hg : Gl X x) (hm : X.mg x = some (.ref f)) (hr : Room 2 X.A) (hxe : ∀ e s, ¬ X.xe e s) (hgT : PG X tg g) (hb : PSs X body tb) (hdb : (x == ("__debug__" : Str)) = false := by decide)
    (hs : ∀ y, foldedSetIterable (.Call (.Name x np) [] [] cp) X.env y = pure y := by intro _; rfl) : PS X (.For tg (.Call (.Name x np) [] [] cp) body [] pos) (tForG tot Yl g tb) := by
  refine ⟨fun pins s σ H D I h => ?_⟩
  obtain ⟨W, w0, step, fin⟩ := h
  refine wpAny_For ?_ hs
  have KX : X.K.In s.heap := I.kIn
  refine wpAny_Call_Name_kw (ld_glob I hg hm ?_ hdb)
  refine PySem.W.callWith_K0 KX hkp ?_
  have nil : ∀ (b : Addr), b ∉ ([] : List Addr) := fun b z => by cases z
  refine wpAny_call (codeAny_mono (R := fun r s' => ∃ a g, r = .ok (.ret (.ref a)) ∧ Inv X pins σ H s' ∧ GE X (envOfC qual scope s.heap.objs.size f cdv) ∧ FpOk X pins H s.heap.objs.size ∧ FpOk X pins H a ∧ s.heap.objs.size < a ∧ s'.heap.IsGen a g ∧ (∃ m, s'.heap.Ns s.heap.objs.size m) ∧
    s'.gens[g]? = some (.fresh (.func [.For tgG iterG [.Expr (.Yield (some eG) yp) ep] [] fp_] (envOfC qual scope s.heap.objs.size f cdv)))) ?_ ?_)
  · refine codeAny_call_generator hr.depth (KX _ _ lk) rfl S.co S.gen rfl (PySem.W.codeRec_of KX hcd) (hbd s [] KX rfl _ _ _ _ ?_)
    refine wpAny_newFunctionEnv_cells S.kind (fun y hy => by cases hy) fun env he s1 x1 => ?_
    have he : env = envOfC qual scope s.heap.objs.size f cdv := he
    subst he
    have lim1 : s1.heap.NoLimit := I.nolimit.keeps x1.toInCall.keep
    refine ⟨lim1, ?_⟩
    obtain ⟨h1, tk, es1, hk1⟩ := x1.done
    have os1 : s1.os = s.os := by rw [es1]
    have gen1 : s1.gens = s.gens := by rw [es1]
    have lt1 : s.heap.objs.size < s1.heap.objs.size := x1.toInCall.ns.lt
    have kp1 : ∀ b o, s.heap.get? b = some o → s1.heap.get? b = some o := x1.toInCall.keep
    have kp2 : ∀ (go : Obj) b o, s.heap.get? b = some o → (s1.heap.push go).get? b = some o := fun go b o e => Heap.get?_push_of_some _ (kp1 b o e)
    refine ⟨_, s1.gens.size, rfl, I.call' (ch := []) os1 (Un.kept (kp2 _)) (I.hok.kept (kp2 _)) (AllBare.push (by rw [gen1]; exact I.bare) rfl) (fun b z => absurd z (nil b)), ⟨S.kind, rfl, rfl, hcells _, hnc, rfl, Nat.le_trans I.ok.bsz I.sz, I.lt, I.sz, fun y c e => ?_, fun b hb => ?_, hr.hd⟩,
      Inv.fpOk I (Nat.le_refl _) (I.hok.fresh (Nat.le_refl _)), Inv.fpOk I (Nat.le_of_lt lt1) (I.hok.fresh (Nat.le_of_lt lt1)), lt1, ⟨_, _, _, Heap.get?_push_size _ rfl, rfl, rfl, rfl⟩, ⟨_, x1.toInCall.ns.push _⟩, Array.getElem?_push_size ..⟩
    · obtain ⟨v, o, ho, _⟩ := I.cell y c e
      exact Heap.lt_size ho
    · obtain ⟨_, o, ho, _⟩ := I.stack.mem hb
      exact Heap.lt_size ho
  rintro r s' ⟨a, g', rfl, I1, E, fL, fa, hLa, hgen, hns, hgs⟩
  -- the state at a turn
  refine wpAny_pyIter_gen hgen ?_
  have hxe' : ∀ e s', X.xe e s' → False := hxe
  refine codeAny_forLoop_any (fun n s2 => ∃ i σ' H', n = tot - i ∧ i ≤ tot ∧ W i σ' H' ∧ Inv X pins σ' H' s2 ∧ FpOk X pins H' s.heap.objs.size ∧ FpOk X pins H' a ∧ s2.heap.IsGen a g' ∧ (∃ m, s2.heap.Ns s.heap.objs.size m) ∧
    ((i = 0 ∧ s2.gens[g']? = some (.fresh (.func [.For tgG iterG [.Expr (.Yield (some eG) yp) ep] [] fp_] (envOfC qual scope s.heap.objs.size f cdv)))) ∨
      (0 < i ∧ ∃ fp tn, (∀ b ∈ fp, s.heap.objs.size < b) ∧ a ∉ fp ∧ (∃ it, Turn X.prog X.w X.K tgG (Itr 0 tot) fp it tn) ∧ (∀ b ∈ fp, FpOk X pins H' b) ∧ tn i s2.heap ∧ ∃ k l c p fs cl, s2.gens[g']? = some (.suspended k l c p fs cl) ∧ Rdy X X.A.in1 (envOfC qual scope s.heap.objs.size f cdv) a g' fp tn Yl tot (tot - i) c (k (.send .none)) fs)))
    ?_ tot ⟨0, σ, H, rfl, Nat.zero_le _, w0, I1, fL, fa, hgen, hns, .inl ⟨rfl, hgs⟩⟩
  rintro n s2 ⟨i, σ2, H2, rfl, hi, w2, I2, fL2, fa2, gen2, ns2, st2⟩
  have lim2 : s2.heap.NoLimit := I2.nolimit
  have bareR : AllBare (s2.setGen g' .running).gens := allBare_setGen I2.bare rfl
  have I2r := Inv.regens I2 bareR
  by_cases lt : i < tot
  · obtain ⟨m, hm⟩ : ∃ m, tot - i = m + 1 := ⟨tot - i - 1, by omega⟩
    have ei : tot - (m + 1) = i := by omega
    have key : ∃ gs, s2.gens[g']? = some gs ∧ GoesC (model X.prog X.w) X.A.in1 (fun e1 s1 => ∃ fp tn, (∀ b ∈ fp, s.heap.objs.size < b) ∧ a ∉ fp ∧ (∃ it, Turn X.prog X.w X.K tgG (Itr 0 tot) fp it tn) ∧ Dn X (envOfC qual scope s.heap.objs.size f cdv) a g' fp tn Yl tot (m + 1) (fun _ => Rdy X X.A.in1 (envOfC qual scope s.heap.objs.size f cdv) a g' fp tn Yl tot m) pins σ2 H2 e1 s1) gs (s2.setGen g' .running) := by
      rcases st2 with ⟨e0, hgs2⟩ | ⟨_, fp, tn, q1, q2, q3, q4, q5, k, l, c, p, fs, cl, hgs2, rdy⟩
      · subst e0
        refine ⟨_, hgs2, ?_⟩
        have q := first (a := a) (g := g') (iter := iterG) (wi := wiG) (yp := yp) (ep := ep) (pos := fp_) E (hB _) rfl h0 hLa (hpi _) hwi (hfo _) (fun A => over_func) I2r fL2 fa2 gen2 ns2
        have em : tot - 1 = m := by omega
        rw [em] at q
        exact q
      · refine ⟨_, hgs2, ?_⟩
        rw [hm] at rdy
        have q := rdy pins σ2 H2 (s2.setGen g' .running) (by rw [ei]; exact ⟨I2r, fL2, q4, fa2, gen2, ns2, q5⟩)
        exact segc_mono q fun e1 s1 h => ⟨fp, tn, q1, q2, q3, h⟩
    obtain ⟨gs, hgs2, hgo⟩ := key
    have hgl : g' < s2.gens.size := (Array.getElem?_eq_some_iff.mp hgs2).1
    refine wpAny_gsz (n := g' + 1) hgl (next_genC hr.hd lim2 hr.depth gen2 hgs2 (goes_mono hgo ?_))
    rintro e1 s1 ⟨fp, tn, q1, q2, ⟨it, T⟩, v, gg, l, k, c, p, fs, x, H1, rfl, hq, rv, y1, W1, rdy⟩
    refine .inr ⟨v, gg, l, k, c, p, fs, rfl, hq, fun hsz => ?_⟩
    rw [ei] at y1
    have ei1 : tot - m = i + 1 := by omega
    rw [ei1] at W1
    have hg1 : g' < s1.gens.size := by
      have z : (s1.setGen g' (End.susp v gg l k c p fs).genState).gens.size = s1.gens.size := setGen_size _ _ _
      have hsz' : g' + 1 ≤ (s1.setGen g' (End.susp v gg l k c p fs).genState).gens.size := hsz
      omega
    have bare1 : AllBare (s1.setGen g' (End.susp v gg l k c p fs).genState).gens := allBare_setGen W1.inv.bare (End.bare_of_quiet hq)
    have at1 : (s1.setGen g' (End.susp v gg l k c p fs).genState).gens[g']? = some (.suspended k l c p fs (gg || fs.any Frame.guarded)) := setGen_at hg1
    have W1' := Wk.regens W1 bare1
    obtain ⟨og, nm, qn, eg, hgc, hgd, hgs0⟩ := id W1'.gen
    have objs : ∀ b ∈ s.heap.objs.size :: a :: fp, ∃ o, s1.heap.get? b = some o ∧ ∀ v, o.data ≠ .cell v := fun b hb => by
      rcases List.mem_cons.mp hb with z | hb
      · obtain ⟨mm, o, es, epp, ho, hd, _⟩ := W1.ns
        rw [z]
        exact ⟨o, ho, fun v z => by rw [hd] at z; cases z⟩
      · rcases List.mem_cons.mp hb with z | hb
        · rw [z]
          exact ⟨og, eg, fun v z => by rw [hgd] at z; cases z⟩
        · exact T.obj _ _ W1.st b hb
    have ffs : ∀ b ∈ s.heap.objs.size :: a :: fp, FpOk X pins H1 b := fun b hb => by
      rcases List.mem_cons.mp hb with z | hb
      · rw [z]; exact W1.fL
      · rcases List.mem_cons.mp hb with z | hb
        · rw [z]; exact W1.fa
        · exact W1.ff b hb
    have IP := Inv.pinned W1'.inv ffs objs
    refine go_of eg hgc hgd (by decide) ?_
    refine wpAny_mono (Gk.kept (s := s1.setGen g' (End.susp v gg l k c p fs).genState) bare1 at1 fun G hG => hgT.run _ _ σ2 H1 x v _ (Inv.regens IP hG) rv (step i σ2 H2 lt w2 x H1 y1)) (fun _ s3 h3 => ?_) fun e s3 ⟨G, _, h⟩ => (hxe' _ _ h).elim
    obtain ⟨at3, G3, b3, σ3, H3, I3, q3⟩ := h3
    have I3' := Inv.regens I3 (b3 I3.bare)
    refine wpAny_mono (Gk.kept (s := s3) I3'.bare at3 fun G hG => hb.run _ _ σ3 H3 _ (Inv.regens I3' hG) q3) (fun fl s4 h4 => ?_) fun e s4 ⟨G, _, h⟩ => (hxe' _ _ h).elim
    obtain ⟨at4, G4, b4, q4⟩ := h4
    have again : ∀ {σ7 : L2.St} {H7 : Hp}, Inv X (pins ++ pinsAt (s.heap.objs.size :: a :: fp) s1.heap) σ7 H7 (Gk.wg s4 G4) → W (i + 1) σ7 H7 → ∃ m', m' < tot - i ∧ ∃ i σ' H', m' = tot - i ∧ i ≤ tot ∧ W i σ' H' ∧ Inv X pins σ' H' s4 ∧ FpOk X pins H' s.heap.objs.size ∧ FpOk X pins H' a ∧ s4.heap.IsGen a g' ∧ (∃ m, s4.heap.Ns s.heap.objs.size m) ∧
        ((i = 0 ∧ s4.gens[g']? = some (.fresh (.func [.For tgG iterG [.Expr (.Yield (some eG) yp) ep] [] fp_] (envOfC qual scope s.heap.objs.size f cdv)))) ∨
          (0 < i ∧ ∃ fp tn, (∀ b ∈ fp, s.heap.objs.size < b) ∧ a ∉ fp ∧ (∃ it, Turn X.prog X.w X.K tgG (Itr 0 tot) fp it tn) ∧ (∀ b ∈ fp, FpOk X pins H' b) ∧ tn i s4.heap ∧ ∃ k l c p fs cl, s4.gens[g']? = some (.suspended k l c p fs cl) ∧ Rdy X X.A.in1 (envOfC qual scope s.heap.objs.size f cdv) a g' fp tn Yl tot (tot - i) c (k (.send .none)) fs)) := fun {σ7 H7} I7 n7 => by
      have I7' := Inv.regens I7 (b4 I7.bare)
      have pin7 : ∀ b ∈ s.heap.objs.size :: a :: fp, ∀ o, s1.heap.get? b = some o → s4.heap.get? b = some o ∧ H7 b = none := fun b hb o eo =>
        let z := I7'.pin (b, o) (List.mem_append_right _ (List.mem_append_right _ (mem_pinsAt hb eo)))
        ⟨z.1, z.2.1⟩
      have fp7 : ∀ b ∈ s.heap.objs.size :: a :: fp, FpOk X pins H7 b := fun b hb => by
        obtain ⟨o, eo, _⟩ := objs b hb
        exact fpTo (ffs b hb) (pin7 b hb o eo).2
      have mL : s.heap.objs.size ∈ s.heap.objs.size :: a :: fp := List.mem_cons_self
      have ma : a ∈ s.heap.objs.size :: a :: fp := List.mem_cons_of_mem _ List.mem_cons_self
      have mf : ∀ b ∈ fp, b ∈ s.heap.objs.size :: a :: fp := fun b hb => List.mem_cons_of_mem _ (List.mem_cons_of_mem _ hb)
      refine ⟨tot - (i + 1), by omega, i + 1, σ7, H7, rfl, lt, n7, I7'.unpinned, fp7 _ mL, fp7 _ ma, ⟨og, nm, qn, (pin7 a ma og eg).1, hgc, hgd, hgs0⟩, ?_, .inr ⟨Nat.succ_pos _, fp, tn, q1, q2, ⟨it, T⟩, fun b hb => fp7 b (mf b hb), T.keep _ _ _ W1.st fun b hb o eo => (pin7 b (mf b hb) o eo).1, k, l, c, p, fs, _, at4, ?_⟩⟩
      · obtain ⟨mm, o, es, epp, ho, r⟩ := W1.ns
        exact ⟨mm, o, es, epp, (pin7 _ mL o ho).1, r⟩
      · have e : tot - (i + 1) = m := by omega
        rw [e]
        exact rdy
    cases fl with
    | next => obtain ⟨σ7, H7, I7, n7⟩ := q4; exact again I7 n7
    | cont => obtain ⟨σ7, H7, I7, n7⟩ := q4; exact again I7 n7
    | brk => obtain ⟨σ7, H7, I7, n7⟩ := q4; exact ⟨σ7, H7, (Inv.regens I7 (b4 I7.bare)).unpinned, n7⟩
    | ret u => obtain ⟨x7, σ7, H7, I7, r7, n7⟩ := q4; exact ⟨x7, σ7, H7, (Inv.regens I7 (b4 I7.bare)).unpinned, r7, n7⟩
  · have e : i = tot := by omega
    subst e
    rcases st2 with ⟨e0, _⟩ | ⟨_, fp, tn, q1, q2, q3, q4, q5, k, l, c, p, fs, cl, hgs2, rdy⟩
    · omega
    rw [Nat.sub_self] at rdy
    have q := rdy pins σ2 H2 (s2.setGen g' .running) ⟨I2r, fL2, q4, fa2, gen2, ns2, q5⟩
    refine next_genC hr.hd lim2 hr.depth gen2 hgs2 (segc_mono q ?_)
    rintro e1 s1 ⟨rfl, I3⟩
    refine .inl ⟨rfl, fun h' hk => wpAny_execs_nil ⟨σ2, H2, ?_, fin _ _ w2⟩⟩
    exact Inv.kept (t' := s1.toks) (Inv.regens I3 (allBare_setGen (g := g') (x := .finished) I3.bare rfl)) hk
end
end Gt
namespace Dr
open PySem PySem.Spec PyProof.Rows L2
/-! ### the drawing of numbers: smixed, sdraw, sopen -/
def topS (i : Nat) : Stmt := PySem.Challenge.pw_sparecut_k25_whole_trees_and_ladders.main.body.getD i (.Pass ⟨0, 0, 0, 0⟩)
abbrev sMix : Stmt := topS 67
abbrev sDrw : Stmt := topS 68
abbrev sOpn : Stmt := topS 69
theorem scMix : FnScope ["cell", "at", "one", "two", "three"] ["cell", "at"] (defScope sMix) := ⟨rfl, rfl, rfl, by decide +kernel, rfl, by decide +kernel, by decide +kernel⟩
theorem scDrw : FnScope ["feed", "many", "at", "cell", "digit"] ["feed", "many"] (defScope sDrw) := ⟨rfl, rfl, rfl, by decide +kernel, rfl, by decide +kernel, by decide +kernel⟩
theorem scOpn : FnScope ["script"] ["script"] (defScope sOpn) := ⟨rfl, rfl, rfl, by decide +kernel, rfl, by decide +kernel, by decide +kernel⟩
/-- what lies at f: cells (at c), a place, a rest; at most B cells were taken -/
def Feed (H : Hp) (f c : Addr) (B : Nat) : Prop := ∃ (ns : List Int) (n : Nat) (r : Int),
  H f = some (.lst [.ref c, .int n, .int r]) ∧ H c = some (.lst (ns.map V.int)) ∧ ns.length ≤ 60 ∧ n ≤ B
/-- all but f is as it was -/
def But (f : Addr) (H H' : Hp) : Prop := ∀ b, b ≠ f → H' b = H b
theorem But.refl (f : Addr) (H : Hp) : But f H H := fun _ _ => rfl
theorem But.trans {f : Addr} {H H1 H2 : Hp} (a : But f H H1) (b : But f H1 H2) : But f H H2 := fun x n => (b x n).trans (a x n)
theorem Feed.mono {H : Hp} {f c : Addr} {B B' : Nat} (h : Feed H f c B) (l : B ≤ B') : Feed H f c B' := by
  obtain ⟨ns, n, r, h1, h2, h3, h4⟩ := h
  exact ⟨ns, n, r, h1, h2, h3, Nat.le_trans h4 l⟩
theorem Feed.same {H H' : Hp} {f c : Addr} {B : Nat} (h : Feed H f c B) (s : Same H H') : Feed H' f c B := by
  obtain ⟨ns, n, r, h1, h2, h3, h4⟩ := h
  exact ⟨ns, n, r, s _ _ h1, s _ _ h2, h3, h4⟩
theorem Feed.upd {H : Hp} {f c D : Addr} {B : Nat} {o : HO} (h : Feed H f c B) (nf : D ≠ f) (nc : D ≠ c) : Feed (upd H D o) f c B := by
  obtain ⟨ns, n, r, h1, h2, h3, h4⟩ := h
  exact ⟨ns, n, r, by rw [upd_ne (Ne.symm nf)]; exact h1, by rw [upd_ne (Ne.symm nc)]; exact h2, h3, h4⟩
theorem Feed.nf {H : Hp} {f c D : Addr} {B : Nat} (h : Feed H f c B) (n : H D = none) : D ≠ f := by
  obtain ⟨_, _, _, h1, _⟩ := h
  exact Ne.symm (ne_of_none h1 n)
theorem Feed.nc {H : Hp} {f c D : Addr} {B : Nat} (h : Feed H f c B) (n : H D = none) : D ≠ c := by
  obtain ⟨_, _, _, _, h2, _⟩ := h
  exact Ne.symm (ne_of_none h2 n)
theorem feed_ne {H : Hp} {f c : Addr} {ns : List Int} {a : V} {as : List V} (h1 : H f = some (.lst (.ref c :: as))) (h2 : H c = some (.lst (ns.map V.int))) : c ≠ f := by
  intro e
  rw [e, h1] at h2
  have z := HO.lst.inj (Option.some.inj h2)
  cases ns with
  | nil => cases z
  | cons x r => cases z
section
variable {P : Program} {w : World} {K : PySem.W.Frag} {mg : Str → Option Value} {base : Heap}
def spMix : Sp := fun vs H Q _ => ∃ (c : Int) (n : Nat), vs = [.int c, .int n] ∧ n ≤ 2 ^ 60 ∧ ∀ r : Int, Q (.int r) H
theorem ok_mix {f : Addr} {fd : FuncData} {k : Nat} (F : Fun K "_law_smixed" "_law_smixed" sMix f fd) : FnOk P w K mg base CX0 (k + 1) f fd ["cell", "at"] spMix := by
  refine F.ok scMix (fun vs H Q E h => ?_) (fun cdv A outer s H vs Q E hr h => ?_)
  · obtain ⟨c, n, rfl, _⟩ := h
    rfl
  · obtain ⟨c, n, rfl, hn, q⟩ := h
    refine ⟨_, pss_cons (ps_set (i := 2) scMix.nd rfl (.inl rfl) (pe_op op_mod (pe_op op_add (pe_op op_add (pe_op op_mul (pe_op op_mod (pv 0) pe_int) pe_int) (pe_op op_mul (pv 1) pe_int)) pe_int) pe_int))
      (pss_cons (ps_set (i := 3) scMix.nd rfl (.inl rfl) (pe_op op_mod (pe_op op_add (pe_op op_add (pe_op op_mul (pv 2) (pv 2)) (pe_op op_mul (pe_op op_mul (pv 1) (pv 1)) pe_int)) pe_int) pe_int))
      (pss_cons (ps_set (i := 4) scMix.nd rfl (.inl rfl) (pe_op op_mod (pe_op op_add (pe_op op_add (pe_op op_mul (pv 3) (pv 3)) (pv 2)) (pv 1)) pe_int))
      (pss_one (ps_ret (pe_op op_add (pe_op op_mul (pe_op op_add (pe_op op_mul (pv 4) pe_int) (pv 3)) pe_int) (pv 2)))))), ?_⟩
    refine ⟨_, rfl, _, _, rfl, rfl, by show (0 : Int) < 2147483647; decide, _, _, rfl, rfl, .inr ⟨by decide, by decide⟩, _, rfl, _, _, rfl, rfl, .inr ⟨by decide, by decide⟩, _, _, rfl, rfl, _, _, rfl, rfl, _, _, rfl, rfl, by show (0 : Int) < 2147483629; decide, ?_⟩
    generalize e1 : (c % 2147483647 * 48271 + (n : Int) * 7919 + 11) % 2147483629 = one
    have o1 : 0 ≤ one := by rw [← e1]; exact Int.emod_nonneg _ (by decide)
    have o2 : one < 2147483629 := by rw [← e1]; exact Int.emod_lt_of_pos _ (by decide)
    refine ⟨_, rfl, _, rfl, _, _, rfl, rfl, .inl ⟨by omega, by omega⟩, _, rfl, _, rfl, _, _, rfl, rfl, .inl ⟨by omega, by omega⟩, _, _, rfl, rfl, .inr ⟨by decide, by decide⟩, _, _, rfl, rfl, _, _, rfl, rfl, _, _, rfl, rfl, by show (0 : Int) < 2147483587; decide, ?_⟩
    generalize e2 : (one * one + (n : Int) * (n : Int) * 31 + 5) % 2147483587 = two
    have t1 : 0 ≤ two := by rw [← e2]; exact Int.emod_nonneg _ (by decide)
    have t2 : two < 2147483587 := by rw [← e2]; exact Int.emod_lt_of_pos _ (by decide)
    refine ⟨_, rfl, _, rfl, _, _, rfl, rfl, .inl ⟨by omega, by omega⟩, _, rfl, _, _, rfl, rfl, _, rfl, _, _, rfl, rfl, _, _, rfl, rfl, by show (0 : Int) < 2147483563; decide, ?_⟩
    exact ⟨_, rfl, _, _, rfl, rfl, .inr ⟨by decide, by decide⟩, _, rfl, _, _, rfl, rfl, _, _, rfl, rfl, .inr ⟨by decide, by decide⟩, _, rfl, _, _, rfl, rfl, q _⟩
/-- sdraw(feed, many): any number from 0 to many - 1 -/
def spDrw : Sp := fun vs H Q _ => ∃ (f c : Addr) (m : Int) (B : Nat), vs = [.ref f, .int m] ∧ 0 < m ∧ m < 2 ^ 29 ∧ Feed H f c B ∧ B ≤ 2 ^ 59 ∧
  ∀ (d : Int) (H' : Hp), 0 ≤ d → d < m → Feed H' f c (B + 1) → But f H H' → Q (.int d) H'
theorem ok_drw {f fM : Addr} {fd fdM : FuncData} {k : Nat} (F : Fun K "_law_sdraw" "_law_sdraw" sDrw f fd) (FM : Fun K "_law_smixed" "_law_smixed" sMix fM fdM) (bM : Binds K fdM ["cell", "at"] []) (gM : mg "_law_smixed" = some (.ref fM)) (ml : mg "len" = none) :
    FnOk P w K mg base CX0 (k + 2) f fd ["feed", "many"] spDrw := by
  have GM : FnOk P w K mg base CX0 1 fM fdM ["cell", "at"] spMix := ok_mix FM
  refine F.ok scDrw (fun vs H Q E h => ?_) (fun cdv A outer s H vs Q E hr h => ?_)
  · obtain ⟨f, c, m, B, rfl, _⟩ := h
    rfl
  · obtain ⟨f, c, m, B, rfl, m0, m1, hF, hB, q⟩ := h
    have hr1 : Room 1 _ := hr.mono (by omega)
    refine ⟨_, Evl.pss_cut (ps_if (pt_cmpR op_lt (pe_ix ix_list (pv 0) pe_int (fun _ _ => rfl)) (pv 1) (nomark _))
        (pss_cons (ps_set (i := 2) scDrw.nd rfl (.inl rfl) (pe_ix ix_list (pv 0) pe_int (fun _ _ => rfl)))
        (pss_cons (ps_set (i := 3) scDrw.nd rfl (.inl rfl) (pe_op op_mul (pv 2) pe_int))
        (Evl.pss_cut (ps_if (pt_cmpR op_gt (pe_callB call_len_seq (by rfl) ml PySem.boot_len (pa_cons (pe_ix ix_list (pv 0) pe_int (fun _ _ => rfl)) pa_nil)) pe_int (nomark _))
            (pss_one (ps_set (i := 3) scDrw.nd rfl (.inl rfl) (pe_ix ix_list (pe_ix ix_list (pv 0) pe_int (fun _ _ => rfl)) (pe_op op_mod (pv 2) (pe_callB call_len_seq (by rfl) ml PySem.boot_len (pa_cons (pe_ix ix_list (pv 0) pe_int (fun _ _ => rfl)) pa_nil))) (fun _ _ => rfl)))) pss_nil)
        (pss_cons (ps_asg (pe_op op_add (pv 2) pe_int) (pg_sub (pv 0) pe_int set_list))
        (Evl.pss_cut (ps_asg (pv 3) (pg_sub (pv 0) pe_int set_list))
        (pss_one (ps_if (PW.pt (pw_or (pt_cmpR op_lt (pv 3) (pe_op op_pow pe_int pe_int) (nomark _)) (pw_or1 (pt_cmpR op_ge (pv 2) (pe_callB call_len_seq (by rfl) ml PySem.boot_len (pa_cons (pe_ix ix_list (pv 0) pe_int (fun _ _ => rfl)) pa_nil)) (nomark _)))))
          (pss_one (ps_asg (pe_call GM hr1 (by rfl) gM FM.kp bM .nil pass0 (pa_cons (pv 3) (pa_cons (pv 2) pa_nil))) (pg_sub (pv 0) pe_int set_list))) pss_nil)))))))
        pss_nil)
      (pss_cons (ps_set (i := 4) scDrw.nd rfl (.inl rfl) (pe_op op_mod (pe_ix ix_list (pv 0) pe_int (fun _ _ => rfl)) (pv 1)))
      (pss_cons (ps_asg (pe_op op_fdiv (pe_ix ix_list (pv 0) pe_int (fun _ _ => rfl)) (pv 1)) (pg_sub (pv 0) pe_int set_list))
      (pss_one (ps_ret (pv 4))))), ?_⟩
    obtain ⟨ns, n, r, h1, h2, h3, h4⟩ := hF
    have hcf : c ≠ f := feed_ne (a := .non) h1 h2
    have hS : SqL K H f [.ref c, .int n, .int r] := .of h1
    have hC : SqL K H c (ns.map V.int) := .of h2
    refine Evl.q_cut (M := fun σ' H' => ∃ (y2 y3 : Option V) (n' : Nat) (r' : Int), σ' = [some (.ref f), some (.int m), y2, y3, none] ∧ H' f = some (.lst [.ref c, .int n', .int r']) ∧ n' ≤ B + 1 ∧ But f H H') ?_ ?_
    · refine ⟨.ref f, rfl, f, _, 2, _, rfl, rfl, hS, rfl, .int m, rfl, _, _, rfl, rfl, _, rfl, ite2 (fun e => ?_) (fun e => ?_)⟩
      · refine ⟨.ref f, rfl, f, _, 1, _, rfl, rfl, hS, rfl, ?_⟩
        refine ⟨_, rfl, _, _, rfl, rfl, .inr ⟨by decide, by decide⟩, ?_⟩
        refine Evl.q_cut (M := fun σ' H' => ∃ (z : Int), σ' = [some (.ref f), some (.int m), some (.int n), some (.int z), none] ∧ H' = H) ?_ ?_
        · refine ⟨.ref f, rfl, f, _, 0, _, rfl, rfl, hS, rfl, c, _, rfl, .inl hC, _, _, rfl, rfl, _, rfl, ite2 (fun e => ?_) (fun e => ?_)⟩
          · have l0 : 0 < ns.length := by
              have z : (0 : Int) < ((ns.map V.int).length : Int) := of_decide_eq_true e
              rw [List.length_map] at z
              omega
            have l1 : n % ns.length < ns.length := Nat.mod_lt _ l0
            refine ⟨.ref f, rfl, f, _, 0, _, rfl, rfl, hS, rfl, _, rfl, .ref f, rfl, f, _, 0, _, rfl, rfl, hS, rfl, c, _, rfl, .inl hC, _, _, rfl, rfl, ?_, c, _, _, .int (ns[n % ns.length]), rfl, rfl, hC, ?_, ?_⟩
            · show (0 : Int) < ((ns.map V.int).length : Int)
              rw [List.length_map]
              omega
            · refine at_of (j := n % ns.length) ?_ ?_
              · rw [List.length_map]
                exact (Int.natCast_emod n ns.length).symm
              · rw [List.getElem?_map, List.getElem?_eq_getElem l1]
                rfl
            · exact ⟨_, rfl, rfl⟩
          · exact ⟨_, rfl, rfl⟩
        · rintro σ' H' ⟨z, rfl, rfl⟩
          refine ⟨_, rfl, _, _, rfl, rfl, _, rfl, f, _, 1, 1, rfl, rfl, h1, rfl, ?_⟩
          refine Evl.q_cut (M := fun σ' H2 => σ' = [some (.ref f), some (.int m), some (.int n), some (.int z), none] ∧ But f H' H2 ∧ H2 f = some (.lst [.ref c, .int ((n + 1 : Nat) : Int), .int z])) ?_ ?_
          · refine ⟨_, rfl, _, rfl, f, _, 2, 2, rfl, rfl, upd_same, rfl, rfl, fun b nb => ?_, upd_same⟩
            rw [upd_ne nb, upd_ne nb]
          rintro σ' H2 ⟨rfl, b2, f2⟩
          have hS2 : SqL K H2 f [.ref c, .int ((n + 1 : Nat) : Int), .int z] := .of f2
          have hC2 : SqL K H2 c (ns.map V.int) := .of ((b2 c hcf).trans h2)
          have mix : ∀ D : Ends, D.nx = (fun σ' H'' => ∃ (y2 y3 : Option V) (n' : Nat) (r' : Int), σ' = [some (.ref f), some (.int m), y2, y3, none] ∧ H'' f = some (.lst [.ref c, .int n', .int r']) ∧ n' ≤ B + 1 ∧ But f H' H'') →
              tAsg (tCall spMix [] E0 (tCons (tVar 3) (tCons (tVar 2) tNil))) (gSub (tVar 0) (tC (.int 2)) rSetL) D [some (.ref f), some (.int m), some (.int n), some (.int z), none] H2 := by
            intro D hD
            refine ⟨_, rfl, _, rfl, z, n, rfl, by omega, fun r2 => ?_⟩
            refine ⟨_, rfl, f, _, 2, 2, rfl, rfl, f2, rfl, ?_⟩
            rw [hD]
            exact ⟨_, _, n + 1, r2, rfl, upd_same, by omega, fun b nb => by rw [upd_ne nb]; exact b2 b nb⟩
          refine ⟨_, rfl, _, _, rfl, rfl, ⟨by decide, by decide, by decide⟩, _, _, rfl, rfl, _, rfl, ite2 (fun e => ?_) (fun e => ?_)⟩
          · exact iteT (mix _ rfl)
          · refine ⟨_, rfl, .ref f, rfl, f, _, 0, _, rfl, rfl, hS2, rfl, c, _, rfl, .inl hC2, _, _, rfl, rfl, _, rfl, ite2 (fun e => ?_) (fun e => ?_)⟩
            · exact mix _ rfl
            · exact ⟨_, _, n + 1, z, rfl, f2, by omega, b2⟩
      · exact ⟨none, none, n, r, rfl, h1, by omega, But.refl f H⟩
    · rintro σ' H' ⟨y2, y3, n', r', rfl, f1, ln, b1⟩
      have hS1 : SqL K H' f [.ref c, .int n', .int r'] := .of f1
      refine ⟨.ref f, rfl, f, _, 2, _, rfl, rfl, hS1, rfl, .int m, rfl, _, _, rfl, rfl, m0, ?_⟩
      refine ⟨.ref f, rfl, f, _, 2, _, rfl, rfl, hS1, rfl, .int m, rfl, _, _, rfl, rfl, ⟨m0, by omega⟩, .ref f, rfl, f, _, 2, 2, rfl, rfl, f1, rfl, ?_⟩
      refine ⟨_, rfl, q (r' % m) _ (Int.emod_nonneg _ (by omega)) (Int.emod_lt_of_pos _ m0) ⟨ns, n', r' / m, upd_same, ?_, h3, ln⟩ fun b nb => ?_⟩
      · rw [upd_ne hcf, b1 c hcf]
        exact h2
      · rw [upd_ne nb]
        exact b1 b nb
/-- sopen(script) -/
def spOpn (K : PySem.W.Frag) : Sp := fun vs H Q _ => ∃ (a : Addr) (ns : List Int), vs = [.ref a] ∧ SqL K H a (ns.map V.int) ∧ ∀ (f c : Addr) (H' : Hp), H f = none → H c = none → Same H H' → Feed H' f c 0 → Q (.ref f) H'
theorem cut60 (ns : List Int) : cutV (ns.map V.int) none (some 60) = (ns.take 60).map V.int := by
  unfold cutV
  rw [HT.sIx_none, show HT.sIx (ns.map V.int).length (ns.map V.int).length (some 60) = min 60 (ns.map V.int).length from HT.sIx_nat _ _ 60]
  rw [List.drop_zero, Nat.sub_zero, List.map_take, List.length_map]
  by_cases h : ns.length ≤ 60
  · rw [Nat.min_eq_right h, List.take_of_length_le (by rw [List.length_map]; exact Nat.le_refl _), List.take_of_length_le (by rw [List.length_map]; exact h)]
  · rw [Nat.min_eq_left (by omega)]
theorem same_upd {H : Hp} {p : Addr} {o : HO} (h : H p = none) : Same H (upd H p o) := fun b x e => by
  rw [upd_ne (ne_of_none e h)]
  exact e
theorem ok_opn {f : Addr} {fd : FuncData} {k : Nat} (F : Fun K "_law_sopen" "_law_sopen" sOpn f fd) (ml : mg "list" = none) : FnOk P w K mg base CX0 (k + 1) f fd ["script"] (spOpn K) := by
  refine F.ok scOpn (fun vs H Q E h => ?_) (fun cdv A outer s H vs Q E hr h => ?_)
  · obtain ⟨a, ns, rfl, _⟩ := h
    rfl
  · obtain ⟨a, ns, rfl, hS, q⟩ := h
    refine ⟨_, pss_one (ps_ret (pe_lst (pa_cons (pe_callTy call_list_of (by rfl) ml (by decide +kernel) (pa_cons (pe_slice sl_list (pv 0) po_none (po_some pe_int)) pa_nil)) (pa_cons pe_int (pa_cons pe_int pa_nil))))), ?_⟩
    refine ⟨.ref a, rfl, 60, rfl, a, _, rfl, hS, fun c nc => ?_⟩
    refine ⟨c, _, rfl, .inl (.of upd_same), fun d nd => ?_⟩
    refine ⟨by show 3 ≤ sizeLine; decide, fun p np => ?_⟩
    have s1 : Same H (upd H c (.lst (cutV (ns.map V.int) none (some 60)))) := same_upd nc
    have s2 := s1.trans (same_upd (o := .lst (cutV (ns.map V.int) none (some 60))) nd)
    have s3 := s2.trans (same_upd (o := .lst [.ref d, .int 0, .int 0]) np)
    refine q p d _ (s2.free np) (s1.free nd) s3 ⟨ns.take 60, 0, 0, upd_same, ?_, ?_, Nat.le_refl _⟩
    · have ndp : d ≠ p := ne_of_none (upd_same (H := upd H c (.lst (cutV (ns.map V.int) none (some 60)))) (a := d) (o := .lst (cutV (ns.map V.int) none (some 60)))) np
      rw [upd_ne ndp, upd_same, cut60]
    · rw [List.length_take]
      omega
end
end Dr
namespace Kp
open PySem PySem.Spec PyProof.Rows L2 GxR Nw Dr
/-! ### what a call leaves as it was: all but the feed (F) and the tables of code objects -/
structure Ke (F : Addr → Prop) (H H' : Hp) : Prop where
  keep : ∀ b o, H b = some o → (∀ ps, o ≠ .tbl ps) → ¬ F b → H' b = some o
  tabs : ∀ P, TabG H P → TabG H' P
  tups : ∀ b xs, H b = some (.tup xs) → H' b = some (.tup xs)
abbrev Nof : Addr → Prop := fun _ => False
variable {F G : Addr → Prop} {H H1 H2 H' : Hp} {f c P : Addr} {B : Nat}
theorem Ke.refl (F : Addr → Prop) (H : Hp) : Ke F H H := ⟨fun _ _ h _ _ => h, fun _ h => h, fun _ _ h => h⟩
theorem Ke.trans (a : Ke F H H1) (b : Ke F H1 H2) : Ke F H H2 := ⟨fun x o h n m => b.keep x o (a.keep x o h n m) n m, fun Q h => b.tabs Q (a.tabs Q h), fun x xs h => b.tups x xs (a.tups x xs h)⟩
theorem Ke.mono (a : Ke F H H1) (h : ∀ b, F b → G b) : Ke G H H1 := ⟨fun x o e n m => a.keep x o e n fun z => m (h x z), a.tabs, a.tups⟩
theorem Ke.all (a : Ke Nof H H1) : Ke F H H1 := a.mono fun _ z => z.elim
theorem Ke.same (s : Same H H1) : Ke F H H1 := ⟨fun b o e _ _ => s b o e, fun Q ⟨ps, h, t⟩ => ⟨ps, s _ _ h, t⟩, fun b xs e => s _ _ e⟩
theorem Ke.lst {a : Addr} {xs : List V} (k : Ke F H H1) (h : H a = some (.lst xs)) (n : ¬ F a) : H1 a = some (.lst xs) := k.keep a _ h (fun ps z => by cases z) n
theorem Ke.tabbed (t : TabG H P) (x : Tabbed P H H1) : Ke F H H1 := by
  obtain ⟨ps, hP, _⟩ := t
  have nP : ∀ b o, H b = some o → (∀ qs, o ≠ .tbl qs) → b ≠ P := fun b o e n z => by
    rw [z, hP] at e
    exact n ps (Option.some.inj e).symm
  refine ⟨fun b o e n _ => (x.2 b (nP b o e n)).trans e, fun Q hQ => ?_, fun b xs e => (x.2 b (nP b _ e fun qs z => by cases z)).trans e⟩
  by_cases hq : Q = P
  · rw [hq]
    exact x.1
  · obtain ⟨qs, h1, h2⟩ := hQ
    exact ⟨qs, (x.2 Q hq).trans h1, h2⟩
theorem Ke.but (h : Feed H f c B) (b : But f H H1) : Ke (· = f) H H1 := by
  obtain ⟨ns, n, r, h1, _⟩ := h
  refine ⟨fun x o e _ m => (b x m).trans e, fun Q ⟨qs, e, t⟩ => ⟨qs, (b Q fun z => ?_).trans e, t⟩, fun x xs e => (b x fun z => ?_).trans e⟩
  · rw [z, h1] at e
    cases e
  · rw [z, h1] at e
    cases e
/-- a write to an object of ours that was new behind H -/
theorem Ke.upd {p : Addr} {o : HO} (k : Ke F H H1) (n : H p = none) : Ke F H (upd H1 p o) := by
  refine ⟨fun b x e t m => ?_, fun Q hQ => ?_, fun b xs e => ?_⟩
  · rw [upd_ne (ne_of_none e n)]
    exact k.keep b x e t m
  · obtain ⟨ps, e, t⟩ := hQ
    obtain ⟨qs, e2, t2⟩ := k.tabs Q ⟨ps, e, t⟩
    exact ⟨qs, by rw [upd_ne (ne_of_none e n)]; exact e2, t2⟩
  · rw [upd_ne (ne_of_none e n)]
    exact k.tups b xs e
theorem Ke.feed (k : Ke Nof H H1) (h : Feed H f c B) : Feed H1 f c B := by
  obtain ⟨ns, n, r, h1, h2, h3, h4⟩ := h
  exact ⟨ns, n, r, k.lst h1 (fun z => z), k.lst h2 (fun z => z), h3, h4⟩
/-- p holds nothing that H knows (but a table, perhaps) -/
def Frs (H : Hp) (p : Addr) : Prop := ∀ b o, H b = some o → (∀ ps, o ≠ .tbl ps) → b ≠ p
theorem Frs.of {p : Addr} (h : H p = none) : Frs H p := fun b o e _ => ne_of_none e h
theorem Frs.ke {p : Addr} (k : Ke (· = f) H H1) (hF : Feed H1 f c B) (h : Frs H1 p) : Frs H p := fun b o e n => by
  by_cases hb : b = f
  · obtain ⟨_, _, _, h1, _⟩ := hF
    rw [hb]
    exact h f _ h1 fun ps z => by cases z
  · exact h b o (k.keep b o e n hb) n
theorem Frs.ke0 {p : Addr} (k : Ke Nof H H1) (h : Frs H1 p) : Frs H p := fun b o e n => h b o (k.keep b o e n fun z => z) n
theorem Ke.write {p : Addr} {xs : List V} {o : HO} (k : Ke F H H1) (fr : Frs H p) (h1 : H1 p = some (.lst xs)) : Ke F H (L2.upd H1 p o) := by
  refine ⟨fun b x e t m => ?_, fun Q hQ => ?_, fun b ys e => ?_⟩
  · rw [upd_ne (fr b x e t)]
    exact k.keep b x e t m
  · obtain ⟨qs, e2, t2⟩ := k.tabs Q hQ
    have n : Q ≠ p := fun z => by
      rw [z, h1] at e2
      cases e2
    exact ⟨qs, by rw [upd_ne n]; exact e2, t2⟩
  · rw [upd_ne (fr b _ e fun ps z => by cases z)]
    exact k.tups b ys e
/-- whole numbers in a tuple, truths in a tuple -/
def TupI (H : Hp) (v : V) (ns : List Int) : Prop := ∃ a, v = .ref a ∧ H a = some (.tup (ns.map V.int))
def TupB (H : Hp) (v : V) (bs : List Bool) : Prop := ∃ a, v = .ref a ∧ H a = some (.tup (bs.map V.bl))
def LstI (H : Hp) (v : V) (ns : List Int) : Prop := ∃ a, v = .ref a ∧ H a = some (.lst (ns.map V.int))
/-- a tuple of claims -/
def Bk (H : Hp) (v : V) (css : List (List Int)) : Prop := ∃ a vs, v = .ref a ∧ H a = some (.tup vs) ∧ vs.length = css.length ∧ ∀ (i : Nat) (x : V) (cs : List Int), vs[i]? = some x → css[i]? = some cs → TupI H x cs
theorem TupI.ke {v : V} {ns : List Int} (h : TupI H v ns) (k : Ke F H H1) : TupI H1 v ns := by
  obtain ⟨a, e, h⟩ := h
  exact ⟨a, e, k.tups _ _ h⟩
theorem TupB.ke {v : V} {ns : List Bool} (h : TupB H v ns) (k : Ke F H H1) : TupB H1 v ns := by
  obtain ⟨a, e, h⟩ := h
  exact ⟨a, e, k.tups _ _ h⟩
theorem Bk.ke {v : V} {css : List (List Int)} (h : Bk H v css) (k : Ke F H H1) : Bk H1 v css := by
  obtain ⟨a, vs, e, h, l, t⟩ := h
  exact ⟨a, vs, e, k.tups _ _ h, l, fun i x cs h1 h2 => (t i x cs h1 h2).ke k⟩
/-! ### claims -/
def rising : List Int → Bool
  | a :: b :: r => decide (a < b) && rising (b :: r)
  | _ => true
structure IsCl (cs : List Int) : Prop where
  up : cs.Pairwise (· < ·)
  says : ∀ k ∈ cs, k ≠ 0 ∧ -8 ≤ k ∧ k ≤ 8
  opp : ∀ k ∈ cs, -k ∉ cs
  len : cs.length ≤ 8
theorem IsCl.nil : IsCl [] := { up := .nil, says := fun _ h => (nomatch h), opp := fun _ h => (nomatch h), len := by decide }
end Kp
namespace Se
open PySem PySem.Spec PyProof.Rows L2 GxR Nw Dr Kp
/-- a def of the text whose code object stands at c -/
structure FunC (K : PySem.W.Frag) (x qual : Str) (st : Stmt) (f c : Addr) (fd : FuncData) : Prop where
  ex : ∃ (oc : Value) (od : Option Addr) (kV doc pm : Value) (an : Option Addr) (ct : Value) (osl : Array (Option Value)), fd = PySem.W.fnOf x qual (defArgs st) (defBody st) (defScope st) .none kV doc pm an (.ref c) ct ∧ K.lookup f = some ⟨oc, od, .func fd, osl⟩ ∧ PySem.W.codeIn K (.ref c) qual = true
  kp : PySem.W.keepIn K (.ref f) = true
section
variable {P : Program} {w : World} {K : PySem.W.Frag} {mg : Str → Option Value} {base : Heap}
theorem FunC.fn {x qual : Str} {st : Stmt} {f c : Addr} {fd : FuncData} (F : FunC K x qual st f c fd) : Fun K x qual st f fd := by
  obtain ⟨oc, od, kV, doc, pm, an, ct, osl, e, l, cd⟩ := F.ex
  exact ⟨⟨oc, od, kV, doc, pm, an, .ref c, ct, osl, e, l, cd⟩, F.kp⟩
theorem FunC.ok {x qual : Str} {st : Stmt} {f c : Addr} {fd : FuncData} {N ps : List Str} {k : Nat} {sp : Sp} (F : FunC K x qual st f c fd) (S : FnScope N ps (defScope st)) (len : ∀ vs H Q E, sp vs H Q E → vs.length = ps.length)
    (body : ∀ (A : Around) (outer : List Env) (s : Shared) (H : Hp) (vs : List V) (Q : VK) (E : XK), Room k (A.deeper (envOfC qual (defScope st) s.heap.objs.size f (.ref c))) → sp vs H Q E →
      ∃ t, PSs (cxOf CX0 P w K mg base N qual (defScope st) f (.ref c) A outer s H E).nox (defBody st) t ∧ t { nx := fun _ H' => Q .non H', rt := Q } (start N vs) H) : FnOk P w K mg base CX0 (k + 1) f fd ps sp := by
  obtain ⟨oc, od, kV, doc, pm, an, ct, osl, rfl, lk, hcd⟩ := F.ex
  refine fn_of lk hcd S len fun A outer s H vs Q E hr hsp => ?_
  obtain ⟨t, h, q⟩ := body A outer s H vs Q E hr hsp
  exact ⟨t, h.nox, q⟩
end
/-! ### settings -/
structure Zt (mg : Str → Option Value) : Prop where
  z_len : mg "len" = none
  z_abs : mg "abs" = none
  z_any : mg "any" = none
  z_all : mg "all" = none
  z_tuple : mg "tuple" = none
  z_range : mg "range" = none
/-- the say k holds -/
def sh (bs : List Bool) (k : Int) : Bool := bs.getD (k.natAbs - 1) false == decide (0 < k)
def Says (cs : List Int) : Prop := ∀ k ∈ cs, k ≠ 0 ∧ -8 ≤ k ∧ k ≤ 8
abbrev sShd : Stmt := topS 54
abbrev sHol : Stmt := topS 55
theorem scShd : FnScope ["say", "setting", "place", "so"] ["say", "setting"] (defScope sShd) := ⟨rfl, rfl, rfl, by decide +kernel, rfl, by decide +kernel, by decide +kernel⟩
abbrev nHol : List Str := ["claim", "setting", "say"]
theorem scHol : FnScope nHol ["claim", "setting"] (defScope sHol) := ⟨rfl, rfl, rfl, by decide +kernel, rfl, by decide +kernel, by decide +kernel⟩
section
variable {P : Program} {w : World} {K : PySem.W.Frag} {mg : Str → Option Value} {base : Heap}
def spShd : Sp := fun vs H Q _ => ∃ (k : Int) (u : V) (bs : List Bool), vs = [.int k, u] ∧ TupB H u bs ∧ bs.length = 8 ∧ k ≠ 0 ∧ -8 ≤ k ∧ k ≤ 8 ∧ Q (.bl (sh bs k)) H
theorem ok_shd {f : Addr} {fd : FuncData} {k : Nat} (F : Fun K "say_holds" "say_holds" sShd f fd) (T : Zt mg) : FnOk P w K mg base CX0 (k + 1) f fd ["say", "setting"] spShd := by
  refine F.ok scShd (fun vs H Q E h => ?_) (fun cdv A outer s H vs Q E hr h => ?_)
  · obtain ⟨k, u, bs, rfl, _⟩ := h
    rfl
  · obtain ⟨k, u, bs, rfl, ⟨a, rfl, ha⟩, l8, k0, k1, k2, q⟩ := h
    refine ⟨_, (pss_cons (ps_set (i := 2) scShd.nd rfl (.inl rfl) (pe_op op_sub (pe_callB call_abs (by rfl) T.z_abs (by decide +kernel) (pa_cons (pv 0) pa_nil)) pe_int))
      (pss_cons (ps_set (i := 3) scShd.nd rfl (.inl rfl) (pe_and (pe_chain op_le op_lt pe_int (pv 2) (pe_callB call_len_seq (by rfl) T.z_len (by decide +kernel) (pa_cons (pv 1) pa_nil))) (pe_one (pe_ix ix_tup (pv 1) (pv 2) (fun _ _ => rfl)))))
      (pss_one (ps_ret (pe_cmpR op_eq (pv 3) (pe_cmpR op_gt (pv 0) pe_int (nomark _)) (nomark _)))))), ?_⟩
    have e : (if k < 0 then -k else k) = (k.natAbs : Int) := by
      split <;> omega
    refine ⟨_, rfl, k, rfl, _, _, rfl, rfl, ?_⟩
    rw [e]
    have lt : k.natAbs - 1 < bs.length := by omega
    refine ⟨_, rfl, 0, _, rfl, rfl, true, congrArg V.bl (decide_eq_true (by omega)), _, rfl, a, _, rfl, .inr (.of ha), _, _, rfl, rfl, true, congrArg V.bl (decide_eq_true (by rw [List.length_map]; omega)), ?_⟩
    refine ⟨_, rfl, _, rfl, a, _, _, .bl bs[k.natAbs - 1], rfl, rfl, .of ha, at_of (j := k.natAbs - 1) (by omega) (by rw [List.getElem?_map, List.getElem?_eq_getElem lt]; rfl), ?_⟩
    refine ⟨_, rfl, _, rfl, _, _, rfl, rfl, rfl, ?_⟩
    have z : decide (V.bl bs[k.natAbs - 1] = V.bl (decide (0 < k))) = sh bs k := by
      unfold sh
      rw [List.getD_eq_getElem?_getD, List.getElem?_eq_getElem lt, Option.getD_some]
      cases bs[k.natAbs - 1] <;> cases decide (0 < k) <;> rfl
    rw [z]
    exact q
def spHol (P : Addr) : Sp := fun vs H Q _ => ∃ (v u : V) (cs : List Int) (bs : List Bool), vs = [v, u] ∧ TupI H v cs ∧ TupB H u bs ∧ bs.length = 8 ∧ Says cs ∧ TabG H P ∧ ∀ H', Ke Nof H H' → Q (.bl (cs.any (sh bs))) H'
theorem any_take {α : Type} {f : α → Bool} {l : List α} {i : Nat} {x : α} (h : l[i]? = some x) (p : (l.take i).any f = false) : (f x = true → l.any f = true) ∧ (f x = false → (l.take (i + 1)).any f = false) := by
  refine ⟨fun z => List.any_eq_true.mpr ⟨x, List.mem_of_getElem? h, z⟩, fun z => ?_⟩
  rw [List.take_add_one, h, List.any_append, p]
  show (f x || false) = false
  rw [z]
  rfl
theorem ok_hol {f c Pt fS : Addr} {fd fdS : FuncData} {k : Nat} (F : FunC K "holds" "holds" sHol f c fd) (T : Zt mg) (TB : TabB base mg c Pt) (FS : Fun K "say_holds" "say_holds" sShd fS fdS) (bS : Binds K fdS ["say", "setting"] []) (gS : mg "say_holds" = some (.ref fS)) (GS : FnOk P w K mg base CX0 1 fS fdS ["say", "setting"] spShd) :
    FnOk P w K mg base CX0 (k + 3) f fd ["claim", "setting"] (spHol Pt) := by
  refine F.ok scHol (fun vs H Q E h => ?_) (fun A outer s H vs Q E hr h => ?_)
  · obtain ⟨v, u, cs, bs, rfl, _⟩ := h
    rfl
  · obtain ⟨v, u, cs, bs, rfl, ⟨a, rfl, ha⟩, hb, l8, sy, tg, q⟩ := h
    have hr1 : Room (1 + 1) _ := hr.mono (by omega)
    refine ⟨_, (pss_one (ps_ret (Gx.pe_any hr (by rfl) T.z_any rfl scHol.nd TB rfl (pi_tup (pv 0)) (own := [("say", 2)]) (g := gName 2) (tt := tYes) (blkOk_by (N := nHol) (sc := defScope sHol) (by decide +kernel)) ⟨rfl, by decide +kernel, rfl⟩ (fun _ _ _ _ _ _ _ => pg_name (i := 2) scHol.nd rfl (.inl rfl)) (fun _ _ _ _ _ _ _ => pts_nil) (fun _ _ _ _ _ _ _ => pe_call GS (Gx.room_gen hr1) (by rfl) gS FS.kp bS .nil pass0 (pa_cons (pv 2) (pa_cons (pv 1) pa_nil)))))), ?_⟩
    refine ⟨_, rfl, a, rfl, ⟨_, .of ha⟩, tg, fun H1 tb => ?_⟩
    have k1 : Ke Nof H H1 := .tabbed tg tb
    refine Gx.aa_tup (xs := cs.map V.int) (Pv := fun i H' => Ke Nof H H' ∧ (cs.take i).any (sh bs) = false) ⟨k1, rfl⟩ (fun i H' _ p => .of (p.1.tups _ _ ha)) ?_ ?_
    · rintro i x H' hx ⟨k2, p⟩
      obtain ⟨z, hz, rfl⟩ : ∃ z, cs[i]? = some z ∧ x = V.int z := by
        rw [List.getElem?_map] at hx
        cases e : cs[i]? with
        | none =>
          rw [e] at hx
          cases hx
        | some z =>
          rw [e] at hx
          exact ⟨z, rfl, (Option.some.inj hx).symm⟩
      obtain ⟨s0, s1, s2⟩ := sy z (List.mem_of_getElem? hz)
      obtain ⟨t1, t2⟩ := any_take hz p
      refine ⟨rfl, _, rfl, _, rfl, z, u, bs, rfl, hb.ke k2, l8, s0, s1, s2, ?_⟩
      cases e : sh bs z with
      | true =>
        refine .inl ⟨rfl, ?_⟩
        have := q H' k2
        rw [t1 e] at this
        exact this
      | false => exact .inr ⟨rfl, k2, t2 e⟩
    · rintro H' ⟨k2, p⟩
      rw [List.length_map, List.take_length] at p
      have := q H' k2
      rw [p] at this
      exact this
/-- all claims of the book hold -/
def ah (bs : List Bool) (css : List (List Int)) : Bool := css.all fun cs => cs.any (sh bs)
theorem all_take {α : Type} {f : α → Bool} {l : List α} {i : Nat} {x : α} (h : l[i]? = some x) (p : (l.take i).all f = true) : (f x = false → l.all f = false) ∧ (f x = true → (l.take (i + 1)).all f = true) := by
  refine ⟨fun z => List.all_eq_false.mpr ⟨x, List.mem_of_getElem? h, by rw [z]; decide⟩, fun z => ?_⟩
  rw [List.take_add_one, h, List.all_append, p]
  show (f x && true) = true
  rw [z]
  rfl
abbrev sAhd : Stmt := topS 56
abbrev nAhd : List Str := ["book", "setting", "claim"]
theorem scAhd : FnScope nAhd ["book", "setting"] (defScope sAhd) := ⟨rfl, rfl, rfl, by decide +kernel, rfl, by decide +kernel, by decide +kernel⟩
def spAhd (Ph Pa : Addr) : Sp := fun vs H Q _ => ∃ (v u : V) (css : List (List Int)) (bs : List Bool), vs = [v, u] ∧ Bk H v css ∧ TupB H u bs ∧ bs.length = 8 ∧ (∀ cs ∈ css, Says cs) ∧ TabG H Ph ∧ TabG H Pa ∧ ∀ H', Ke Nof H H' → Q (.bl (ah bs css)) H'
theorem ok_ahd {f c Pa Ph fH : Addr} {fd fdH : FuncData} {k : Nat} (F : FunC K "all_hold" "all_hold" sAhd f c fd) (T : Zt mg) (TB : TabB base mg c Pa) (kpH : PySem.W.keepIn K (.ref fH) = true) (bH : Binds K fdH ["claim", "setting"] []) (gH : mg "holds" = some (.ref fH)) (GH : FnOk P w K mg base CX0 3 fH fdH ["claim", "setting"] (spHol Ph)) :
    FnOk P w K mg base CX0 (k + 5) f fd ["book", "setting"] (spAhd Ph Pa) := by
  refine F.ok scAhd (fun vs H Q E h => ?_) (fun A outer s H vs Q E hr h => ?_)
  · obtain ⟨v, u, css, bs, rfl, _⟩ := h
    rfl
  · obtain ⟨v, u, css, bs, rfl, ⟨a, vs, rfl, ha, lv, hv⟩, hb, l8, sy, tg, tga, q⟩ := h
    have hr1 : Room (3 + 1) _ := hr.mono (by omega)
    refine ⟨_, (pss_one (ps_ret (Gx.pe_all hr (by rfl) T.z_all rfl scAhd.nd TB rfl (pi_tup (pv 0)) (own := [("claim", 2)]) (g := gName 2) (tt := tYes) (blkOk_by (N := nAhd) (sc := defScope sAhd) (by decide +kernel)) ⟨rfl, by decide +kernel, rfl⟩ (fun _ _ _ _ _ _ _ => pg_name (i := 2) scAhd.nd rfl (.inl rfl)) (fun _ _ _ _ _ _ _ => pts_nil) (fun _ _ _ _ _ _ _ => pe_call GH (Gx.room_gen hr1) (by rfl) gH kpH bH .nil pass0 (pa_cons (pv 2) (pa_cons (pv 1) pa_nil)))))), ?_⟩
    refine ⟨_, rfl, a, rfl, ⟨_, .of ha⟩, tga, fun H1 tb => ?_⟩
    have k1 : Ke Nof H H1 := .tabbed tga tb
    refine Gx.aa_tup (xs := vs) (Pv := fun i H' => Ke Nof H H' ∧ (css.take i).all (fun cs => cs.any (sh bs)) = true) ⟨k1, rfl⟩ (fun i H' _ p => .of (p.1.tups _ _ ha)) ?_ ?_
    · rintro i x H' hx ⟨k2, p⟩
      have li : i < css.length := by
        have := (List.getElem?_eq_some_iff.mp hx).1
        omega
      have hz := List.getElem?_eq_getElem li
      obtain ⟨t1, t2⟩ := all_take hz p
      have ti := hv i x _ hx hz
      have sz := sy _ (List.mem_of_getElem? hz)
      generalize css[i] = cs at t1 t2 ti sz
      refine ⟨rfl, _, rfl, _, rfl, x, u, cs, bs, rfl, ti.ke k2, hb.ke k2, l8, sz, k2.tabs _ tg, fun H3 k3 => ?_⟩
      have k4 := k2.trans k3
      cases e : cs.any (sh bs) with
      | false =>
        refine .inl ⟨rfl, ?_⟩
        have := q H3 k4
        unfold ah at this
        rw [t1 e] at this
        exact this
      | true => exact .inr ⟨rfl, k4, t2 e⟩
    · rintro H' ⟨k2, p⟩
      rw [lv, List.take_length] at p
      have := q H' k2
      unfold ah at this
      rw [p] at this
      exact this
/-! ### all settings by their numbers -/
def bitB (n : Int) (p : Nat) : Bool := decide (V.int (Builtin.bitAnd (n / 2 ^ p) 1) = V.int 1)
def sbn (n : Int) : List Bool := (List.range 8).map (bitB n)
abbrev sSbn : Stmt := topS 57
abbrev nSbn : List Str := ["number", "place"]
theorem scSbn : FnScope nSbn ["number"] (defScope sSbn) := ⟨rfl, rfl, rfl, by decide +kernel, rfl, by decide +kernel, by decide +kernel⟩
def spSbn : Sp := fun vs H Q _ => ∃ n : Int, vs = [.int n] ∧ ∀ p H', Same H H' → H' p = some (.tup ((sbn n).map V.bl)) → Q (.ref p) H'
theorem ok_sbn {f : Addr} {fd : FuncData} {k : Nat} {tk : Tok} (F : Fun K "setting_by_number" "setting_by_number" sSbn f fd) (T : Zt mg) (M8 : mg "MOST_THINGS" = some (.int 8 tk)) : FnOk P w K mg base CX0 (k + 1) f fd ["number"] spSbn := by
  refine F.ok scSbn (fun vs H Q E h => ?_) (fun cdv A outer s H vs Q E hr h => ?_)
  · obtain ⟨n, rfl, _⟩ := h
    rfl
  · obtain ⟨n, rfl, q⟩ := h
    refine ⟨_, (pss_one (ps_ret (pe_callTy call_tuple_ofN (by rfl) T.z_tuple (by decide +kernel) (pa_cons (pe_lc (own := [("place", 1)]) (g := (gName 1)) (tt := tYes) rfl scSbn.nd (pi_range1 (by rfl) T.z_range (pa_cons (pe_glob (v := .int 8) rfl M8 ⟨_, rfl⟩) pa_nil)) (blkOk_by (N := nSbn) (sc := defScope sSbn) (by decide +kernel)) (fun _ _ _ _ _ => (pg_name (i := 1) scSbn.nd rfl (.inl rfl))) (fun _ _ _ _ _ => pts_nil) (fun _ _ _ _ _ => (pe_cmpR op_eq (pe_op op_and (pe_op op_shr (pv 0) (pv 1)) pe_int) pe_int (nomark _)))) pa_nil)))), ?_⟩
    refine ⟨8, rfl, by decide, by decide, fun D nD => ?_⟩
    refine lc_range (Pv := fun i H' => Same H H' ∧ H' D = some (.lst (((List.range i).map (bitB n)).map V.bl))) ⟨same_new nD, upd_same⟩ ?_ ?_
    · rintro i H' hi ⟨s1, hD⟩
      have hi : i < 8 := hi
      refine ⟨rfl, _, rfl, _, rfl, _, _, rfl, rfl, by show (0 : Int) ≤ 0 + (i : Int); omega, _, _, rfl, rfl, rfl, _, hD, by rw [List.length_map, List.length_map, List.length_range]; exact small1000 (by omega), fun b o e => ?_, ?_⟩
      · rw [upd_ne (ne_of_none e nD)]
        exact s1 _ _ e
      · rw [upd_same, List.range_succ, List.map_append, List.map_append]
        show _ = some (HO.lst (_ ++ [V.bl (bitB n i)]))
        unfold bitB
        rw [show (0 + (i : Int)).toNat = i by omega]
    · rintro H' ⟨s1, hD⟩
      refine ⟨D, _, rfl, .of hD, fun p H2 np s2 hp _ => q p H2 (s1.trans s2) hp⟩
theorem sbn_len (n : Int) : (sbn n).length = 8 := by
  unfold sbn
  rw [List.length_map, List.length_range]
theorem sbn_all (bs : List Bool) (h : bs.length = 8) : ∃ n : Nat, n < 256 ∧ sbn n = bs := by
  match bs, h with
  | [a, b, c, d, e, f, g, i], _ =>
    refine ⟨a.toNat + 2 * b.toNat + 4 * c.toNat + 8 * d.toNat + 16 * e.toNat + 32 * f.toNat + 64 * g.toNat + 128 * i.toNat, ?_, ?_⟩
    · cases a <;> cases b <;> cases c <;> cases d <;> cases e <;> cases f <;> cases g <;> cases i <;> decide
    · revert a b c d e f g i
      decide +kernel
abbrev sEve : Stmt := topS 58
theorem scEve : GScope ["number"] [] (defScope sEve) := ⟨rfl, rfl, rfl, by decide +kernel, rfl, by decide +kernel, by decide +kernel⟩
theorem ncEve (y : Str) : (defScope sEve).names.lookup y ≠ some .cell ∧ (defScope sEve).names.lookup y ≠ some .free := by
  have h : ∀ p ∈ (defScope sEve).names, p.2 ≠ .cell ∧ p.2 ≠ .free := by decide +kernel
  exact ⟨fun e => (h _ (PySem.mem_of_lookup e)).1 rfl, fun e => (h _ (PySem.mem_of_lookup e)).2 rfl⟩
/-- what every_setting hands out at the turn i -/
def YEve (i : Nat) (H : Hp) (x : V) (H' : Hp) : Prop := ∃ p, x = .ref p ∧ Same H H' ∧ H' p = some (.tup ((sbn (0 + (i : Nat))).map V.bl))
abbrev sFol : Stmt := topS 59
theorem scFol : FnScope ["book", "claim", "setting"] ["book", "claim"] (defScope sFol) := ⟨rfl, rfl, rfl, by decide +kernel, rfl, by decide +kernel, by decide +kernel⟩
/-- bs shows that the claim does not follow -/
def Ctr (css : List (List Int)) (cs : List Int) (bs : List Bool) : Prop := bs.length = 8 ∧ cs.any (sh bs) = false ∧ ah bs css = true
def spFol (Ph Pa : Addr) : Sp := fun vs H Q _ => ∃ (v u : V) (css : List (List Int)) (cs : List Int), vs = [v, u] ∧ Bk H v css ∧ TupI H u cs ∧ Says cs ∧ (∀ cs ∈ css, Says cs) ∧ TabG H Ph ∧ TabG H Pa ∧
  (∀ p H', Ke Nof H H' → H' p = some (.tup [.str "follows"]) → (∀ bs, ¬ Ctr css cs bs) → Q (.ref p) H') ∧
  ∀ p r H' bs, Ke Nof H H' → H' p = some (.tup [.str "not", .ref r]) → H' r = some (.tup (bs.map V.bl)) → Ctr css cs bs → Q (.ref p) H'
theorem ok_fol {f fE fB fH fA Ph Pa : Addr} {fd fdE fdB fdH fdA : FuncData} {k : Nat} {tk : Tok} (F : Fun K "follows" "follows" sFol f fd) (T : Zt mg) (M8 : mg "MOST_THINGS" = some (.int 8 tk))
    (FB : Fun K "setting_by_number" "setting_by_number" sSbn fB fdB) (bB : Binds K fdB ["number"] []) (gB : mg "setting_by_number" = some (.ref fB)) (GB : FnOk P w K mg base CX0 2 fB fdB ["number"] spSbn)
    (FE : Fun K "every_setting" "every_setting" sEve fE fdE) (bE : Binds K fdE [] []) (gE : mg "every_setting" = some (.ref fE))
    (FH : Fun K "holds" "holds" sHol fH fdH) (bH : Binds K fdH ["claim", "setting"] []) (gH : mg "holds" = some (.ref fH)) (GH : FnOk P w K mg base CX0 3 fH fdH ["claim", "setting"] (spHol Ph))
    (FA : Fun K "all_hold" "all_hold" sAhd fA fdA) (bA : Binds K fdA ["book", "setting"] []) (gA : mg "all_hold" = some (.ref fA)) (GA : FnOk P w K mg base CX0 5 fA fdA ["book", "setting"] (spAhd Ph Pa)) :
    FnOk P w K mg base CX0 (k + 6) f fd ["book", "claim"] (spFol Ph Pa) := by
  refine F.ok scFol (fun vs H Q E h => ?_) (fun cdv A outer s H vs Q E hr h => ?_)
  · obtain ⟨v, u, css, cs, rfl, _⟩ := h
    rfl
  · obtain ⟨v, u, css, cs, rfl, hbk, hcl, sy, sys, tg, tga, q1, q2⟩ := h
    have hr2 : Room 2 _ := hr.mono (by omega)
    have hr3 : Room 3 _ := hr.mono (by omega)
    have hr4 : Room 5 _ := hr.mono (by omega)
    have hr1 : Room 4 _ := hr.mono (by omega)
    have hrB : ∀ {env : Env}, Room 2 (Around.deeper (Around.in1 _) env) := fun {env} => hr1.in1.deeper env
    obtain ⟨ocE, odE, kVE, docE, pmE, anE, cdvE, ctE, oslE, rfl, lkE, cdE⟩ := FE.ex
    have kpE := FE.kp
    refine ⟨_, (pss_cons (Gt.ps_forG (N := ["number"]) (tot := 256) (Yl := YEve) lkE cdE kpE scEve bE (fun _ => rfl) ncEve (by decide)
      (fun L => ⟨fun _ _ => pg_name (i := 0) scEve.nd rfl (.inl rfl), fun _ _ => pe_call GB hrB (by rfl) gB FB.kp bB .nil pass0 (pa_cons (pv 0) pa_nil), fun i _ q _ h => ⟨_, rfl, _, rfl, fun p _ sm hp => h (.ref p) _ ⟨p, rfl, sm, hp⟩⟩, fun _ _ _ _ ⟨_, _, sm, _⟩ => sm, rfl, rfl⟩)
      (fun _ _ _ => pi_range1 (by rfl) T.z_range (pa_cons (pe_op op_shl pe_int (pe_glob (v := .int 8) rfl M8 ⟨_, rfl⟩)) pa_nil)) (fun _ _ _ h => ⟨_, _, rfl, rfl, ⟨by decide, by decide, by decide⟩, 256, rfl, by decide, by decide, h⟩) (fun _ _ => rfl)
      (by rfl) gE hr2 (fun _ _ h => h) (pg_name (i := 2) scFol.nd rfl (.inl rfl)) (pss_one (ps_if (PW.pt (pw_and (pt_not (pt_val (pe_call GH hr3 (by rfl) gH FH.kp bH .nil pass0 (pa_cons (pv 1) (pa_cons (pv 2) pa_nil))))) (pw_and1 (pt_val (pe_call GA hr4 (by rfl) gA FA.kp bA .nil pass0 (pa_cons (pv 0) (pa_cons (pv 2) pa_nil))))))) (pss_one (ps_ret (pe_tupN (pa_cons pe_str (pa_cons (pv 2) pa_nil))))) pss_nil)))
      (pss_one (ps_ret (pe_tupN (pa_cons pe_str pa_nil))))), ?_⟩
    refine ⟨fun i σ H' => ∃ y3, σ = [some v, some u, y3] ∧ Ke Nof H H' ∧ ∀ n : Nat, n < i → ¬ Ctr css cs (sbn n), ⟨none, rfl, .refl _ _, fun n h => absurd h (Nat.not_lt_zero n)⟩, ?_, ?_⟩
    · rintro i σ H1 hi ⟨y3, rfl, k1, no⟩ x H2 ⟨p, rfl, s2, hp⟩
      rw [show (0 : Int) + (i : Int) = (i : Int) by omega] at hp
      have k2 : Ke Nof H H2 := k1.trans (.same s2)
      have l8 := sbn_len (i : Int)
      generalize hbs : sbn (i : Int) = bs at hp l8
      refine ⟨_, rfl, _, rfl, u, .ref p, cs, bs, rfl, hcl.ke k2, ⟨p, rfl, hp⟩, l8, sy, k2.tabs _ tg, fun H3 k3 => ⟨_, rfl, ?_⟩⟩
      have k4 := k2.trans k3
      have more : ¬ Ctr css cs bs → ∀ n : Nat, n < i + 1 → ¬ Ctr css cs (sbn n) := fun nc n hn => by
        by_cases e : n = i
        · rw [e, hbs]
          exact nc
        · exact no n (by omega)
      cases ea : cs.any (sh bs) with
      | true => exact ⟨_, rfl, k4, more fun z => by rw [z.2.1] at ea; cases ea⟩
      | false =>
        refine ⟨_, rfl, _, rfl, v, .ref p, css, bs, rfl, hbk.ke k4, ⟨p, rfl, k3.tups _ _ hp⟩, l8, sys, k4.tabs _ tg, k4.tabs _ tga, fun H5 k5 => ⟨_, rfl, ?_⟩⟩
        have k6 := k4.trans k5
        cases eb : ah bs css with
        | false => exact ⟨_, rfl, k6, more fun z => by rw [z.2.2] at eb; cases eb⟩
        | true =>
          refine ⟨_, rfl, by show 2 ≤ sizeLine; decide, fun r H7 nr s7 hr7 _ => ?_⟩
          exact q2 r p H7 bs (k6.trans (.same s7)) hr7 (s7 _ _ (k5.tups _ _ (k3.tups _ _ hp))) ⟨l8, ea, eb⟩
    · rintro σ H1 ⟨y3, rfl, k1, no⟩
      refine ⟨by show 1 ≤ sizeLine; decide, fun r H2 nr s2 hr2 _ => q1 r H2 (k1.trans (.same s2)) hr2 fun bs hc => ?_⟩
      obtain ⟨n, hn, e⟩ := sbn_all bs hc.1
      exact no n hn (by rw [e]; exact hc)
end
end Se
namespace Nw
open PySem PySem.Spec PyProof.Rows L2
theorem prg_cl {X : Cx} {e : Expr} {te : L2.St → Hp → (Int → Int → Hp → Prop) → Prop} (he : PRg X e te) : PRg X e (fun σ H Q => ∃ R : Int → Int → Hp → Prop, (∀ a b H1, R a b H1 → Q a b H1) ∧ te σ H R) := by
  intro pins s σ H Q I ⟨R, i, q⟩
  refine thn (he pins s σ H R I q) fun x s1 ⟨r, a, b, t, u, v, H1, ex, hr, I1, z⟩ => ⟨r, a, b, t, u, v, H1, ex, hr, I1, i a b H1 z⟩
theorem pe_listRgN {X : Cx} {e : Expr} {te : L2.St → Hp → (Int → Int → Hp → Prop) → Prop} {p pos : Pos} (hc : X.calm = true) (hg : Gl X "list") (hm : X.mg "list" = none) (he : PRg X e te) (na : starEach [e] X.env = (false, eval e X.env) :: starEach [] X.env := by rfl) :
    PE X (.Call (.Name "list" p) [e] [] pos) (fun σ H Q => te σ H fun a b H1 => RgOk a b ∧ New H1 (.lst (rgV a b)) Q) :=
  pe_weak (pe_listRg hc hg hm (prg_cl he) na) fun _ _ _ q => ⟨_, fun _ _ _ z => ⟨z.1, z.2.to⟩, q⟩
end Nw
namespace Sl
open PySem PySem.Spec PyProof.Rows L2
theorem filter_take {α : Type} {f : α → Bool} {l : List α} {i : Nat} {x : α} (h : l[i]? = some x) : (l.take (i + 1)).filter f = (l.take i).filter f ++ (if f x = true then [x] else []) := by
  rw [List.take_add_one, h, List.filter_append]
  congr 1
  show List.filter f [x] = _
  cases e : f x with
  | true => rw [List.filter_cons_of_pos e]; rfl
  | false => rw [List.filter_cons_of_neg (by rw [e]; decide)]; rfl
theorem filter_all {α : Type} (f : α → Bool) (l : List α) : decide (V.int ((l.filter (fun x => !f x)).length : Int) = V.int 0) = l.all f := by
  cases e : l.all f with
  | true =>
    have z : l.filter (fun x => !f x) = [] := List.filter_eq_nil_iff.mpr fun x hx h => by
      have := List.all_eq_true.mp e x hx
      rw [this] at h
      cases h
    rw [z]
    rfl
  | false =>
    obtain ⟨x, hx, h⟩ := List.all_eq_false.mp e
    have := List.length_pos_of_mem (List.mem_filter (p := fun x => !f x).mpr ⟨hx, (by cases g : f x with | true => exact absurd g h | false => rfl : (!f x) = true)⟩)
    exact decide_eq_false fun z => by
      have := V.int.inj z
      omega
end Sl
namespace Cl
open PySem PySem.Spec PyProof.Rows L2 GxR Nw Dr Kp
abbrev sThg : Stmt := topS 71
abbrev sClm : Stmt := topS 72
abbrev sBok : Stmt := topS 73
theorem scThg : FnScope ["feed", "least", "most", "left", "many", "some", "turn"] ["feed", "least", "most"] (defScope sThg) := ⟨rfl, rfl, rfl, by decide +kernel, rfl, by decide +kernel, by decide +kernel⟩
theorem scClm : FnScope ["feed", "things", "most", "left", "says", "turn", "thing"] ["feed", "things", "most"] (defScope sClm) := ⟨rfl, rfl, rfl, by decide +kernel, rfl, by decide +kernel, by decide +kernel⟩
theorem scBok : FnScope ["feed", "things", "most", "claims", "turn", "claim"] ["feed", "things", "most"] (defScope sBok) := ⟨rfl, rfl, rfl, by decide +kernel, rfl, by decide +kernel, by decide +kernel⟩
/-- the built-ins that stand as they stood -/
structure Zs (mg : Str → Option Value) : Prop where
  z_len : mg "len" = none
  z_list : mg "list" = none
  z_range : mg "range" = none
  z_min : mg "min" = none
  z_tuple : mg "tuple" = none
  z_sorted : mg "sorted" = none
/-- things: numbers from 1 to 8, none twice -/
structure Thg (ks : List Int) : Prop where
  nd : ks.Nodup
  one : ∀ k ∈ ks, 1 ≤ k ∧ k ≤ 8
  len : ks.length ≤ 8
theorem perm_pop : ∀ {l : List Int} {d : Nat} {y : Int}, l[d]? = some y → (y :: l.eraseIdx d).Perm l
  | [], _, _, h => by simp at h
  | a :: r, 0, y, h => by
    have e : a = y := Option.some.inj h
    subst e
    exact .refl _
  | a :: r, d + 1, y, h => by
    have ih := perm_pop (l := r) (d := d) (y := y) h
    exact (List.Perm.swap a y _).trans (.cons a ih)
theorem erase_len {l : List Int} {d : Nat} (h : d < l.length) : (l.eraseIdx d).length = l.length - 1 := List.length_eraseIdx_of_lt h
theorem erase_map : ∀ (l : List Int) (d : Nat), (l.map V.int).eraseIdx d = (l.eraseIdx d).map V.int
  | [], _ => rfl
  | _ :: _, 0 => rfl
  | a :: r, d + 1 => congrArg (V.int a :: ·) (erase_map r d)
theorem ix_seq {d : Int} {n : Nat} (h0 : 0 ≤ d) (h1 : d < (n : Int)) : seqIndex? d n = some d.toNat := by
  have e : ixN n d = some d.toNat := by
    unfold ixN
    rw [if_pos h0, if_pos h1]
  exact (ixN_seq e).1
section
variable {P : Program} {w : World} {K : PySem.W.Frag} {mg : Str → Option Value} {base : Heap} {fD fM : Addr} {fdD fdM : FuncData}
def spThg : Sp := fun vs H Q _ => ∃ (f c : Addr) (l m : Int) (B : Nat), vs = [.ref f, .int l, .int m] ∧ 1 ≤ l ∧ l ≤ m ∧ m ≤ 8 ∧ Feed H f c B ∧ B ≤ 2 ^ 58 ∧
  ∀ (ks : List Int) (p : Addr) (H' : Hp), Feed H' f c (B + 10) → Ke (· = f) H H' → Frs H p → H' p = some (.lst (ks.map V.int)) → Thg ks → l ≤ ks.length → (ks.length : Int) ≤ m → Q (.ref p) H'
theorem ok_thg {f : Addr} {fd : FuncData} {k : Nat} (F : Fun K "_law_sthings" "_law_sthings" sThg f fd) (T : Zs mg) (FD : Fun K "_law_sdraw" "_law_sdraw" sDrw fD fdD) (bD : Binds K fdD ["feed", "many"] []) (gD : mg "_law_sdraw" = some (.ref fD)) (GD : FnOk P w K mg base CX0 2 fD fdD ["feed", "many"] spDrw) :
    FnOk P w K mg base CX0 (k + 3) f fd ["feed", "least", "most"] spThg := by
  refine F.ok scThg (fun vs H Q E h => ?_) (fun cdv A outer s H vs Q E hr h => ?_)
  · obtain ⟨f, c, l, m, B, rfl, _⟩ := h
    rfl
  · obtain ⟨f, c, l, m, B, rfl, l0, lm, m8, hF, hB, q⟩ := h
    have hr2 : Room 2 _ := hr.mono (by omega)
    refine ⟨_, (pss_cons (ps_set (i := 3) scThg.nd rfl (.inl rfl) (pe_lstN (pa_cons pe_int (pa_cons pe_int (pa_cons pe_int (pa_cons pe_int (pa_cons pe_int (pa_cons pe_int (pa_cons pe_int (pa_cons pe_int pa_nil))))))))))
      (Evl.pss_cut (ps_set (i := 4) scThg.nd rfl (.inl rfl) (pe_op op_add (pv 1) (pe_call GD hr2 (by rfl) gD FD.kp bD .nil pass0 (pa_cons (pv 0) (pa_cons (pe_op op_sub (pe_op op_add (pv 2) pe_int) (pv 1)) pa_nil)))))
      (pss_cons (ps_set (i := 5) scThg.nd rfl (.inl rfl) (pe_lstN pa_nil))
      (pss_cons (ps_for PassesOwn.never rfl (pi_range1 (by rfl) T.z_range (pa_cons (pv 4) pa_nil)) (pg_name (i := 6) scThg.nd rfl (.inl rfl)) (pss_one (ps_expr (pe_bm PySem.F.plainAttrs_list PySem.F.slot_list_append PySem.F.type_list_append mt_append (pv 5) (pa_cons (pe_bm PySem.F.plainAttrs_list PySem.F.slot_list_pop PySem.F.type_list_pop mt_popAt (pv 3) (pa_cons (pe_call GD hr2 (by rfl) gD FD.kp bD .nil pass0 (pa_cons (pv 0) (pa_cons (pe_callB call_len_seq (by rfl) T.z_len (by decide +kernel) (pa_cons (pv 3) pa_nil)) pa_nil))) pa_nil)) pa_nil)))))
      (pss_one (ps_ret (pv 5))))))), ?_⟩
    refine ⟨by show 8 ≤ sizeLine; decide, fun L H1 nL s1 hL _ => ?_⟩
    have nLf : L ≠ f := hF.nf nL
    have nLc : L ≠ c := hF.nc nL
    refine Evl.q_cut (M := fun σ' H' => ∃ n : Nat, σ' = [some (.ref f), some (.int l), some (.int m), some (.ref L), some (.int n), none, none] ∧ l ≤ n ∧ (n : Int) ≤ m ∧ Feed H' f c (B + 1) ∧ Ke (· = f) H H' ∧ H' L = some (.lst (([1, 2, 3, 4, 5, 6, 7, 8] : List Int).map V.int))) ?_ ?_
    · have F1 : Feed H1 f c B := hF.same s1
      refine ⟨_, rfl, _, rfl, _, rfl, _, _, rfl, rfl, _, rfl, _, _, rfl, rfl, f, c, _, B, rfl, by omega, by omega, F1, by omega, fun d H2 d0 d1 F2 b2 => ?_⟩
      refine ⟨_, _, rfl, rfl, (l + d).toNat, ?_, by omega, by omega, F2, (Ke.same s1).trans (.but F1 b2), (b2 L nLf).trans hL⟩
      rw [Int.toNat_of_nonneg (by omega)]
      rfl
    rintro σ' H2 ⟨n, rfl, ln, nm, F2, k2, hL2⟩
    refine ⟨Nat.zero_le _, fun S H3 nS s3 hS _ => ?_⟩
    have nSL : S ≠ L := Ne.symm (ne_of_none hL2 nS)
    have nSf : S ≠ f := F2.nf nS
    have nSc : S ≠ c := F2.nc nS
    have frS : Frs H S := .ke k2 F2 (.of nS)
    have frL : Frs H L := .of nL
    refine ⟨_, rfl, n, rfl, by omega, by omega, for_range (Pv := fun i σ H' => ∃ (y6 : Option V) (left ks : List Int), σ = [some (.ref f), some (.int l), some (.int m), some (.ref L), some (.int n), some (.ref S), y6] ∧ Feed H' f c (B + 1 + i) ∧ Ke (· = f) H H' ∧ H' L = some (.lst (left.map V.int)) ∧ H' S = some (.lst (ks.map V.int)) ∧
      left.length = 8 - i ∧ ks.length = i ∧ (ks ++ left).Perm [1, 2, 3, 4, 5, 6, 7, 8]) ?_ ?_ ?_⟩
    · exact ⟨none, _, [], rfl, F2.same s3, k2.trans (.same s3), s3 _ _ hL2, hS, rfl, rfl, .refl _⟩
    · rintro i σ H' hi ⟨y6, left, ks, rfl, F4, k4, hL4, hS4, ll, lk, pm⟩
      have hi : i < n := by simpa using hi
      refine ⟨_, rfl, .inl ⟨rfl, _, .of hS4⟩, _, rfl, .inl ⟨rfl, _, .of hL4⟩, _, rfl, _, rfl, L, _, rfl, .inl (.of hL4), f, c, _, B + 1 + i, rfl, ?_, ?_, F4, by omega, fun d H5 d0 d1 F5 b5 => ?_⟩
      · rw [List.length_map]
        omega
      · rw [List.length_map]
        omega
      rw [List.length_map] at d1
      have dl : d.toNat < left.length := by omega
      have hL5 : H5 L = some (.lst (left.map V.int)) := (b5 L nLf).trans hL4
      have hS5 : H5 S = some (.lst (ks.map V.int)) := (b5 S nSf).trans hS4
      have k5 : Ke (· = f) H H5 := k4.trans (.but F4 b5)
      refine ⟨L, _, d, d.toNat, .int left[d.toNat], rfl, rfl, hL5, by omega, by omega, by rw [List.length_map]; exact ix_seq d0 d1, by rw [List.getElem?_map, List.getElem?_eq_getElem dl]; rfl, ?_⟩
      refine ⟨S, _, _, rfl, rfl, by rw [upd_ne nSL]; exact hS5, by rw [List.length_map]; exact small1000 (by omega), ?_⟩
      refine ⟨_, left.eraseIdx d.toNat, ks ++ [left[d.toNat]], rfl, ((F5.upd nLf nLc).upd nSf nSc).mono (by omega), (k5.write frL hL5).write frS (by rw [upd_ne nSL]; exact hS5), ?_, ?_, ?_, ?_, ?_⟩
      · rw [upd_ne (Ne.symm nSL), upd_same, erase_map]
      · rw [upd_same, List.map_append]
        rfl
      · rw [erase_len dl]
        omega
      · rw [List.length_append, lk]
        rfl
      · refine List.Perm.trans ?_ pm
        rw [List.append_assoc]
        exact (List.Perm.refl ks).append (perm_pop (List.getElem?_eq_getElem dl))
    · rintro σ H' ⟨y6, left, ks, rfl, F4, k4, hL4, hS4, ll, lk, pm⟩
      have lk' : ks.length = n := by simpa using lk
      have nd : (ks ++ left).Nodup := pm.nodup_iff.mpr (by decide)
      refine ⟨_, rfl, q ks S H' (F4.mono (by omega)) k4 frS hS4 ⟨(List.nodup_append.mp nd).1, fun k hk => ?_, by omega⟩ (by omega) (by omega)⟩
      have hm : k ∈ ([1, 2, 3, 4, 5, 6, 7, 8] : List Int) := pm.mem_iff.mp (List.mem_append_left _ hk)
      simp only [List.mem_cons, List.not_mem_nil, or_false] at hm
      omega
/-- sclaim(feed, things, most) -/
def spClm : Sp := fun vs H Q _ => ∃ (f c t : Addr) (m : Int) (B : Nat) (ks : List Int), vs = [.ref f, .ref t, .int m] ∧ 0 ≤ m ∧ m ≤ 8 ∧ H t = some (.lst (ks.map V.int)) ∧ Thg ks ∧ Feed H f c B ∧ B ≤ 2 ^ 58 ∧
  ∀ (cs : List Int) (p : Addr) (H' : Hp), Feed H' f c (B + 20) → Ke (· = f) H H' → Frs H p → H' p = some (.tup (cs.map V.int)) → IsCl cs → (∀ s ∈ cs, (s.natAbs : Int) ∈ ks) → (cs.length : Int) ≤ m → Q (.ref p) H'
theorem abs_nd : ∀ {l : List Int}, (l.map fun s => (s.natAbs : Int)).Nodup → l.Nodup ∧ ∀ k ∈ l, k ≠ 0 → -k ∉ l := fun {l} h => by
  refine ⟨(List.pairwise_map.mp h).imp (fun {a b} z e => z (by rw [e])), fun k hk h0 hn => ?_⟩
  have inj : ∀ a ∈ l, ∀ b ∈ l, (a.natAbs : Int) = b.natAbs → a = b := fun a ha b hb e => by
    obtain ⟨i, hi, ei⟩ := List.getElem_of_mem ha
    obtain ⟨j, hj, ej⟩ := List.getElem_of_mem hb
    have hij : (l.map fun s => (s.natAbs : Int))[i]'(by rw [List.length_map]; exact hi) = (l.map fun s => (s.natAbs : Int))[j]'(by rw [List.length_map]; exact hj) := by
      rw [List.getElem_map, List.getElem_map, ei, ej]
      exact e
    have := (List.getElem_inj h).mp hij
    subst this
    rw [← ei, ← ej]
  have := inj k hk (-k) hn (by omega)
  omega
theorem cl_of {says left ks ns : List Int} (T : Thg ks) (pm : ((says.map fun s => (s.natAbs : Int)) ++ left).Perm ks) (pn : ns.Perm says) (so : ns.Pairwise (· ≤ ·)) : IsCl ns ∧ ∀ s ∈ ns, (s.natAbs : Int) ∈ ks := by
  have nd := (List.nodup_append.mp (pm.nodup_iff.mpr T.nd)).1
  obtain ⟨n1, n2⟩ := abs_nd nd
  have mem : ∀ s ∈ ns, (s.natAbs : Int) ∈ ks := fun s hs => pm.mem_iff.mp (List.mem_append_left _ (List.mem_map.mpr ⟨s, pn.mem_iff.mp hs, rfl⟩))
  have nn : ns.Nodup := pn.nodup_iff.mpr n1
  have bd : ∀ s ∈ ns, s ≠ 0 ∧ -8 ≤ s ∧ s ≤ 8 := fun s hs => by
    have := T.one _ (mem s hs)
    omega
  refine ⟨⟨?_, bd, fun k hk hn => n2 k (pn.mem_iff.mp hk) (bd k hk).1 (pn.mem_iff.mp hn), ?_⟩, mem⟩
  · have := List.Pairwise.and so nn
    exact this.imp fun {a b} h => by
      obtain ⟨h1, h2⟩ := h
      omega
  · have l1 := pn.length_eq
    have l2 := pm.length_eq
    rw [List.length_append, List.length_map] at l2
    have := T.len
    omega
theorem ok_clm {f : Addr} {fd : FuncData} {k : Nat} (F : Fun K "_law_sclaim" "_law_sclaim" sClm f fd) (T : Zs mg) (FD : Fun K "_law_sdraw" "_law_sdraw" sDrw fD fdD) (bD : Binds K fdD ["feed", "many"] []) (gD : mg "_law_sdraw" = some (.ref fD)) (GD : FnOk P w K mg base CX0 2 fD fdD ["feed", "many"] spDrw) :
    FnOk P w K mg base CX0 (k + 3) f fd ["feed", "things", "most"] spClm := by
  refine F.ok scClm (fun vs H Q E h => ?_) (fun cdv A outer s H vs Q E hr h => ?_)
  · obtain ⟨f, c, t, m, B, ks, rfl, _⟩ := h
    rfl
  · obtain ⟨f, c, t, m, B, ks, rfl, m0, m8, ht, Tk, hF, hB, q⟩ := h
    have hr2 : Room 2 _ := hr.mono (by omega)
    refine ⟨_, (Evl.pss_cut (ps_set (i := 3) scClm.nd rfl (.inl rfl) (pe_callTy call_list_ofN (by rfl) T.z_list (by decide +kernel) (pa_cons (pv 1) pa_nil)))
      (pss_cons (ps_set (i := 4) scClm.nd rfl (.inl rfl) (pe_lstN pa_nil))
      (Evl.pss_cut (ps_for PassesOwn.never rfl (pi_range1 (by rfl) T.z_range (pa_cons (pe_callB (call_min2 rfl) (by rfl) T.z_min (by decide +kernel) (pa_cons (pe_callB call_len_seq (by rfl) T.z_len (by decide +kernel) (pa_cons (pv 3) pa_nil)) (pa_cons (pe_call GD hr2 (by rfl) gD FD.kp bD .nil pass0 (pa_cons (pv 0) (pa_cons (pe_op op_add (pv 2) pe_int) pa_nil))) pa_nil))) pa_nil)) (pg_name (i := 5) scClm.nd rfl (.inl rfl)) (pss_cons (ps_set (i := 6) scClm.nd rfl (.inl rfl) (pe_bm PySem.F.plainAttrs_list PySem.F.slot_list_pop PySem.F.type_list_pop mt_popAt (pv 3) (pa_cons (pe_call GD hr2 (by rfl) gD FD.kp bD .nil pass0 (pa_cons (pv 0) (pa_cons (pe_callB call_len_seq (by rfl) T.z_len (by decide +kernel) (pa_cons (pv 3) pa_nil)) pa_nil))) pa_nil)))
      (pss_one (ps_expr (pe_bm PySem.F.plainAttrs_list PySem.F.slot_list_append PySem.F.type_list_append mt_append (pv 4) (pa_cons (pe_ix ix_list (pe_lstN (pa_cons (pv 6) (pa_cons (pe_op op_sub pe_int (pv 6)) pa_nil))) (pe_call GD hr2 (by rfl) gD FD.kp bD .nil pass0 (pa_cons (pv 0) (pa_cons pe_int pa_nil))) (fun _ _ => rfl)) pa_nil))))))
      (pss_one (ps_ret (pe_callTy call_tuple_ofN (by rfl) T.z_tuple (by decide +kernel) (pa_cons (pe_callB cr_sortedN (by rfl) T.z_sorted (by decide +kernel) (pa_cons (pv 4) pa_nil)) pa_nil))))))), ?_⟩
    -- left
    refine Evl.q_cut (M := fun σ' H' => ∃ L, σ' = [some (.ref f), some (.ref t), some (.int m), some (.ref L), none, none, none] ∧ H L = none ∧ Same H H' ∧ H' L = some (.lst (ks.map V.int))) ?_ ?_
    · exact ⟨_, rfl, t, _, rfl, .inl (.of ht), fun L H1 nL s1 hL _ => ⟨L, rfl, nL, s1, hL⟩⟩
    rintro σ' H1 ⟨L, rfl, nL, s1, hL⟩
    refine ⟨Nat.zero_le _, fun S H2 nS s2 hS _ => ?_⟩
    have F2 : Feed H2 f c B := hF.same (s1.trans s2)
    have nLf : L ≠ f := hF.nf nL
    have nLc : L ≠ c := hF.nc nL
    have nSL : S ≠ L := Ne.symm (ne_of_none hL nS)
    have nSf : S ≠ f := (hF.same s1).nf nS
    have nSc : S ≠ c := (hF.same s1).nc nS
    have frL : Frs H L := .of nL
    have frS : Frs H S := .of (s1.free nS)
    have hL2 : H2 L = some (.lst (ks.map V.int)) := s2 _ _ hL
    -- the loop
    refine Evl.q_cut (M := fun σ' H' => ∃ (y5 y6 : Option V) (left says : List Int), σ' = [some (.ref f), some (.ref t), some (.int m), some (.ref L), some (.ref S), y5, y6] ∧ Feed H' f c (B + 20) ∧ Ke (· = f) H H' ∧ H' S = some (.lst (says.map V.int)) ∧ (says.length : Int) ≤ m ∧ ((says.map fun s => (s.natAbs : Int)) ++ left).Perm ks) ?_ ?_
    · refine ⟨_, rfl, L, _, rfl, .inl (.of hL2), _, rfl, _, rfl, _, _, rfl, rfl, f, c, _, B, rfl, by omega, by omega, F2, by omega, fun d H3 d0 d1 F3 b3 => ?_⟩
      refine ⟨_, _, rfl, ?_⟩
      generalize hn : (if d < ((ks.map V.int).length : Int) then d else ((ks.map V.int).length : Int)) = n
      have n0 : 0 ≤ n ∧ n ≤ m ∧ n ≤ ks.length := by
        rw [List.length_map] at hn
        split at hn <;> omega
      have tl := Tk.len
      have hL3 : H3 L = some (.lst (ks.map V.int)) := (b3 L nLf).trans hL2
      have hS3 : H3 S = some (.lst (([] : List Int).map V.int)) := (b3 S nSf).trans hS
      have k3 : Ke (· = f) H H3 := (Ke.same (s1.trans s2)).trans (.but F2 b3)
      refine ⟨n, rfl, by omega, by omega, for_range (Pv := fun i σ H' => ∃ (y5 y6 : Option V) (left says : List Int), σ = [some (.ref f), some (.ref t), some (.int m), some (.ref L), some (.ref S), y5, y6] ∧ Feed H' f c (B + 1 + 2 * i) ∧ Ke (· = f) H H' ∧ H' L = some (.lst (left.map V.int)) ∧ H' S = some (.lst (says.map V.int)) ∧
        left.length = ks.length - i ∧ says.length = i ∧ ((says.map fun s => (s.natAbs : Int)) ++ left).Perm ks) ?_ ?_ ?_⟩
      · exact ⟨none, none, ks, [], rfl, F3, k3, hL3, hS3, rfl, rfl, .refl _⟩
      · rintro i σ H' hi ⟨y5, y6, left, says, rfl, F4, k4, hL4, hS4, ll, ls, pm⟩
        have hi : i < n.toNat := hi
        refine ⟨_, rfl, .inl ⟨rfl, _, .of hL4⟩, _, rfl, _, rfl, L, _, rfl, .inl (.of hL4), f, c, _, B + 1 + 2 * i, rfl, ?_, ?_, F4, by omega, fun d H5 d0 d1 F5 b5 => ?_⟩
        · rw [List.length_map]
          omega
        · rw [List.length_map]
          omega
        rw [List.length_map] at d1
        have dl : d.toNat < left.length := by omega
        have hL5 : H5 L = some (.lst (left.map V.int)) := (b5 L nLf).trans hL4
        have hS5 : H5 S = some (.lst (says.map V.int)) := (b5 S nSf).trans hS4
        have k5 : Ke (· = f) H H5 := k4.trans (.but F4 b5)
        refine ⟨L, _, d, d.toNat, .int left[d.toNat], rfl, rfl, hL5, by omega, by omega, by rw [List.length_map]; exact ix_seq d0 d1, by rw [List.getElem?_map, List.getElem?_eq_getElem dl]; rfl, ?_⟩
        have pp := perm_pop (List.getElem?_eq_getElem dl)
        have y1 := Tk.one left[d.toNat] (pm.mem_iff.mp (List.mem_append_right _ (List.getElem_mem dl)))
        generalize left[d.toNat] = y at pp y1
        have F6 : Feed (upd H5 L (.lst ((left.map V.int).eraseIdx d.toNat))) f c (B + 1 + 2 * i + 1) := F5.upd nLf nLc
        have k6 : Ke (· = f) H (upd H5 L (.lst ((left.map V.int).eraseIdx d.toNat))) := k5.write frL hL5
        have hL6 : (upd H5 L (.lst ((left.map V.int).eraseIdx d.toNat))) L = some (.lst ((left.eraseIdx d.toNat).map V.int)) := by rw [upd_same, erase_map]
        have hS6 : (upd H5 L (.lst ((left.map V.int).eraseIdx d.toNat))) S = some (.lst (says.map V.int)) := by rw [upd_ne nSL]; exact hS5
        generalize (upd H5 L (.lst ((left.map V.int).eraseIdx d.toNat))) = H6 at F6 k6 hL6 hS6 ⊢
        -- says.append([thing, 0 - thing][..])
        refine ⟨_, rfl, .inl ⟨rfl, _, .of hS6⟩, _, rfl, _, rfl, _, _, rfl, rfl, by show 2 ≤ sizeLine; decide, fun p H7 np s7 hp _ => ?_⟩
        refine ⟨_, rfl, f, c, 2, B + 1 + 2 * i + 1, rfl, by decide, by decide, F6.same s7, by omega, fun e H8 e0 e1 F8 b8 => ?_⟩
        have npf : p ≠ f := F6.nf np
        have hp8 := (b8 p npf).trans hp
        have hS8 : H8 S = some (.lst (says.map V.int)) := (b8 S nSf).trans (s7 _ _ hS6)
        have hL8 : H8 L = some (.lst ((left.eraseIdx d.toNat).map V.int)) := (b8 L nLf).trans (s7 _ _ hL6)
        have k8 : Ke (· = f) H H8 := (k6.trans (.same s7)).trans (.but (F6.same s7) b8)
        have two : e = 0 ∨ e = 1 := by omega
        have go : ∀ z : Int, (z.natAbs : Int) = y → ((says ++ [z]).map (fun s => (s.natAbs : Int)) ++ left.eraseIdx d.toNat).Perm ks := fun z hz => by
          refine List.Perm.trans ?_ pm
          rw [List.map_append, List.append_assoc, List.map_singleton, hz]
          exact (List.Perm.refl _).append pp
        rcases two with rfl | rfl
        · refine ⟨p, _, 0, .int y, rfl, rfl, .of hp8, rfl, S, _, _, rfl, rfl, hS8, by rw [List.length_map]; exact small1000 (by omega), ?_⟩
          refine ⟨_, _, left.eraseIdx d.toNat, says ++ [y], rfl, (F8.upd nSf nSc).mono (by omega), k8.write frS hS8, by rw [upd_ne (Ne.symm nSL)]; exact hL8, by rw [upd_same, List.map_append]; rfl, by rw [erase_len dl]; omega, by rw [List.length_append, ls]; rfl, go y (by omega)⟩
        · refine ⟨p, _, 1, .int (0 - y), rfl, rfl, .of hp8, rfl, S, _, _, rfl, rfl, hS8, by rw [List.length_map]; exact small1000 (by omega), ?_⟩
          refine ⟨_, _, left.eraseIdx d.toNat, says ++ [0 - y], rfl, (F8.upd nSf nSc).mono (by omega), k8.write frS hS8, by rw [upd_ne (Ne.symm nSL)]; exact hL8, by rw [upd_same, List.map_append]; rfl, by rw [erase_len dl]; omega, by rw [List.length_append, ls]; rfl, go (0 - y) (by omega)⟩
      · rintro σ H' ⟨y5, y6, left, says, rfl, F4, k4, hL4, hS4, ll, ls, pm⟩
        exact ⟨y5, y6, left, says, rfl, F4.mono (by omega), k4, hS4, by omega, pm⟩
    rintro σ' H3 ⟨y5, y6, left, says, rfl, F3, k3, hS3, ls, pm⟩
    refine ⟨_, rfl, S, says, rfl, .of hS3, fun ns pn so p H4 np s4 hp _ => ?_⟩
    refine ⟨p, _, rfl, .of hp, fun p2 H5 np2 s5 hp2 _ => ?_⟩
    obtain ⟨h1, h2⟩ := cl_of Tk pm pn so
    refine q ns p2 H5 (F3.same (s4.trans s5)) (k3.trans (.same (s4.trans s5))) (.ke k3 F3 (.of (s4.free np2))) hp2 h1 h2 ?_
    rw [pn.length_eq]
    exact ls
/-- the claims css are of the things ks -/
def Of (ks : List Int) (cs : List Int) : Prop := IsCl cs ∧ ∀ s ∈ cs, (s.natAbs : Int) ∈ ks
/-- a list of claims as it grows -/
def Ls (H : Hp) (L : Addr) (css : List (List Int)) : Prop := ∃ vs, H L = some (.lst vs) ∧ vs.length = css.length ∧ ∀ (i : Nat) (x : V) (cs : List Int), vs[i]? = some x → css[i]? = some cs → TupI H x cs
theorem ix_append {α β : Type} {R : α → β → Prop} {vs : List α} {ys : List β} {v : α} {y : β} (l : vs.length = ys.length) (h : ∀ (i : Nat) (x : α) (z : β), vs[i]? = some x → ys[i]? = some z → R x z) (r : R v y) :
    ∀ (i : Nat) (x : α) (z : β), (vs ++ [v])[i]? = some x → (ys ++ [y])[i]? = some z → R x z := by
  intro i x z h1 h2
  by_cases hi : i < vs.length
  · rw [List.getElem?_append_left hi] at h1
    rw [List.getElem?_append_left (by omega)] at h2
    exact h i x z h1 h2
  · have e : i = vs.length := by
      have := (List.getElem?_eq_some_iff.mp h1).1
      rw [List.length_append, List.length_singleton] at this
      omega
    subst e
    rw [List.getElem?_append_right (Nat.le_refl _), Nat.sub_self] at h1
    rw [List.getElem?_append_right (by omega), show vs.length - ys.length = 0 by omega] at h2
    cases h1
    cases h2
    exact r
/-- sbook(feed, things, most) -/
def spBok : Sp := fun vs H Q _ => ∃ (f c t : Addr) (m : Int) (B : Nat) (ks : List Int), vs = [.ref f, .ref t, .int m] ∧ 1 ≤ m ∧ m ≤ 16 ∧ H t = some (.lst (ks.map V.int)) ∧ Thg ks ∧ ks ≠ [] ∧ t ≠ f ∧ Feed H f c B ∧ B ≤ 2 ^ 57 ∧
  ∀ (css : List (List Int)) (p : Addr) (H' : Hp), Feed H' f c (B + 500) → Ke (· = f) H H' → Frs H p → Bk H' (.ref p) css → (∀ cs ∈ css, Of ks cs) → 1 ≤ css.length → (css.length : Int) ≤ m → Q (.ref p) H'
theorem ok_bok {f fC : Addr} {fd fdC : FuncData} {k : Nat} (F : Fun K "_law_sbook" "_law_sbook" sBok f fd) (T : Zs mg) (FD : Fun K "_law_sdraw" "_law_sdraw" sDrw fD fdD) (bD : Binds K fdD ["feed", "many"] []) (gD : mg "_law_sdraw" = some (.ref fD)) (GD : FnOk P w K mg base CX0 2 fD fdD ["feed", "many"] spDrw)
    (FC : Fun K "_law_sclaim" "_law_sclaim" sClm fC fdC) (bC : Binds K fdC ["feed", "things", "most"] []) (gC : mg "_law_sclaim" = some (.ref fC)) (GC : FnOk P w K mg base CX0 3 fC fdC ["feed", "things", "most"] spClm) :
    FnOk P w K mg base CX0 (k + 4) f fd ["feed", "things", "most"] spBok := by
  refine F.ok scBok (fun vs H Q E h => ?_) (fun cdv A outer s H vs Q E hr h => ?_)
  · obtain ⟨f, c, t, m, B, ks, rfl, _⟩ := h
    rfl
  · obtain ⟨f, c, t, m, B, ks, rfl, m0, m8, ht, Tk, kn, ntf, hF, hB, q⟩ := h
    have hr2 : Room 2 _ := hr.mono (by omega)
    have hr3 : Room 3 _ := hr.mono (by omega)
    refine ⟨_, (pss_cons (ps_set (i := 3) scBok.nd rfl (.inl rfl) (pe_lstN pa_nil))
      (Evl.pss_cut (ps_for PassesOwn.never rfl (pi_range1 (by rfl) T.z_range (pa_cons (pe_op op_add pe_int (pe_call GD hr2 (by rfl) gD FD.kp bD .nil pass0 (pa_cons (pv 0) (pa_cons (pv 2) pa_nil)))) pa_nil)) (pg_name (i := 4) scBok.nd rfl (.inl rfl)) (Evl.pss_cut (ps_set (i := 5) scBok.nd rfl (.inl rfl) (pe_call GC hr3 (by rfl) gC FC.kp bC .nil pass0 (pa_cons (pv 0) (pa_cons (pv 1) (pa_cons (pe_ix ix_list (pe_lstN (pa_cons pe_int (pa_cons pe_int (pa_cons pe_int (pa_cons pe_int pa_nil))))) (pe_call GD hr2 (by rfl) gD FD.kp bD .nil pass0 (pa_cons (pv 0) (pa_cons pe_int pa_nil))) (fun _ _ => rfl)) pa_nil)))))
      (Evl.pss_cut (ps_if (PW.pt (pw_and (pt_cmpR (op_eqD hr.units) (pv 5) (pe_tupN pa_nil) (nomark _)) (pw_and1 (pt_cmpR op_gt (pe_call GD hr2 (by rfl) gD FD.kp bD .nil pass0 (pa_cons (pv 0) (pa_cons pe_int pa_nil))) pe_int (nomark _))))) (pss_one (ps_set (i := 5) scBok.nd rfl (.inl rfl) (pe_tupN (pa_cons (pe_ix ix_list (pv 1) pe_int (fun _ _ => rfl)) pa_nil)))) pss_nil)
      (pss_one (ps_expr (pe_bm PySem.F.plainAttrs_list PySem.F.slot_list_append PySem.F.type_list_append mt_append (pv 3) (pa_cons (pv 5) pa_nil)))))))
      (pss_one (ps_ret (pe_callTy call_tuple_ofN (by rfl) T.z_tuple (by decide +kernel) (pa_cons (pv 3) pa_nil)))))), ?_⟩
    refine ⟨Nat.zero_le _, fun L H1 nL s1 hL _ => ?_⟩
    have nLf : L ≠ f := hF.nf nL
    have nLc : L ≠ c := hF.nc nL
    have frL : Frs H L := .of nL
    have nLt : L ≠ t := Ne.symm (ne_of_none ht nL)
    obtain ⟨k0, kr, rfl⟩ : ∃ k0 kr, ks = k0 :: kr := by
      cases ks with
      | nil => exact absurd rfl kn
      | cons a r => exact ⟨a, r, rfl⟩
    have hk0 := Tk.one k0 List.mem_cons_self
    have of0 : Of (k0 :: kr) [k0] := by
      refine ⟨⟨.cons (fun _ h => (nomatch h)) .nil, fun k hk => ?_, fun k hk hn => ?_, by show 1 ≤ 8; decide⟩, fun s hs => ?_⟩
      · rw [List.mem_singleton.mp hk]
        omega
      · rw [List.mem_singleton.mp hk] at hn
        have := List.mem_singleton.mp hn
        omega
      · rw [List.mem_singleton.mp hs, show ((k0.natAbs : Nat) : Int) = k0 by omega]
        exact List.mem_cons_self
    refine Evl.q_cut (M := fun σ' H' => ∃ (y4 y5 : Option V) (css : List (List Int)), σ' = [some (.ref f), some (.ref t), some (.int m), some (.ref L), y4, y5] ∧ Feed H' f c (B + 500) ∧ Ke (· = f) H H' ∧ Ls H' L css ∧ (∀ cs ∈ css, Of (k0 :: kr) cs) ∧ 1 ≤ css.length ∧ (css.length : Int) ≤ m) ?_ ?_
    · have F1 : Feed H1 f c B := hF.same s1
      refine ⟨_, rfl, _, rfl, f, c, _, B, rfl, by omega, by omega, F1, by omega, fun d H2 d0 d1 F2 b2 => ?_⟩
      refine ⟨_, _, rfl, rfl, 1 + d, rfl, by omega, by omega, for_range (Pv := fun i σ H' => ∃ (y4 y5 : Option V) (css : List (List Int)), σ = [some (.ref f), some (.ref t), some (.int m), some (.ref L), y4, y5] ∧ Feed H' f c (B + 1 + 30 * i) ∧ Ke (· = f) H H' ∧ Ls H' L css ∧ (∀ cs ∈ css, Of (k0 :: kr) cs) ∧ css.length = i) ?_ ?_ ?_⟩
      · exact ⟨none, none, [], rfl, F2, (Ke.same s1).trans (.but F1 b2), ⟨[], (b2 L nLf).trans hL, rfl, fun i x cs h => by simp at h⟩, fun cs h => (nomatch h), rfl⟩
      · rintro i σ H3 hi ⟨y4, y5, css, rfl, F3, k3, ⟨vs, hL3, lv, hv⟩, oc, lc⟩
        have hi : i < (1 + d).toNat := hi
        have ht3 : H3 t = some (.lst ((k0 :: kr).map V.int)) := k3.lst ht ntf
        refine Evl.q_cut (M := fun σ' H' => ∃ (p : Addr) (cs : List Int), σ' = [some (.ref f), some (.ref t), some (.int m), some (.ref L), some (.int (0 + (i : Int))), some (.ref p)] ∧ Feed H' f c (B + 1 + 30 * i + 21) ∧ Ke (· = f) H3 H' ∧ H' p = some (.tup (cs.map V.int)) ∧ Of (k0 :: kr) cs) ?_ ?_
        · refine ⟨_, rfl, _, rfl, by show 4 ≤ sizeLine; decide, fun p4 H4 np4 s4 hp4 _ => ?_⟩
          have F4 := F3.same s4
          refine ⟨_, rfl, f, c, 4, _, rfl, by decide, by decide, F4, by omega, fun e H5 e0 e1 F5 b5 => ?_⟩
          have k5 : Ke (· = f) H3 H5 := (Ke.same s4).trans (.but F4 b5)
          have np4f : p4 ≠ f := F3.nf np4
          have ht5 : H5 t = some (.lst ((k0 :: kr).map V.int)) := k5.lst ht3 ntf
          have pk : ∃ mm : Int, 0 ≤ mm ∧ mm ≤ 8 ∧ atI [V.int 3, V.int 3, V.int 3, V.int 6] e = some (.int mm) := by
            have four : e = 0 ∨ e = 1 ∨ e = 2 ∨ e = 3 := by omega
            rcases four with rfl | rfl | rfl | rfl
            · exact ⟨3, by decide, by decide, rfl⟩
            · exact ⟨3, by decide, by decide, rfl⟩
            · exact ⟨3, by decide, by decide, rfl⟩
            · exact ⟨6, by decide, by decide, rfl⟩
          obtain ⟨mm, mm0, mm1, ha⟩ := pk
          refine ⟨p4, _, e, .int mm, rfl, rfl, .of ((b5 p4 np4f).trans hp4), ha, f, c, t, mm, _, k0 :: kr, rfl, mm0, mm1, ht5, Tk, F5, by omega, fun cs p H6 F6 k6 _ hp h1 h2 _ => ?_⟩
          exact ⟨p, cs, rfl, F6.mono (by omega), k5.trans k6, hp, h1, h2⟩
        rintro σ' H4 ⟨p, cs, rfl, F4, k4, hp, hc⟩
        -- if claim == () and ..
        refine Evl.q_cut (M := fun σ' H' => ∃ (p : Addr) (cs : List Int), σ' = [some (.ref f), some (.ref t), some (.int m), some (.ref L), some (.int (0 + (i : Int))), some (.ref p)] ∧ Feed H' f c (B + 1 + 30 * i + 22) ∧ Ke (· = f) H3 H' ∧ H' p = some (.tup (cs.map V.int)) ∧ Of (k0 :: kr) cs) ?_ ?_
        · refine ⟨_, rfl, Nat.zero_le _, fun p5 H5 np5 s5 hp5 _ => ?_⟩
          have F5 := F4.same s5
          have k5 : Ke (· = f) H3 H5 := k4.trans (.same s5)
          refine ⟨_, _, .tup (.of (s5 _ _ hp)) (dp_ints cs), .tup (.of hp5) .nil, shaped_tuple (flat_ints _), shaped_tuple rfl, _, rfl, ite2 (fun e => ?_) (fun e => ?_)⟩
          · refine ⟨_, rfl, f, c, 6, _, rfl, by decide, by decide, F5, by omega, fun g H6 g0 g1 F6 b6 => ?_⟩
            have k6 : Ke (· = f) H3 H6 := k5.trans (.but F5 b6)
            refine ⟨_, _, rfl, rfl, _, rfl, ite2 (fun e => ?_) (fun e => ?_)⟩
            · have ht6 : H6 t = some (.lst ((k0 :: kr).map V.int)) := k6.lst ht3 ntf
              refine ⟨_, rfl, t, _, 0, .int k0, rfl, rfl, .of ht6, atI_nat (j := 0) rfl, by show 1 ≤ sizeLine; decide, fun p7 H7 np7 s7 hp7 _ => ?_⟩
              exact ⟨p7, [k0], rfl, (F6.same s7).mono (by omega), k6.trans (.same s7), hp7, of0⟩
            · exact ⟨p, cs, rfl, F6.mono (by omega), k6, (Ke.but F5 b6).tups _ _ (s5 _ _ hp), hc⟩
          · exact ⟨p, cs, rfl, F5.mono (by omega), k5, s5 _ _ hp, hc⟩
        rintro σ' H5 ⟨p, cs, rfl, F5, k5, hp, hc⟩
        -- claims.append(claim)
        have hL5 : H5 L = some (.lst vs) := k5.lst hL3 nLf
        refine ⟨_, rfl, .inl ⟨rfl, _, .of hL5⟩, _, rfl, L, _, _, rfl, rfl, hL5, small1000 (by omega), ?_⟩
        have k6 : Ke (· = f) H (upd H5 L (.lst (vs ++ [.ref p]))) := (k3.trans k5).write frL hL5
        have tp : ∀ {x : V} {ds : List Int}, TupI H5 x ds → TupI (upd H5 L (.lst (vs ++ [.ref p]))) x ds := fun {x ds} ⟨a, e, h⟩ => ⟨a, e, by
          have n : a ≠ L := fun z => by
            rw [z, hL5] at h
            cases h
          rw [upd_ne n]
          exact h⟩
        refine ⟨_, _, css ++ [cs], rfl, (F5.upd nLf nLc).mono (by omega), k6, ⟨vs ++ [.ref p], upd_same, by rw [List.length_append, List.length_append, lv]; rfl, ix_append lv (fun i x ds h1 h2 => tp ((hv i x ds h1 h2).ke k5)) (tp ⟨p, rfl, hp⟩)⟩, fun ds hd => ?_, by rw [List.length_append, lc]; rfl⟩
        rcases List.mem_append.mp hd with z | z
        · exact oc ds z
        · rw [List.mem_singleton.mp z]
          exact hc
      · rintro σ H3 ⟨y4, y5, css, rfl, F3, k3, ls, oc, lc⟩
        have lc' : css.length = (1 + d).toNat := lc
        exact ⟨y4, y5, css, rfl, F3.mono (by omega), k3, ls, oc, by omega, by omega⟩
    rintro σ' H2 ⟨y4, y5, css, rfl, F2, k2, ⟨vs, hL2, lv, hv⟩, oc, l1, l2⟩
    refine ⟨_, rfl, L, vs, rfl, .of hL2, fun p H3 np s3 hp _ => ?_⟩
    have k3 : Ke (· = f) H2 H3 := .same s3
    exact q css p H3 (F2.same s3) (k2.trans k3) (.ke k2 F2 (.of np)) ⟨p, vs, rfl, hp, lv, fun i x cs h1 h2 => (hv i x cs h1 h2).ke k3⟩ oc l1 l2
end
end Cl
namespace St
open PySem PySem.Spec PyProof.Rows L2 Nw
/-! ### set(xs) of a list of whole numbers, and sorted of it -/
/-- a set as it begins -/
abbrev bare (w : World) : Obj := { cls := .type "set", dict := none, data := .set #[] 0 (.fresh 0 0 (!w.params.followText "set-order")) }
section
variable {P : Program} {w : World} {A : Around} {E : Value → Shared → Prop} {s : Shared}
set_option maxRecDepth 100000 in
set_option maxHeartbeats 3200000 in
theorem set_of_list {l : Addr} {xs : Array Value} (ks : List Int) {Q : Value → Shared → Prop} (hA : A.handled = none) (hx : s.heap.IsList l xs) (hk : IntsAre xs.toList ks) (few : ks.length + 1 < scanBound)
    (want : ∀ (h' : Heap) (tk c : Nat), SetR w h' s.heap.objs.size (fun j => decide (j ∈ ks)) c → c ≤ ks.length → (∀ b o, s.heap.get? b = some o → h'.get? b = some o) → Q (.ref s.heap.objs.size) { s with heap := h', toks := tk }) :
    wpAny (model P w) A (call (.type "set") [.ref l]) Q E s := by
  have sz : xs.size = ks.length := by rw [← Array.length_toList]; exact IntsAre.length hk
  obtain ⟨c, tl, hmro⟩ := F.called_set.mro
  have m1 := F.called_set.made
  have m2 := F.called_set.sub
  have m3 := F.called_set.notType
  have m4 := F.called_set.canCreate
  have m5 := F.typeCall_set_1 (.ref l)
  refine wpAny_call (codeAny_of_tree (wpAny_pure ⟨Code.quiet_builtin _ (by decide +kernel), codeAny_builtin F.entry_type_call ?_⟩))
  rw [Around.under_plain (weight_type_call_type "set" [.ref l] []) rfl]
  repeat (any_goals (first | assumption | wp_step))
  refine codeAny_mono (code_set_led1 (.ref l) (E := E) (Q₁ := fun o s1 => o = .ref s.heap.objs.size ∧ s1 = { s with heap := s.heap.push (bare w) }) ⟨rfl, rfl⟩) fun r s1 hr => ?_
  cases r with
  | error e => exact hr
  | ok fl =>
    cases fl with
    | next => exact hr.elim
    | brk => exact hr.elim
    | cont => exact hr.elim
    | ret o =>
      obtain ⟨rfl, rfl⟩ := hr
      have g0 : (s.heap.push (bare w)).get? s.heap.objs.size = some (bare w) := Heap.get?_push_size _ rfl
      have t0 : Shared.TypeIs { s with heap := s.heap.push (bare w) } (.ref s.heap.objs.size) "set" := ⟨_, g0, rfl⟩
      have m6 := F.called_set.init.lookup
      have m7 := F.called_set.init.bind (.ref s.heap.objs.size)
      repeat (any_goals (first | assumption | wp_step))
      refine codeAny_mono (codeAny_call_builtin (R := wants (fun r s2 => r = .none ∧ ∃ h' tk c, s2 = { s with heap := h', toks := tk } ∧ SetR w h' s.heap.objs.size (fun j => decide (j ∈ ks)) c ∧ c ≤ ks.length ∧ ∀ b o, s.heap.get? b = some o → h'.get? b = some o) E) F.called_set.init.plain F.entry_set_init (check_set_init_1 t0 ?_)) fun r2 s2 hr2 => ?_
      · obtain ⟨ol, g1, hc, nl, hd⟩ := hx
        have lt : l < s.heap.objs.size := Heap.lt_size g1
        obtain ⟨oc, od, oda, osl⟩ := ol
        dsimp only at hc hd
        subst hc hd
        have g2 : (s.heap.push (bare w)).get? l = some { cls := .type "list", dict := od, data := .seq xs nl, slots := osl } := Heap.get?_push_of_some _ g1
        have i1 : (s.heap.push (bare w)).IsList l xs := ⟨_, g2, rfl, nl, rfl⟩
        have m8 := F.sub_list_set
        have m9 := F.sub_list_frozenset
        have m10 : (Value.type "list" == Value.type "dict") = false := by decide
        have szp : (s.heap.push (bare w)).objs.size = s.heap.objs.size + 1 := Heap.size_push ..
        unfold Builtin.«set.__init__» noKeywords Builtin.Frozenset.updateFrom
        generalize hPI : pyIter = PI
        wp_walk
        subst hPI
        refine wpAny_pyIter_list i1 (wpAny_bind (wpAny_runValue ?_))
        have ne1 : l ≠ (s.heap.push (bare w)).objs.size := by rw [szp]; exact Nat.ne_of_lt (Nat.lt_succ_of_lt lt)
        have ne2 : s.heap.objs.size ∉ [(s.heap.push (bare w)).objs.size, l] := by
          rw [szp]
          simp only [List.mem_cons, List.not_mem_nil, or_false, not_or]
          exact ⟨Nat.ne_of_lt (Nat.lt_succ_self _), Nat.ne_of_gt lt⟩
        have at_ : ∀ (i : Nat) (v : Value), xs[i]? = some v → ∃ k t, ks[i]? = some k ∧ v = .int k t := fun i v hv => by
          have hi : i < ks.length := by rw [← sz]; exact (Array.getElem?_eq_some_iff.mp hv).1
          obtain ⟨t, e⟩ := IntsAre.int_at hk i v (by rw [Array.getElem?_toList]; exact hv)
          rw [List.getD_eq_getElem?_getD, List.getElem?_eq_getElem hi, Option.getD_some] at e
          exact ⟨ks[i], t, List.getElem?_eq_getElem hi, e⟩
        have hA3 : A.in1.in1.in1.handled = none := by simp [hA]
        refine set_update_ints ((Walks.list hA3 _ l ne1 xs).toS) s.heap.objs.size ne2 ks sz few at_ (xs.size - 0) 0 _ (by omega) (Nat.zero_le _) ⟨⟨_, Heap.get?_push_size _ rfl, rfl, rfl⟩, i1.push _⟩ ⟨0, Nat.le_refl 0, setR_new_at (Heap.get?_push_of_some _ g0)⟩ ?_
        intro s' c' hm hc' hS'
        obtain ⟨h', g', d', tk', os'⟩ := s'
        obtain rfl : g' = s.gens := hm.gens
        obtain rfl : d' = s.drawn := hm.drawn
        obtain rfl : os' = s.os := hm.os
        show wpAny _ _ _ _ _ _
        refine wpAny_pure (wpAny_pure ⟨rfl, h', tk', c', rfl, hS', by omega, fun b o e => ?_⟩)
        have lb : b < s.heap.objs.size := Heap.lt_size e
        refine hm.heap b o ?_ (Heap.get?_push_of_some _ (Heap.get?_push_of_some _ e))
        rw [szp]
        simp only [List.mem_cons, List.not_mem_nil, or_false, not_or]
        exact ⟨Nat.ne_of_lt lb, Nat.ne_of_lt (Nat.lt_succ_of_lt lb)⟩
      · cases r2 with
        | error e => exact hr2
        | ok f2 =>
          cases f2 with
          | next => exact hr2.elim
          | brk => exact hr2.elim
          | cont => exact hr2.elim
          | ret r =>
            obtain ⟨rfl, h', tk, c', rfl, hS', hc', hk'⟩ := hr2
            repeat (any_goals (first | assumption | wp_step))
            exact want _ _ _ hS' hc' hk'
end
end St
namespace St
open PySem PySem.Spec PyProof.Rows L2 Nw
theorem cr_setL {X : Cx} (hc : X.calm = true) : CallR X (.type "set") (fun xs H Q => ∃ (a : Addr) (ns : List Int), xs = [.ref a] ∧ SqL X.K H a (ns.map V.int) ∧ ns.length ≤ 60 ∧ ∀ p H2 n, H p = none → Same H H2 → H2 p = some (SetO X.w p (fun j => decide (j ∈ ns)) n) → n ≤ ns.length → Q (.ref p) H2) := by
  intro pins s σ H xs us Q I r h
  obtain ⟨a, ns, rfl, hs, hl, q⟩ := h
  obtain ⟨u, rfl, ru⟩ := Vals.one r
  cases ru
  obtain ⟨its, ri, pl, _⟩ := I.list hs
  have hn : H s.heap.objs.size = none := I.hok.fresh (Nat.le_refl _)
  refine set_of_list ns (I.ok.hd hc) (PlainL.isList pl) (by rw [List.toList_toArray]; exact Vals.ints ri) (by unfold scanBound; omega) fun h' tk c R lc k => ?_
  exact ⟨.ref s.heap.objs.size, upd H s.heap.objs.size (SetO X.w s.heap.objs.size (fun j => decide (j ∈ ns)) c), I.laid (t' := tk) k (Nat.le_refl _) (setO_new R), rfl, q _ _ c hn (same_new hn) upd_same lc⟩
theorem cr_sortedS {X : Cx} (hc : X.calm = true) : CallR X (.builtin "sorted") (fun vs H Q => ∃ (a : Addr) (S : Int → Bool) (n : Nat), vs = [V.ref a] ∧ H a = some (SetO X.w a S n) ∧ n < 64 ∧ ∀ ns : List Int, ns.Pairwise (· < ·) → (∀ k : Int, k ∈ ns ↔ S k = true) → ns.length = n → New H (.lst (ns.map V.int)) Q) :=
  call_weak (cr_sortedSet hc) fun _ _ _ ⟨a, S, n, h1, h2, h3, h4⟩ => ⟨a, S, n, h1, h2, h3, fun ns p x1 x2 x3 np => (h4 ns x1 x2 x3).to p np⟩
end St
namespace St
open PySem PySem.Spec PyProof.Rows L2 Nw
section
variable {X : Cx}
/-- sorted(t), t a tuple of whole numbers: the items are gathered in a list, then a list of these is sorted in its place -/
theorem cr_sortedT : CallR X (.builtin "sorted") (fun vs H Q => ∃ (a : Addr) (ns : List Int), vs = [V.ref a] ∧ SqT X.K H a (ns.map V.int) ∧ ∀ ns' : List Int, ns'.Perm ns → ns'.Pairwise (· ≤ ·) → New H (.lst (ns'.map V.int)) Q) := by
  intro pins s σ H vs us Q I r h
  obtain ⟨a, ns, rfl, hs, q⟩ := h
  obtain ⟨its, rv, ⟨o, ho, hcl, n, hd⟩, hz⟩ := I.tuple hs
  obtain ⟨u, rfl, ru⟩ := Vals.one r
  cases ru
  have hin := Vals.ints rv
  have lz : its.length ≤ sizeLine := by rw [← Vals.length rv]; exact hz
  refine Calls.call_function_entry PyProof.Rows.kind_sorted PyProof.Rows.plain_sorted PyProof.Rows.entry_sorted (PyProof.Rows.args_sorted1 _) ?_
  unfold Builtin.«sorted»
  refine wpAny_bind (m := checkCount "sorted" 1 1 _) (wpAny_pure (wpAny_bind (wpAny_collect_seq a (.inr rfl) ho hcl hd (fun h1 k1 => ?_) (by rw [List.size_toArray]; exact lz))))
  refine wpAny_bind (wpAny_newList ?_ (by rw [List.toList_toArray]; exact lz))
  rw [List.toList_toArray]
  have at1 : (h1.push (seqObj "list" its.toArray 0)).get? h1.objs.size = some (seqObj "list" its.toArray 0) := Heap.get?_push_size _ rfl
  have up1 : ∀ b o, s.heap.get? b = some o → b ≠ h1.objs.size ∧ (h1.push (seqObj "list" its.toArray 0)).get? b = some o := fun b o e => ⟨Nat.ne_of_lt (Heap.lt_size (k1 b o e)), Heap.get?_push_of_some _ (k1 b o e)⟩
  refine wpAny_bind (wpAny_holding (wpAny_call_entry PyProof.Rows.slot_list_sort ⟨_, at1, rfl⟩ PyProof.Rows.entry_list_sort (SrtO.list_sort_ord SrtO.swo_int at1 lz (fun h2 => SrtO.ints_sortable hin h2) fun out g1 g2 => ⟨_, rfl, ?_⟩) (PyProof.Rows.args_list_sort _)))
  obtain ⟨i1, i2, i3⟩ := SrtO.ints_out hin g1 g2
  obtain ⟨ep, hat⟩ := PyProof.Rows.sortedHeap_at (out := out.toArray) at1
  have gone : s.heap.get? h1.objs.size = none := by
    cases e : s.heap.get? h1.objs.size with
    | none => rfl
    | some o => exact absurd (Heap.lt_size (k1 _ o e)) (Nat.lt_irrefl _)
  have hn : H h1.objs.size = none := I.hok.gone gone
  have old : ∀ b o, s.heap.get? b = some o → (PyProof.Rows.sortedHeap (h1.push (seqObj "list" its.toArray 0)) h1.objs.size its out.toArray).get? b = some o := fun b o e => by
    rw [PyProof.Rows.sortedHeap_old (up1 b o e).1 (Heap.lt_size (up1 b o e).2)]
    exact (up1 b o e).2
  have len : ((out.map SrtO.iv).map V.int).length ≤ sizeLine := by
    rw [List.length_map, i2.length_eq]
    rw [List.length_map] at hz
    exact hz
  refine wpAny_pure ⟨_, rfl, .ref h1.objs.size, upd H h1.objs.size (.lst ((out.map SrtO.iv).map V.int)), I.laidN (t' := s.toks) old gone hn ⟨len, out, ep, vals_of_ints i1, hat⟩, rfl, (q _ i2 i3).to _ hn⟩
end
end St
namespace St2
open PySem PySem.Spec PyProof.Rows L2 Nw
/-! ### set(t) of a tuple of whole numbers -/
/-- a set as it begins -/
abbrev bare (w : World) : Obj := { cls := .type "set", dict := none, data := .set #[] 0 (.fresh 0 0 (!w.params.followText "set-order")) }
section
variable {P : Program} {w : World} {A : Around} {E : Value → Shared → Prop} {s : Shared}
set_option maxRecDepth 100000 in
set_option maxHeartbeats 3200000 in
theorem set_of_tup {l : Addr} {xs : Array Value} (ks : List Int) {Q : Value → Shared → Prop} (hA : A.handled = none) (hx : s.heap.IsTuple l xs) (hk : IntsAre xs.toList ks) (few : ks.length + 1 < scanBound)
    (want : ∀ (h' : Heap) (tk c : Nat), SetR w h' s.heap.objs.size (fun j => decide (j ∈ ks)) c → c ≤ ks.length → (∀ b o, s.heap.get? b = some o → h'.get? b = some o) → Q (.ref s.heap.objs.size) { s with heap := h', toks := tk }) :
    wpAny (model P w) A (call (.type "set") [.ref l]) Q E s := by
  have sz : xs.size = ks.length := by rw [← Array.length_toList]; exact IntsAre.length hk
  obtain ⟨c, tl, hmro⟩ := F.called_set.mro
  have m1 := F.called_set.made
  have m2 := F.called_set.sub
  have m3 := F.called_set.notType
  have m4 := F.called_set.canCreate
  have m5 := F.typeCall_set_1 (.ref l)
  refine wpAny_call (codeAny_of_tree (wpAny_pure ⟨Code.quiet_builtin _ (by decide +kernel), codeAny_builtin F.entry_type_call ?_⟩))
  rw [Around.under_plain (weight_type_call_type "set" [.ref l] []) rfl]
  repeat (any_goals (first | assumption | wp_step))
  refine codeAny_mono (code_set_led1 (.ref l) (E := E) (Q₁ := fun o s1 => o = .ref s.heap.objs.size ∧ s1 = { s with heap := s.heap.push (bare w) }) ⟨rfl, rfl⟩) fun r s1 hr => ?_
  cases r with
  | error e => exact hr
  | ok fl =>
    cases fl with
    | next => exact hr.elim
    | brk => exact hr.elim
    | cont => exact hr.elim
    | ret o =>
      obtain ⟨rfl, rfl⟩ := hr
      have g0 : (s.heap.push (bare w)).get? s.heap.objs.size = some (bare w) := Heap.get?_push_size _ rfl
      have t0 : Shared.TypeIs { s with heap := s.heap.push (bare w) } (.ref s.heap.objs.size) "set" := ⟨_, g0, rfl⟩
      have m6 := F.called_set.init.lookup
      have m7 := F.called_set.init.bind (.ref s.heap.objs.size)
      repeat (any_goals (first | assumption | wp_step))
      refine codeAny_mono (codeAny_call_builtin (R := wants (fun r s2 => r = .none ∧ ∃ h' tk c, s2 = { s with heap := h', toks := tk } ∧ SetR w h' s.heap.objs.size (fun j => decide (j ∈ ks)) c ∧ c ≤ ks.length ∧ ∀ b o, s.heap.get? b = some o → h'.get? b = some o) E) F.called_set.init.plain F.entry_set_init (check_set_init_1 t0 ?_)) fun r2 s2 hr2 => ?_
      · obtain ⟨ol, g1, hc, nl, hd⟩ := hx
        have lt : l < s.heap.objs.size := Heap.lt_size g1
        obtain ⟨oc, od, oda, osl⟩ := ol
        dsimp only at hc hd
        subst hc hd
        have g2 : (s.heap.push (bare w)).get? l = some { cls := .type "tuple", dict := od, data := .seq xs nl, slots := osl } := Heap.get?_push_of_some _ g1
        have i1 : (s.heap.push (bare w)).IsTuple l xs := ⟨_, g2, rfl, nl, rfl⟩
        have m8 := F.sub_tuple_set
        have m9 := F.sub_tuple_frozenset
        have m10 : (Value.type "tuple" == Value.type "dict") = false := by decide
        have szp : (s.heap.push (bare w)).objs.size = s.heap.objs.size + 1 := Heap.size_push ..
        unfold Builtin.«set.__init__» noKeywords Builtin.Frozenset.updateFrom
        generalize hPI : pyIter = PI
        wp_walk
        subst hPI
        refine wpAny_pyIter_tuple i1 (wpAny_bind (wpAny_runValue ?_))
        have ne1 : l ≠ (s.heap.push (bare w)).objs.size := by rw [szp]; exact Nat.ne_of_lt (Nat.lt_succ_of_lt lt)
        have ne2 : s.heap.objs.size ∉ [(s.heap.push (bare w)).objs.size, l] := by
          rw [szp]
          simp only [List.mem_cons, List.not_mem_nil, or_false, not_or]
          exact ⟨Nat.ne_of_lt (Nat.lt_succ_self _), Nat.ne_of_gt lt⟩
        have at_ : ∀ (i : Nat) (v : Value), xs[i]? = some v → ∃ k t, ks[i]? = some k ∧ v = .int k t := fun i v hv => by
          have hi : i < ks.length := by rw [← sz]; exact (Array.getElem?_eq_some_iff.mp hv).1
          obtain ⟨t, e⟩ := IntsAre.int_at hk i v (by rw [Array.getElem?_toList]; exact hv)
          rw [List.getD_eq_getElem?_getD, List.getElem?_eq_getElem hi, Option.getD_some] at e
          exact ⟨ks[i], t, List.getElem?_eq_getElem hi, e⟩
        have hA3 : A.in1.in1.in1.handled = none := by simp [hA]
        refine set_update_ints ((Walks.tuple hA3 _ l ne1 xs).toS) s.heap.objs.size ne2 ks sz few at_ (xs.size - 0) 0 _ (by omega) (Nat.zero_le _) ⟨⟨_, Heap.get?_push_size _ rfl, rfl, rfl⟩, i1.push _⟩ ⟨0, Nat.le_refl 0, setR_new_at (Heap.get?_push_of_some _ g0)⟩ ?_
        intro s' c' hm hc' hS'
        obtain ⟨h', g', d', tk', os'⟩ := s'
        obtain rfl : g' = s.gens := hm.gens
        obtain rfl : d' = s.drawn := hm.drawn
        obtain rfl : os' = s.os := hm.os
        show wpAny _ _ _ _ _ _
        refine wpAny_pure (wpAny_pure ⟨rfl, h', tk', c', rfl, hS', by omega, fun b o e => ?_⟩)
        have lb : b < s.heap.objs.size := Heap.lt_size e
        refine hm.heap b o ?_ (Heap.get?_push_of_some _ (Heap.get?_push_of_some _ e))
        rw [szp]
        simp only [List.mem_cons, List.not_mem_nil, or_false, not_or]
        exact ⟨Nat.ne_of_lt lb, Nat.ne_of_lt (Nat.lt_succ_of_lt lb)⟩
      · cases r2 with
        | error e => exact hr2
        | ok f2 =>
          cases f2 with
          | next => exact hr2.elim
          | brk => exact hr2.elim
          | cont => exact hr2.elim
          | ret r =>
            obtain ⟨rfl, h', tk, c', rfl, hS', hc', hk'⟩ := hr2
            repeat (any_goals (first | assumption | wp_step))
            exact want _ _ _ hS' hc' hk'
theorem cr_setT {X : Cx} (hc : X.calm = true) : CallR X (.type "set") (fun xs H Q => ∃ (a : Addr) (ns : List Int), xs = [.ref a] ∧ SqT X.K H a (ns.map V.int) ∧ ns.length ≤ 60 ∧ ∀ p H2 n, H p = none → Same H H2 → H2 p = some (SetO X.w p (fun j => decide (j ∈ ns)) n) → n ≤ ns.length → Q (.ref p) H2) := by
  intro pins s σ H xs us Q I r h
  obtain ⟨a, ns, rfl, hs, hl, q⟩ := h
  obtain ⟨u, rfl, ru⟩ := Vals.one r
  cases ru
  obtain ⟨its, ri, pl, _⟩ := I.tuple hs
  have hn : H s.heap.objs.size = none := I.hok.fresh (Nat.le_refl _)
  refine set_of_tup ns (I.ok.hd hc) (show s.heap.IsTuple a its.toArray from pl) (by rw [List.toList_toArray]; exact Vals.ints ri) (by unfold scanBound; omega) fun h' tk c R lc k => ?_
  exact ⟨.ref s.heap.objs.size, upd H s.heap.objs.size (SetO X.w s.heap.objs.size (fun j => decide (j ∈ ns)) c), I.laid (t' := tk) k (Nat.le_refl _) (setO_new R), rfl, q _ _ c hn (same_new hn) upd_same lc⟩
end
end St2
namespace Ct
open PySem PySem.Spec PyProof.Rows L2 GxR Nw Dr Kp Se
structure Zc (mg : Str → Option Value) : Prop where
  z_any : mg "any" = none
  z_isinstance : mg "isinstance" = none
  z_int : mg "int" = none
  z_bool : mg "bool" = none
  z_tuple : mg "tuple" = none
  z_sorted : mg "sorted" = none
  z_set : mg "set" = none
abbrev sHop : Stmt := topS 14
abbrev nHop : List Str := ["says", "say"]
theorem scHop : FnScope nHop ["says"] (defScope sHop) := ⟨rfl, rfl, rfl, by decide +kernel, rfl, by decide +kernel, by decide +kernel⟩
abbrev sWho : Stmt := topS 13
theorem scWho : FnScope ["thing"] ["thing"] (defScope sWho) := ⟨rfl, rfl, rfl, by decide +kernel, rfl, by decide +kernel, by decide +kernel⟩
abbrev sCme : Stmt := topS 17
theorem scCme : FnScope ["one", "other", "k"] ["one", "other", "k"] (defScope sCme) := ⟨rfl, rfl, rfl, by decide +kernel, rfl, by decide +kernel, by decide +kernel⟩
abbrev sCon : Stmt := topS 18
abbrev nCon : List Str := ["one", "other", "k", "says", "say"]
theorem scCon : FnScope nCon ["one", "other", "k"] (defScope sCon) := ⟨rfl, rfl, rfl, by decide +kernel, rfl, by decide +kernel, by decide +kernel⟩
theorem ints_flat (cs : List Int) : (cs.map V.int).all flatV = true := by
  rw [List.all_map, List.all_eq_true]
  exact fun _ _ => rfl
theorem at_int {ks : List Int} {i : Nat} {x : V} (hx : (ks.map V.int)[i]? = some x) : ∃ z, ks[i]? = some z ∧ x = V.int z := by
  rw [List.getElem?_map] at hx
  cases e : ks[i]? with
  | none =>
    rw [e] at hx
    cases hx
  | some z =>
    rw [e] at hx
    exact ⟨z, rfl, (Option.some.inj hx).symm⟩
/-- any/all over a list that stays -/
theorem aa_list {K : PySem.W.Frag} {a : Addr} {xs : List V} {g : TG} {tt : TT} {te : TE} {vs : List Nat} {σ : L2.St} {H1 : Hp} {stopb : Bool} {Q : VK} (Pv : Nat → Hp → Prop) (h0 : Pv 0 H1) (hl : ∀ i H, i ≤ xs.length → Pv i H → SqL K H a xs)
    (hs : ∀ i x H, xs[i]? = some x → Pv i H → g x (wipe σ vs) H fun σ2 H2 => wipe σ2 vs = wipe σ vs ∧ tt σ2 H2 fun b H3 => if b = true then te σ2 H3 fun y H4 => (y = .bl stopb ∧ Q (.bl stopb) H4) ∨ (y = .bl (!stopb) ∧ Pv (i + 1) H4) else Pv (i + 1) H3) (hd : ∀ H, Pv xs.length H → Q (.bl (!stopb)) H) :
    ∃ W : Nat → Nat → Hp → Prop, (∃ m, W 0 m H1) ∧ ∀ i m H, W i m H → ((Itl K a).stop i H ∧ Q (.bl (!stopb)) H) ∨ ((Itl K a).go i H ∧ ∃ Nx : Hp → Prop, (∀ H', Nx H' → ∃ m', m' < m ∧ W (i + 1) m' H') ∧ ∀ x H', (Itl K a).yld i H x H' → g x (wipe σ vs) H' fun σ2 H2 => wipe σ2 vs = wipe σ vs ∧ tt σ2 H2 fun b H3 =>
      if b = true then te σ2 H3 fun y H4 => (y = .bl stopb ∧ Q (.bl stopb) H4) ∨ (y = .bl (!stopb) ∧ Nx H4) else Nx H3) := by
  refine ⟨fun i m H => i + m = xs.length ∧ Pv i H, ⟨xs.length, Nat.zero_add _, h0⟩, fun i m H ⟨e, p⟩ => ?_⟩
  have sq := hl i H (by omega) p
  cases m with
  | zero =>
    have ei : i = xs.length := by omega
    subst ei
    exact .inl ⟨⟨xs, sq, Nat.le_refl _⟩, hd H p⟩
  | succ m =>
    have lt : i < xs.length := by omega
    refine .inr ⟨⟨xs, xs[i], sq, List.getElem?_eq_getElem lt⟩, Pv (i + 1), fun H' q => ⟨m, Nat.lt_succ_self m, by omega, q⟩, fun x H' y => ?_⟩
    obtain ⟨rfl, y⟩ := y
    exact hs i x _ (y xs sq) p
/-- two of the says are opposite -/
def oppB (ns : List Int) : Bool := ns.any fun s => decide (0 < s) && inV (.int (-s)) (ns.map V.int)
theorem take_any {α : Type} {f : α → Bool} {l : List α} {i : Nat} {x : α} (h : l[i]? = some x) (p : (l.take i).any f = false) : (f x = true → l.any f = true) ∧ (f x = false → (l.take (i + 1)).any f = false) := by
  refine ⟨fun z => List.any_eq_true.mpr ⟨x, List.mem_of_getElem? h, z⟩, fun z => ?_⟩
  rw [List.take_add_one, h, List.any_append, p]
  show (f x || false) = false
  rw [z]
  rfl
section
variable {P : Program} {w : World} {K : PySem.W.Frag} {mg : Str → Option Value} {base : Heap}
def spHop (Po : Addr) : Sp := fun vs H Q _ => ∃ (a : Addr) (ns : List Int), vs = [.ref a] ∧ H a = some (.lst (ns.map V.int)) ∧ TabG H Po ∧ ∀ H', Ke Nof H H' → Q (.bl (oppB ns)) H'
theorem ok_hop {f c Po : Addr} {fd : FuncData} {k : Nat} (F : FunC K "has_opposites" "has_opposites" sHop f c fd) (T : Zc mg) (TB : TabB base mg c Po) : FnOk P w K mg base CX0 (k + 3) f fd ["says"] (spHop Po) := by
  refine F.ok scHop (fun vs H Q E h => ?_) (fun A outer s H vs Q E hr h => ?_)
  · obtain ⟨a, ns, rfl, _⟩ := h
    rfl
  · obtain ⟨a, ns, rfl, ha, tg, q⟩ := h
    refine ⟨_, (pss_one (ps_ret (Gx.pe_any hr (by rfl) T.z_any rfl scHop.nd TB rfl (pi_list (pv 0)) (own := [("say", 1)]) (g := gName 1) (blkOk_by (N := nHop) (sc := defScope sHop) (by decide +kernel)) ⟨rfl, by decide +kernel, rfl⟩ (fun _ _ _ _ _ _ _ => pg_name (i := 1) scHop.nd rfl (.inl rfl)) (fun _ _ _ _ _ _ _ => (pts_one (pt_cmpR op_gt (pv 1) pe_int (nomark _)))) (fun _ _ _ _ _ _ _ => (pe_cmpR (op_in_seqB (K := K) rfl) (pe_un un_neg (pv 1)) (pv 0) (by rfl)))))), ?_⟩
    refine ⟨_, rfl, a, rfl, ⟨_, .of ha⟩, tg, fun H1 tb => ?_⟩
    have k1 : Ke Nof H H1 := .tabbed tg tb
    refine aa_list (xs := ns.map V.int) (Pv := fun i H' => Ke Nof H H' ∧ (ns.take i).any (fun s => decide (0 < s) && inV (.int (-s)) (ns.map V.int)) = false) ⟨k1, rfl⟩ (fun i H' _ p => .of (p.1.lst ha fun z => z)) ?_ ?_
    · rintro i x H' hx ⟨k2, p⟩
      obtain ⟨z, hz, rfl⟩ := at_int hx
      obtain ⟨t1, t2⟩ := take_any hz p
      refine ⟨rfl, _, rfl, _, _, rfl, rfl, _, rfl, ite2 (fun y1 => ?_) (fun y1 => ?_)⟩
      · refine ⟨_, rfl, _, rfl, _, rfl, a, _, rfl, .inl (.of (k2.lst ha fun z => z)), rfl, ints_flat ns, ?_⟩
        cases e : inV (.int (-z)) (ns.map V.int) with
        | true =>
          refine .inl ⟨rfl, ?_⟩
          have := q H' k2
          rw [show oppB ns = true from t1 (by rw [e, Bool.and_true]; exact y1)] at this
          exact this
        | false => exact .inr ⟨rfl, k2, t2 (by rw [e, Bool.and_false])⟩
      · exact ⟨k2, t2 (by rw [show decide (0 < z) = false from Bool.eq_false_iff.mpr y1, Bool.false_and])⟩
    · rintro H' ⟨k2, p⟩
      rw [List.length_map, List.take_length] at p
      have := q H' k2
      rw [show oppB ns = false from p] at this
      exact this
def spWho : Sp := fun vs H Q _ => ∃ k : Int, vs = [.int k] ∧ Q (.bl true) H
theorem ok_who {f : Addr} {fd : FuncData} {k : Nat} (F : Fun K "is_whole" "is_whole" sWho f fd) (T : Zc mg) : FnOk P w K mg base CX0 (k + 1) f fd ["thing"] spWho := by
  refine F.ok scWho (fun vs H Q E h => ?_) (fun cdv A outer s H vs Q E hr h => ?_)
  · obtain ⟨k, rfl, _⟩ := h
    rfl
  · obtain ⟨k, rfl, q⟩ := h
    refine ⟨_, (pss_one (ps_ret (pe_and (pe_callB call_isi (by rfl) T.z_isinstance (by decide +kernel) (pa_cons (pv 0) (pa_cons (pe_bltn (v := .ty "int") (u := .type "int") (by rfl) T.z_int (by decide +kernel) rfl) pa_nil))) (pe_one (pe_not (pe_callB call_isi (by rfl) T.z_isinstance (by decide +kernel) (pa_cons (pv 0) (pa_cons (pe_bltn (v := .ty "bool") (u := .type "bool") (by rfl) T.z_bool (by decide +kernel) rfl) pa_nil)))))))), ?_⟩
    refine ⟨_, rfl, .int k, .ty "int", .type "int", .type "int", true, rfl, .ty _, .base (.int k), kit_ty (by decide +kernel), _, rfl, ?_⟩
    refine ⟨_, rfl, .int k, .ty "bool", .type "int", .type "bool", false, rfl, .ty _, .base (.int k), kit_ty (by decide +kernel), _, rfl, q⟩
/-- k meets -/
def meetB (cs ds : List Int) (k : Int) : Bool := decide (1 ≤ k) && decide (k ≤ 8) && inV (.int k) (cs.map V.int) && inV (.int (-k)) (ds.map V.int)
def spCme : Sp := fun vs H Q _ => ∃ (v u : V) (k : Int) (cs ds : List Int), vs = [v, u, .int k] ∧ TupI H v cs ∧ TupI H u ds ∧ Q (.bl (meetB cs ds k)) H
theorem ok_cme {f fW : Addr} {fd fdW : FuncData} {k : Nat} {tk : Tok} (F : Fun K "can_meet" "can_meet" sCme f fd) (T : Zc mg) (M8 : mg "MOST_THINGS" = some (.int 8 tk)) (FW : Fun K "is_whole" "is_whole" sWho fW fdW) (bW : Binds K fdW ["thing"] []) (gW : mg "is_whole" = some (.ref fW)) (GW : FnOk P w K mg base CX0 1 fW fdW ["thing"] spWho) :
    FnOk P w K mg base CX0 (k + 2) f fd ["one", "other", "k"] spCme := by
  refine F.ok scCme (fun vs H Q E h => ?_) (fun cdv A outer s H vs Q E hr h => ?_)
  · obtain ⟨v, u, k, cs, ds, rfl, _⟩ := h
    rfl
  · obtain ⟨v, u, k, cs, ds, rfl, ⟨a, rfl, ha⟩, ⟨b, rfl, hb⟩, q⟩ := h
    have hr1 : Room 1 _ := hr.mono (by omega)
    refine ⟨_, (pss_one (ps_ret (pe_and (pe_call GW hr1 (by rfl) gW FW.kp bW .nil pass0 (pa_cons (pv 2) pa_nil)) (pe_and (pe_chain op_le op_le pe_int (pv 2) (pe_glob (v := .int 8) rfl M8 ⟨_, rfl⟩)) (pe_and (pe_cmpR op_in_seq (pv 2) (pv 0) (by rfl)) (pe_one (pe_cmpR op_in_seq (pe_un un_neg (pv 2)) (pv 1) (by rfl)))))))), ?_⟩
    refine ⟨_, rfl, k, rfl, _, rfl, ?_⟩
    unfold meetB at q
    refine ⟨_, rfl, 1, _, rfl, rfl, decide (1 ≤ k), rfl, ?_⟩
    cases e1 : decide (1 ≤ k) with
    | false =>
      rw [e1] at q
      exact ⟨_, rfl, q⟩
    | true =>
      refine ⟨_, _, rfl, rfl, decide (k ≤ 8), rfl, ?_⟩
      cases e2 : decide (k ≤ 8) with
      | false =>
        rw [e1, e2] at q
        exact q
      | true =>
        refine ⟨_, rfl, _, rfl, a, _, rfl, .inr (.of ha), rfl, ints_flat cs, _, rfl, ?_⟩
        cases e3 : inV (.int k) (cs.map V.int) with
        | false =>
          rw [e1, e2, e3] at q
          exact q
        | true =>
          rw [e1, e2, e3] at q
          exact ⟨_, rfl, _, rfl, _, rfl, b, _, rfl, .inr (.of hb), rfl, ints_flat ds, q⟩
/-- what is said besides -/
def saysB (cs ds : List Int) (k : Int) : List Int := (cs.filter fun s => !decide (V.int s = V.int k)) ++ ds.filter fun s => !decide (V.int s = V.int (-k))
theorem filt_take {α : Type} {f : α → Bool} {l : List α} {i : Nat} {x : α} (h : l[i]? = some x) : (l.take (i + 1)).filter f = (l.take i).filter f ++ (if f x = true then [x] else []) := by
  rw [List.take_add_one, h, List.filter_append]
  congr 1
  show [x].filter f = _
  cases e : f x with
  | true => rw [List.filter_cons_of_pos e]; rfl
  | false => rw [List.filter_cons_of_neg (by rw [e]; decide)]; rfl
def spCon (Po : Addr) : Sp := fun vs H Q _ => ∃ (v u : V) (k : Int) (cs ds : List Int), vs = [v, u, .int k] ∧ TupI H v cs ∧ TupI H u ds ∧ cs.length ≤ 20 ∧ ds.length ≤ 20 ∧ TabG H Po ∧
  (∀ H', Ke Nof H H' → (meetB cs ds k = false ∨ oppB (saysB cs ds k) = true) → Q .non H') ∧
  ∀ (ns : List Int) (p : Addr) (H' : Hp), Ke Nof H H' → meetB cs ds k = true → oppB (saysB cs ds k) = false → ns.Pairwise (· < ·) → (∀ j, j ∈ ns ↔ j ∈ saysB cs ds k) → H' p = some (.tup (ns.map V.int)) → Q (.ref p) H'
theorem ok_con {f fM fH Po : Addr} {fd fdM fdH : FuncData} {k : Nat} (F : Fun K "cut_or_none" "cut_or_none" sCon f fd) (T : Zc mg) (FM : Fun K "can_meet" "can_meet" sCme fM fdM) (bM : Binds K fdM ["one", "other", "k"] []) (gM : mg "can_meet" = some (.ref fM)) (GM : FnOk P w K mg base CX0 2 fM fdM ["one", "other", "k"] spCme)
    (kpH : PySem.W.keepIn K (.ref fH) = true) (bH : Binds K fdH ["says"] []) (gH : mg "has_opposites" = some (.ref fH)) (GH : FnOk P w K mg base CX0 3 fH fdH ["says"] (spHop Po)) :
    FnOk P w K mg base CX0 (k + 4) f fd ["one", "other", "k"] (spCon Po) := by
  refine F.ok scCon (fun vs H Q E h => ?_) (fun cdv A outer s H vs Q E hr h => ?_)
  · obtain ⟨v, u, k, cs, ds, rfl, _⟩ := h
    rfl
  · obtain ⟨v, u, k, cs, ds, rfl, tv, tu, lc, ld, tg, q1, q2⟩ := h
    have hr2 : Room 2 _ := hr.mono (by omega)
    have hr3 : Room 3 _ := hr.mono (by omega)
    refine ⟨_, (pss_cons (ps_if (pt_not (pt_val (pe_call GM hr2 (by rfl) gM FM.kp bM .nil pass0 (pa_cons (pv 0) (pa_cons (pv 1) (pa_cons (pv 2) pa_nil)))))) (pss_one (ps_ret pe_non)) pss_nil)
      (Evl.pss_cut (ps_set (i := 3) scCon.nd rfl (.inl rfl) (pe_op op_catN (pe_lc (own := [("say", 4)]) (g := (gName 4))  rfl scCon.nd (pi_tup (pv 0)) (blkOk_by (N := nCon) (sc := defScope sCon) (by decide +kernel)) (fun _ _ _ _ _ => (pg_name (i := 4) scCon.nd rfl (.inl rfl))) (fun _ _ _ _ _ => (pts_one (pt_cmpR op_ne (pv 4) (pv 2) (nomark _)))) (fun _ _ _ _ _ => (pv 4))) (pe_lc (own := [("say", 4)]) (g := (gName 4))  rfl scCon.nd (pi_tup (pv 1)) (blkOk_by (N := nCon) (sc := defScope sCon) (by decide +kernel)) (fun _ _ _ _ _ => (pg_name (i := 4) scCon.nd rfl (.inl rfl))) (fun _ _ _ _ _ => (pts_one (pt_cmpR op_ne (pv 4) (pe_un un_neg (pv 2)) (nomark _)))) (fun _ _ _ _ _ => (pv 4)))))
      (pss_cons (ps_if (pt_val (pe_call GH hr3 (by rfl) gH kpH bH .nil pass0 (pa_cons (pv 3) pa_nil))) (pss_one (ps_ret pe_non)) pss_nil)
      (pss_one (ps_ret (pe_callTy call_tuple_ofN (by rfl) T.z_tuple (by decide +kernel) (pa_cons (pe_callB (St.cr_sortedS rfl) (by rfl) T.z_sorted (by decide +kernel) (pa_cons (pe_callTy (St.cr_setL rfl) (by rfl) T.z_set (by decide +kernel) (pa_cons (pv 3) pa_nil)) pa_nil)) pa_nil))))))), ?_⟩
    obtain ⟨a, rfl, ha⟩ := id tv
    obtain ⟨b, rfl, hb⟩ := id tu
    refine ⟨_, rfl, _, rfl, _, rfl, .ref a, .ref b, k, cs, ds, rfl, tv, tu, _, rfl, ?_⟩
    cases e1 : meetB cs ds k with
    | false => exact q1 H (.refl _ _) (.inl e1)
    | true =>
      refine Evl.q_cut (M := fun σ' H' => ∃ p : Addr, σ' = [some (.ref a), some (.ref b), some (.int k), some (.ref p), none] ∧ Same H H' ∧ H' p = some (.lst ((saysB cs ds k).map V.int))) ?_ ?_
      · refine ⟨_, rfl, a, rfl, ⟨_, .of ha⟩, fun D nD => ?_⟩
        refine lc_tup (xs := cs.map V.int) (Pv := fun i H' => Same H H' ∧ H' D = some (.lst (((cs.take i).filter fun s => !decide (V.int s = V.int k)).map V.int))) ⟨same_new nD, upd_same⟩ (fun i H' _ p => .of (p.1 _ _ ha)) ?_ ?_
        · rintro i x H' hx ⟨s1, hD⟩
          obtain ⟨z, hz, rfl⟩ := at_int hx
          have ft := filt_take (f := fun s => !decide (V.int s = V.int k)) hz
          refine ⟨rfl, _, rfl, _, rfl, rfl, _, rfl, ite2 (fun y1 => ?_) (fun y1 => ?_)⟩
          · refine ⟨_, rfl, _, hD, ?_, fun c o y => ?_, ?_⟩
            · rw [List.length_map]
              exact small1000 (Nat.le_trans (List.length_filter_le _ _) (by rw [List.length_take]; omega))
            · rw [upd_ne (ne_of_none y nD)]
              exact s1 _ _ y
            · rw [upd_same, ft, if_pos y1, List.map_append]
              rfl
          · refine ⟨s1, ?_⟩
            rw [ft, if_neg y1, List.append_nil]
            exact hD
        rintro H1 ⟨s1, hD⟩
        rw [List.length_map, List.take_length] at hD
        refine ⟨_, rfl, b, rfl, ⟨_, .of (s1 _ _ hb)⟩, fun D2 nD2 => ?_⟩
        refine lc_tup (xs := ds.map V.int) (Pv := fun i H' => Same H1 H' ∧ H' D2 = some (.lst (((ds.take i).filter fun s => !decide (V.int s = V.int (-k))).map V.int))) ⟨same_new nD2, upd_same⟩ (fun i H' _ p => .of (p.1 _ _ (s1 _ _ hb))) ?_ ?_
        · rintro i x H' hx ⟨s2, hD2⟩
          obtain ⟨z, hz, rfl⟩ := at_int hx
          have ft := filt_take (f := fun s => !decide (V.int s = V.int (-k))) hz
          refine ⟨rfl, _, rfl, _, rfl, _, rfl, rfl, _, rfl, ite2 (fun y1 => ?_) (fun y1 => ?_)⟩
          · refine ⟨_, rfl, _, hD2, ?_, fun c o y => ?_, ?_⟩
            · rw [List.length_map]
              exact small1000 (Nat.le_trans (List.length_filter_le _ _) (by rw [List.length_take]; omega))
            · rw [upd_ne (ne_of_none y nD2)]
              exact s2 _ _ y
            · rw [upd_same, ft, if_pos y1, List.map_append]
              rfl
          · refine ⟨s2, ?_⟩
            rw [ft, if_neg y1, List.append_nil]
            exact hD2
        rintro H2 ⟨s2, hD2⟩
        rw [List.length_map, List.take_length] at hD2
        refine ⟨D, D2, _, _, rfl, rfl, s2 _ _ hD, hD2, ?_, fun p H3 np s3 hp _ => ?_⟩
        · rw [List.length_map, List.length_map]
          have h1 := List.length_filter_le (fun s => !decide (V.int s = V.int k)) cs
          have h2 := List.length_filter_le (fun s => !decide (V.int s = V.int (-k))) ds
          exact Nat.le_trans (by omega : _ ≤ 1000) (by decide)
        · rw [← List.map_append] at hp
          exact ⟨p, rfl, (s1.trans s2).trans s3, hp⟩
      rintro σ' H1 ⟨p, rfl, s1, hp⟩
      have k1 : Ke Nof H H1 := .same s1
      refine ⟨_, rfl, p, _, rfl, hp, k1.tabs _ tg, fun H2 k2 => ⟨_, rfl, ?_⟩⟩
      have k12 := k1.trans k2
      cases e2 : oppB (saysB cs ds k) with
      | true => exact q1 H2 k12 (.inr e2)
      | false =>
        have hp2 := k2.lst hp fun z => z
        have ls : (saysB cs ds k).length ≤ 40 := by
          unfold saysB
          rw [List.length_append]
          have h1 := List.length_filter_le (fun s => !decide (V.int s = V.int k)) cs
          have h2 := List.length_filter_le (fun s => !decide (V.int s = V.int (-k))) ds
          omega
        refine ⟨_, rfl, p, _, rfl, .of hp2, by omega, fun r H3 n nr s3 hr' ln => ?_⟩
        refine ⟨r, _, n, rfl, hr', by omega, fun es up me le r2 H4 nr2 s4 h4 _ => ?_⟩
        refine ⟨r2, _, rfl, .of h4, fun r3 H5 nr3 s5 h5 _ => ?_⟩
        exact q2 es r3 H5 (k12.trans (.same ((s3.trans s4).trans s5))) e1 e2 up (fun j => (me j).trans decide_eq_true_iff) h5
end
end Ct
namespace Ct
open PySem PySem.Spec PyProof.Rows L2 GxR Nw Dr Kp Se
structure Zd (mg : Str → Option Value) : Prop where
  z_tuple : mg "tuple" = none
  z_sorted : mg "sorted" = none
  z_set : mg "set" = none
  z_abs : mg "abs" = none
abbrev sSct : Stmt := topS 74
abbrev nSct : List Str := ["one", "other", "k", "says", "say"]
theorem scSct : FnScope nSct ["one", "other", "k"] (defScope sSct) := ⟨rfl, rfl, rfl, by decide +kernel, rfl, by decide +kernel, by decide +kernel⟩
theorem in_ints (k : Int) : ∀ cs : List Int, inV (.int k) (cs.map V.int) = true ↔ k ∈ cs
  | [] => by
    constructor
    · intro h
      cases h
    · intro h
      cases h
  | c :: r => by
    have ih := in_ints k r
    show (eqV (.int c) (.int k) || inV (.int k) (r.map V.int)) = true ↔ _
    rw [Bool.or_eq_true, ih, List.mem_cons]
    have e : eqV (.int c) (.int k) = true ↔ k = c := by
      show (c == k) = true ↔ k = c
      rw [beq_iff_eq]
      exact eq_comm
    rw [e]
/-- what is said besides, told by members -/
def Bes (cs ds : List Int) (k j : Int) : Prop := (j ∈ cs ∨ j ∈ ds) ∧ (j.natAbs : Int) ≠ k
section
variable {P : Program} {w : World} {K : PySem.W.Frag} {mg : Str → Option Value} {base : Heap}
def spSct : Sp := fun vs H Q _ => ∃ (v u : V) (k : Int) (cs ds : List Int), vs = [v, u, .int k] ∧ TupI H v cs ∧ TupI H u ds ∧ cs.length ≤ 20 ∧ ds.length ≤ 20 ∧
  (∀ H', Same H H' → (k < 1 ∨ k ∉ cs ∨ -k ∉ ds ∨ ∃ j, Bes cs ds k j ∧ Bes cs ds k (-j)) → Q .non H') ∧
  ∀ (ns : List Int) (p : Addr) (H' : Hp), Same H H' → 1 ≤ k → k ∈ cs → -k ∈ ds → (∀ j, Bes cs ds k j → ¬ Bes cs ds k (-j)) → ns.Pairwise (· < ·) → (∀ j, j ∈ ns ↔ Bes cs ds k j) → H' p = some (.tup (ns.map V.int)) → Q (.ref p) H'
theorem ok_sct {f : Addr} {fd : FuncData} {k : Nat} (F : Fun K "_law_scut" "_law_scut" sSct f fd) (T : Zd mg) : FnOk P w K mg base CX0 (k + 1) f fd ["one", "other", "k"] spSct := by
  refine F.ok scSct (fun vs H Q E h => ?_) (fun cdv A outer s H vs Q E hr h => ?_)
  · obtain ⟨v, u, k, cs, ds, rfl, _⟩ := h
    rfl
  · obtain ⟨v, u, k, cs, ds, rfl, ⟨a, rfl, ha⟩, ⟨b, rfl, hb⟩, lc, ld, q1, q2⟩ := h
    refine ⟨_, (pss_cons (ps_if (PW.pt (pw_or (pt_cmpR op_lt (pv 2) pe_int (nomark _)) (pw_or (pt_cmpR op_notIn_seq (pv 2) (pv 0) (by rfl)) (pw_or1 (pt_cmpR op_notIn_seq (pe_op op_sub pe_int (pv 2)) (pv 1) (by rfl)))))) (pss_one (ps_ret pe_non)) pss_nil)
      (Evl.pss_cut (ps_set (i := 3) scSct.nd rfl (.inr rfl) (pe_callB (St.cr_sortedS rfl) (by rfl) T.z_sorted (by decide +kernel) (pa_cons (pe_callTy (St2.cr_setT rfl) (by rfl) T.z_set (by decide +kernel) (pa_cons (pe_op op_catTN (pv 0) (pv 1)) pa_nil)) pa_nil)))
      (Evl.pss_cut (ps_set (i := 3) scSct.nd rfl (.inr rfl) (pe_lc (own := [("say", 4)]) (g := (gName 4))  rfl scSct.nd (pi_list (pv 3)) (blkOk_by (N := nSct) (sc := defScope sSct) (by decide +kernel)) (fun _ _ _ _ _ => (pg_name (i := 4) scSct.nd rfl (.inl rfl))) (fun _ _ _ _ _ => (pts_one (pt_cmpR op_ne (pe_callB call_abs (by rfl) T.z_abs (by decide +kernel) (pa_cons (pv 4) pa_nil)) (pv 2) (nomark _)))) (fun _ _ _ _ _ => (pv 4))))
      (pss_cons (ps_if (pt_cmpR (op_neD hr.units) (pe_lc (own := [("say", 4)]) (g := (gName 4))  rfl scSct.nd (pi_list (pv 3)) (blkOk_by (N := nSct) (sc := defScope sSct) (by decide +kernel)) (fun _ _ _ _ _ => (pg_name (i := 4) scSct.nd rfl (.inl rfl))) (fun _ _ _ _ _ => (pts_one (pt_cmpR (op_in_seqB (K := K) rfl) (pe_op op_sub pe_int (pv 4)) (pv 3) (by rfl)))) (fun _ _ _ _ _ => (pv 4))) (pe_lstN pa_nil) (nomark _)) (pss_one (ps_ret pe_non)) pss_nil)
      (pss_one (ps_ret (pe_callTy call_tuple_ofN (by rfl) T.z_tuple (by decide +kernel) (pa_cons (pv 3) pa_nil)))))))), ?_⟩
    refine ⟨_, rfl, _, _, rfl, rfl, _, rfl, ite2 (fun y1 => ?_) (fun y1 => ?_)⟩
    · exact q1 H (Same.refl H) (.inl (of_decide_eq_true y1))
    have k1 : 1 ≤ k := by
      have := of_decide_eq_false (Bool.eq_false_iff.mpr y1)
      omega
    refine ⟨_, rfl, _, rfl, a, _, rfl, .inr (.of ha), rfl, ints_flat cs, _, rfl, ite2 (fun y2 => ?_) (fun y2 => ?_)⟩
    · refine q1 H (Same.refl H) (.inr (.inl fun z => ?_))
      have y2 : (!inV (.int k) (cs.map V.int)) = true := y2
      rw [(in_ints k cs).mpr z] at y2
      cases y2
    have kc : k ∈ cs := (in_ints k cs).mp (by
      have y2 : ¬ (!inV (.int k) (cs.map V.int)) = true := y2
      cases e : inV (.int k) (cs.map V.int) with
      | true => rfl
      | false => exact absurd (by rw [e]; rfl) y2)
    refine ⟨_, rfl, _, _, rfl, rfl, _, rfl, b, _, rfl, .inr (.of hb), rfl, ints_flat ds, _, rfl, ite2 (fun y3 => ?_) (fun y3 => ?_)⟩
    · refine q1 H (Same.refl H) (.inr (.inr (.inl fun z => ?_)))
      have y3 : (!inV (.int (0 - k)) (ds.map V.int)) = true := y3
      rw [(in_ints (0 - k) ds).mpr (by rw [show 0 - k = -k by omega]; exact z)] at y3
      cases y3
    have kd : -k ∈ ds := by
      have y3 : ¬ (!inV (.int (0 - k)) (ds.map V.int)) = true := y3
      have e : inV (.int (0 - k)) (ds.map V.int) = true := by
        cases e : inV (.int (0 - k)) (ds.map V.int) with
        | true => rfl
        | false => exact absurd (by rw [e]; rfl) y3
      have := (in_ints (0 - k) ds).mp e
      rw [show 0 - k = -k by omega] at this
      exact this
    clear y1 y2 y3
    refine Evl.q_cut (M := fun σ' H' => ∃ (p : Addr) (es : List Int), σ' = [some (.ref a), some (.ref b), some (.int k), some (.ref p), none] ∧ Same H H' ∧ H' p = some (.lst (es.map V.int)) ∧ es.Pairwise (· < ·) ∧ (∀ j, j ∈ es ↔ (j ∈ cs ∨ j ∈ ds)) ∧ es.length ≤ 40) ?_ ?_
    · refine ⟨_, rfl, _, rfl, a, b, _, _, rfl, rfl, ha, hb, ?_, fun q1 H1 u1 h1 => ?_⟩
      · rw [List.length_map, List.length_map]
        exact Nat.le_trans (by omega : _ ≤ 1000) (by decide)
      rw [← List.map_append] at h1
      refine ⟨q1, _, rfl, .of h1, by rw [List.length_append]; omega, fun r H2 n nr s2 hr' ln => ?_⟩
      rw [List.length_append] at ln
      refine ⟨r, _, n, rfl, hr', by omega, fun es up me le p H3 np s3 hp _ => ?_⟩
      exact ⟨p, es, rfl, (u1.trans s2).trans s3, hp, up, fun j => ((me j).trans decide_eq_true_iff).trans List.mem_append, by omega⟩
    rintro σ' H1 ⟨p, es, rfl, s1, hp, up, me, le⟩
    refine Evl.q_cut (M := fun σ' H' => ∃ p : Addr, σ' = [some (.ref a), some (.ref b), some (.int k), some (.ref p), none] ∧ Same H H' ∧ H' p = some (.lst ((es.filter fun s => !decide (V.int (s.natAbs : Int) = V.int k)).map V.int))) ?_ ?_
    · refine ⟨_, rfl, p, rfl, ⟨_, .of hp⟩, fun D nD => ?_⟩
      refine lc_list (xs := es.map V.int) (Pv := fun i H' => Same H1 H' ∧ H' D = some (.lst (((es.take i).filter fun s => !decide (V.int (s.natAbs : Int) = V.int k)).map V.int))) ⟨same_new nD, upd_same⟩ (fun i H' _ z => .of (z.1 _ _ hp)) ?_ ?_
      · rintro i x H2 hx ⟨s2, hD⟩
        obtain ⟨z, hz, rfl⟩ := at_int hx
        have ft := filt_take (f := fun s : Int => !decide (V.int (s.natAbs : Int) = V.int k)) hz
        have e : (if z < 0 then -z else z) = (z.natAbs : Int) := by
          split <;> omega
        refine ⟨rfl, _, rfl, z, rfl, _, rfl, rfl, _, rfl, ?_⟩
        rw [e]
        refine ite2 (fun y1 => ?_) (fun y1 => ?_)
        · refine ⟨_, rfl, _, hD, ?_, fun c o y => ?_, ?_⟩
          · rw [List.length_map]
            exact small1000 (Nat.le_trans (List.length_filter_le _ _) (by rw [List.length_take]; omega))
          · rw [upd_ne (ne_of_none y nD)]
            exact s2 _ _ y
          · rw [upd_same, ft, if_pos y1, List.map_append]
            rfl
        · refine ⟨s2, ?_⟩
          rw [ft, if_neg y1, List.append_nil]
          exact hD
      · rintro H2 ⟨s2, hD⟩
        rw [List.length_map, List.take_length] at hD
        exact ⟨D, rfl, s1.trans s2, hD⟩
    clear hp
    rintro σ' H2 ⟨p, rfl, s2, hp⟩
    have mf : ∀ j, j ∈ (es.filter fun s => !decide (V.int (s.natAbs : Int) = V.int k)) ↔ Bes cs ds k j := fun j => by
      rw [List.mem_filter, me]
      unfold Bes
      have e : ((!decide (V.int (j.natAbs : Int) = V.int k)) = true) ↔ (j.natAbs : Int) ≠ k := by
        rw [Bool.not_eq_true', decide_eq_false_iff_not]
        exact ⟨fun z y => z (by rw [y]), fun z y => z (V.int.inj y)⟩
      rw [e]
    have uf : (es.filter fun s => !decide (V.int (s.natAbs : Int) = V.int k)).Pairwise (· < ·) := up.filter _
    have lf : (es.filter fun s => !decide (V.int (s.natAbs : Int) = V.int k)).length ≤ 40 := Nat.le_trans (List.length_filter_le _ _) le
    generalize (es.filter fun s => !decide (V.int (s.natAbs : Int) = V.int k)) = fs at hp mf uf lf
    refine ⟨_, rfl, p, rfl, ⟨_, .of hp⟩, fun D nD => ?_⟩
    refine lc_list (xs := fs.map V.int) (Pv := fun i H' => Same H2 H' ∧ H' D = some (.lst (((fs.take i).filter fun s => inV (.int (0 - s)) (fs.map V.int)).map V.int))) ⟨same_new nD, upd_same⟩ (fun i H' _ z => .of (z.1 _ _ hp)) ?_ ?_
    · rintro i x H3 hx ⟨s3, hD⟩
      obtain ⟨z, hz, rfl⟩ := at_int hx
      have ft := filt_take (f := fun s : Int => inV (.int (0 - s)) (fs.map V.int)) hz
      refine ⟨rfl, _, rfl, _, _, rfl, rfl, _, rfl, p, _, rfl, .inl (.of (s3 _ _ hp)), rfl, ints_flat fs, _, rfl, ite2 (fun y1 => ?_) (fun y1 => ?_)⟩
      · have y1 : inV (.int (0 - z)) (fs.map V.int) = true := y1
        refine ⟨_, rfl, _, hD, ?_, fun c o y => ?_, ?_⟩
        · rw [List.length_map]
          exact small1000 (Nat.le_trans (List.length_filter_le _ _) (by rw [List.length_take]; omega))
        · rw [upd_ne (ne_of_none y nD)]
          exact s3 _ _ y
        · rw [upd_same, ft, if_pos y1, List.map_append]
          rfl
      · have y1 : ¬ inV (.int (0 - z)) (fs.map V.int) = true := y1
        refine ⟨s3, ?_⟩
        rw [ft, if_neg y1, List.append_nil]
        exact hD
    rintro H3 ⟨s3, hD⟩
    rw [List.length_map, List.take_length] at hD
    refine ⟨Nat.zero_le _, fun r H4 nr s4 hr4 _ => ?_⟩
    have s24 := s2.trans (s3.trans s4)
    cases hg : (fs.filter fun s => inV (.int (0 - s)) (fs.map V.int)) with
    | nil =>
      rw [hg] at hD
      refine ⟨_, _, .lst (.of (s4 _ _ hD)) .nil, .lst (.of hr4) .nil, rfl, rfl, false, rfl, ?_⟩
      have hp4 := s4 _ _ (s3 _ _ hp)
      refine ⟨_, rfl, p, _, rfl, .of hp4, fun r5 H5 n5 s5 h5 _ => ?_⟩
      refine q2 fs r5 H5 (s24.trans s5) k1 kc kd (fun j hj hn => ?_) uf mf h5
      have z : j ∈ (fs.filter fun s => inV (.int (0 - s)) (fs.map V.int)) := List.mem_filter.mpr ⟨(mf j).mpr hj, (in_ints _ _).mpr (by rw [show 0 - j = -j by omega]; exact (mf _).mpr hn)⟩
      rw [hg] at z
      cases z
    | cons j r' =>
      have z : j ∈ (fs.filter fun s => inV (.int (0 - s)) (fs.map V.int)) := by rw [hg]; exact List.mem_cons_self
      obtain ⟨z1, z2⟩ := List.mem_filter.mp z
      have z3 := (in_ints _ _).mp z2
      rw [show 0 - j = -j by omega] at z3
      rw [hg] at hD
      refine ⟨_, _, .lst (.of (s4 _ _ hD)) (dp_ints (j :: r')), .lst (.of hr4) .nil, shaped_list (flat_ints _), rfl, true, rfl, ?_⟩
      exact q1 H4 s24 (.inr (.inr (.inr ⟨j, (mf j).mp z1, (mf (-j)).mp z3⟩)))
end
end Ct
namespace Ct
open PySem PySem.Spec PyProof.Rows L2 GxR Nw Dr Kp Se
/-! ### what the program cuts and what is cut here agree -/
theorem up_unique : ∀ {xs ys : List Int}, xs.Pairwise (· < ·) → ys.Pairwise (· < ·) → (∀ j, j ∈ xs ↔ j ∈ ys) → xs = ys
  | [], [], _, _, _ => rfl
  | [], y :: r, _, _, h => absurd ((h y).mpr List.mem_cons_self) (by simp)
  | x :: r, [], _, _, h => absurd ((h x).mp List.mem_cons_self) (by simp)
  | x :: r, y :: t, hx, hy, h => by
    obtain ⟨x1, x2⟩ := List.pairwise_cons.mp hx
    obtain ⟨y1, y2⟩ := List.pairwise_cons.mp hy
    have e : x = y := by
      rcases List.mem_cons.mp ((h x).mp List.mem_cons_self) with e | m
      · exact e
      · rcases List.mem_cons.mp ((h y).mpr List.mem_cons_self) with e | m2
        · exact e.symm
        · have := y1 x m
          have := x1 y m2
          omega
    subst e
    rw [up_unique x2 y2 fun j => ⟨fun hj => ?_, fun hj => ?_⟩]
    · rcases List.mem_cons.mp ((h j).mp (List.mem_cons_of_mem _ hj)) with e | m
      · have := x1 j hj
        omega
      · exact m
    · rcases List.mem_cons.mp ((h j).mpr (List.mem_cons_of_mem _ hj)) with e | m
      · have := y1 j hj
        omega
      · exact m
variable {cs ds : List Int} {k : Int}
theorem meet_iff (hc : IsCl cs) : meetB cs ds k = true ↔ 1 ≤ k ∧ k ∈ cs ∧ -k ∈ ds := by
  unfold meetB
  rw [Bool.and_eq_true, Bool.and_eq_true, Bool.and_eq_true, decide_eq_true_iff, decide_eq_true_iff, in_ints, in_ints]
  constructor
  · rintro ⟨⟨⟨h1, _⟩, h2⟩, h3⟩
    exact ⟨h1, h2, h3⟩
  · rintro ⟨h1, h2, h3⟩
    exact ⟨⟨⟨h1, (hc.says k h2).2.2⟩, h2⟩, h3⟩
theorem not_int {a b : Int} : (!decide (V.int a = V.int b)) = true ↔ a ≠ b := by
  rw [Bool.not_eq_true', decide_eq_false_iff_not]
  exact ⟨fun z y => z (by rw [y]), fun z y => z (V.int.inj y)⟩
theorem says_iff (hc : IsCl cs) (hd : IsCl ds) (kc : k ∈ cs) (kd : -k ∈ ds) (k1 : 1 ≤ k) (j : Int) : j ∈ saysB cs ds k ↔ Bes cs ds k j := by
  unfold saysB Bes
  rw [List.mem_append, List.mem_filter, List.mem_filter, not_int, not_int]
  constructor
  · rintro (⟨h1, h2⟩ | ⟨h1, h2⟩)
    · refine ⟨.inl h1, fun z => ?_⟩
      have e : j = -k := by omega
      rw [e] at h1
      exact hc.opp k kc h1
    · refine ⟨.inr h1, fun z => ?_⟩
      have e : j = k := by omega
      rw [e] at h1
      exact hd.opp k h1 kd
  · rintro ⟨h1 | h1, h2⟩
    · exact .inl ⟨h1, by omega⟩
    · exact .inr ⟨h1, by omega⟩
theorem opp_iff (ns : List Int) (nz : ∀ j ∈ ns, j ≠ 0) : oppB ns = true ↔ ∃ j, j ∈ ns ∧ -j ∈ ns := by
  unfold oppB
  rw [List.any_eq_true]
  constructor
  · rintro ⟨j, hj, h⟩
    rw [Bool.and_eq_true, in_ints] at h
    exact ⟨j, hj, h.2⟩
  · rintro ⟨j, h1, h2⟩
    have := nz j h1
    by_cases p : 0 < j
    · exact ⟨j, h1, by rw [Bool.and_eq_true, in_ints, decide_eq_true_iff]; exact ⟨p, h2⟩⟩
    · exact ⟨-j, h2, by rw [Bool.and_eq_true, in_ints, decide_eq_true_iff, Int.neg_neg]; exact ⟨by omega, h1⟩⟩
/-- the cut of two claims: what comes, if anything -/
def Comes (cs ds : List Int) (k : Int) (ns : List Int) : Prop := 1 ≤ k ∧ k ∈ cs ∧ -k ∈ ds ∧ (∀ j, Bes cs ds k j → ¬ Bes cs ds k (-j)) ∧ ns.Pairwise (· < ·) ∧ ∀ j, j ∈ ns ↔ Bes cs ds k j
def NoCome (cs ds : List Int) (k : Int) : Prop := k < 1 ∨ k ∉ cs ∨ -k ∉ ds ∨ ∃ j, Bes cs ds k j ∧ Bes cs ds k (-j)
theorem Comes.one {ns ms : List Int} (a : Comes cs ds k ns) (b : Comes cs ds k ms) : ns = ms := up_unique a.2.2.2.2.1 b.2.2.2.2.1 fun j => (a.2.2.2.2.2 j).trans (b.2.2.2.2.2 j).symm
theorem Comes.no {ns : List Int} (a : Comes cs ds k ns) (b : NoCome cs ds k) : False := by
  obtain ⟨a1, a2, a3, a4, _⟩ := a
  rcases b with b | b | b | ⟨j, b1, b2⟩
  · omega
  · exact b a2
  · exact b a3
  · exact a4 j b1 b2
theorem comes_of (hc : IsCl cs) (hd : IsCl ds) {ns : List Int} (m : meetB cs ds k = true) (o : oppB (saysB cs ds k) = false) (up : ns.Pairwise (· < ·)) (me : ∀ j, j ∈ ns ↔ j ∈ saysB cs ds k) : Comes cs ds k ns := by
  obtain ⟨k1, kc, kd⟩ := (meet_iff hc).mp m
  have sb := says_iff hc hd kc kd k1
  refine ⟨k1, kc, kd, fun j h1 h2 => ?_, up, fun j => (me j).trans (sb j)⟩
  have nz : ∀ j ∈ saysB cs ds k, j ≠ 0 := fun j hj => by
    rcases ((sb j).mp hj).1 with h | h
    · exact (hc.says j h).1
    · exact (hd.says j h).1
  have := (opp_iff _ nz).mpr ⟨j, (sb j).mpr h1, (sb _).mpr h2⟩
  rw [o] at this
  cases this
theorem nocome_of (hc : IsCl cs) (hd : IsCl ds) (h : meetB cs ds k = false ∨ oppB (saysB cs ds k) = true) : NoCome cs ds k := by
  by_cases k1 : 1 ≤ k
  · by_cases kc : k ∈ cs
    · by_cases kd : -k ∈ ds
      · have m := (meet_iff (ds := ds) hc).mpr ⟨k1, kc, kd⟩
        rcases h with h | h
        · rw [m] at h
          cases h
        · have sb := says_iff hc hd kc kd k1
          have nz : ∀ j ∈ saysB cs ds k, j ≠ 0 := fun j hj => by
            rcases ((sb j).mp hj).1 with h | h
            · exact (hc.says j h).1
            · exact (hd.says j h).1
          obtain ⟨j, h1, h2⟩ := (opp_iff _ nz).mp h
          exact .inr (.inr (.inr ⟨j, (sb j).mp h1, (sb _).mp h2⟩))
      · exact .inr (.inr (.inl kd))
    · exact .inr (.inl kc)
  · exact .inl (by omega)
end Ct
namespace Od
open PySem PySem.Spec PyProof.Rows L2 GxR Nw Dr Kp
/-! ### anything: values by their data; no list among them is one of f -/
mutual
inductive OdV (f : Addr → Prop) (H : Hp) : V → PyData → Prop
  | non : OdV f H .non .none
  | bl (b : Bool) : OdV f H (.bl b) (.bool b)
  | int (i : Int) : OdV f H (.int i) (.int i)
  | str (x : Str) : OdV f H (.str x) (.str x)
  | lst {a : Addr} {xs : List V} {ds : List PyData} : H a = some (.lst xs) → ¬ f a → OdAll f H xs ds → OdV f H (.ref a) (.list ds)
  | tup {a : Addr} {xs : List V} {ds : List PyData} : H a = some (.tup xs) → OdAll f H xs ds → OdV f H (.ref a) (.tuple ds)
inductive OdAll (f : Addr → Prop) (H : Hp) : List V → List PyData → Prop
  | nil : OdAll f H [] []
  | cons {v : V} {vs : List V} {d : PyData} {ds : List PyData} : OdV f H v d → OdAll f H vs ds → OdAll f H (v :: vs) (d :: ds)
end
variable {f : Addr → Prop} {H H' : Hp}
mutual
theorem OdV.dp {K : PySem.W.Frag} : ∀ {d : PyData} {v : V}, OdV f H v d → Dp K H v d
  | .none, _, h => by cases h; exact .non
  | .bool _, _, h => by cases h; exact .bl _
  | .int _, _, h => by cases h; exact .int _
  | .str _, _, h => by cases h; exact .str _
  | .list ds, _, h => by cases h with | lst h1 _ h2 => exact .lst (.of h1) (OdAll.dp h2)
  | .tuple ds, _, h => by cases h with | tup h1 h2 => exact .tup (.of h1) (OdAll.dp h2)
  | .dict _, _, h => by cases h
theorem OdAll.dp {K : PySem.W.Frag} : ∀ {ds : List PyData} {vs : List V}, OdAll f H vs ds → DpAll K H vs ds
  | [], _, h => by cases h; exact .nil
  | d :: ds, _, h => by cases h with | cons h1 h2 => exact .cons (OdV.dp h1) (OdAll.dp h2)
end
mutual
theorem OdV.ke (k : Ke f H H') : ∀ {d : PyData} {v : V}, OdV f H v d → OdV f H' v d
  | .none, _, h => by cases h; exact .non
  | .bool _, _, h => by cases h; exact .bl _
  | .int _, _, h => by cases h; exact .int _
  | .str _, _, h => by cases h; exact .str _
  | .list ds, _, h => by cases h with | lst h1 n h2 => exact .lst (k.lst h1 n) n (OdAll.ke k h2)
  | .tuple ds, _, h => by cases h with | tup h1 h2 => exact .tup (k.tups _ _ h1) (OdAll.ke k h2)
  | .dict _, _, h => by cases h
theorem OdAll.ke (k : Ke f H H') : ∀ {ds : List PyData} {vs : List V}, OdAll f H vs ds → OdAll f H' vs ds
  | [], _, h => by cases h; exact .nil
  | d :: ds, _, h => by cases h with | cons h1 h2 => exact .cons (OdV.ke k h1) (OdAll.ke k h2)
end
theorem OdAll.len : ∀ {vs : List V} {ds : List PyData}, OdAll f H vs ds → vs.length = ds.length
  | [], _, h => by cases h; rfl
  | v :: vs, _, h => by cases h with | cons h1 h2 => rw [List.length_cons, List.length_cons, OdAll.len h2]
theorem OdAll.at : ∀ {vs : List V} {ds : List PyData} {i : Nat} {v : V}, OdAll f H vs ds → vs[i]? = some v → ∃ d, ds[i]? = some d ∧ OdV f H v d
  | [], _, _, _, _, e => by simp at e
  | v :: vs, _, 0, _, h, e => by
    cases h with
    | cons h1 h2 =>
      cases e
      exact ⟨_, rfl, h1⟩
  | v :: vs, _, i + 1, _, h, e => by
    cases h with
    | cons h1 h2 => exact OdAll.at (vs := vs) (i := i) h2 (by simpa using e)
theorem OdAll.cat : ∀ {vs us : List V} {ds es : List PyData}, OdAll f H vs ds → OdAll f H us es → OdAll f H (vs ++ us) (ds ++ es)
  | [], _, _, _, h, g => by cases h; exact g
  | v :: vs, _, _, _, h, g => by cases h with | cons h1 h2 => exact .cons h1 (OdAll.cat h2 g)
theorem OdAll.one {v : V} {d : PyData} (h : OdV f H v d) : OdAll f H [v] [d] := .cons h .nil
theorem OdAll.take : ∀ {vs : List V} {ds : List PyData} (n : Nat), OdAll f H vs ds → OdAll f H (vs.take n) (ds.take n)
  | _, _, 0, _ => by rw [List.take_zero, List.take_zero]; exact .nil
  | [], _, n + 1, h => by cases h; exact .nil
  | v :: vs, _, n + 1, h => by cases h with | cons h1 h2 => exact .cons h1 (OdAll.take n h2)
theorem OdAll.drop : ∀ {vs : List V} {ds : List PyData} (n : Nat), OdAll f H vs ds → OdAll f H (vs.drop n) (ds.drop n)
  | _, _, 0, h => by rw [List.drop_zero, List.drop_zero]; exact h
  | [], _, n + 1, h => by cases h; exact .nil
  | v :: vs, _, n + 1, h => by cases h with | cons h1 h2 => exact OdAll.drop n h2
theorem OdAll.rev : ∀ {vs : List V} {ds : List PyData}, OdAll f H vs ds → OdAll f H vs.reverse ds.reverse
  | [], _, h => by cases h; exact .nil
  | v :: vs, _, h => by
    cases h with
    | cons h1 h2 =>
      rw [List.reverse_cons, List.reverse_cons]
      exact (OdAll.rev h2).cat (.one h1)
theorem od_ints : ∀ ns : List Int, OdAll f H (ns.map V.int) (ns.map PyData.int)
  | [] => .nil
  | n :: r => .cons (.int n) (od_ints r)
/-! ### what anything is -/
def tyD : PyData → String
  | .none => "NoneType" | .bool _ => "bool" | .int _ => "int" | .str _ => "str" | .list _ => "list" | .tuple _ => "tuple" | .dict _ => "dict"
theorem OdV.ty {K : PySem.W.Frag} {d : PyData} {v : V} (h : OdV f H v d) : TyX K H v (.type (tyD d)) := by
  cases h with
  | non => exact .base .non
  | bl b => exact .base (.bl b)
  | int i => exact .base (.int i)
  | str x => exact .base (.str x)
  | lst h1 _ _ => exact .base (.lst h1)
  | tup h1 _ => exact .base (.tup h1)
def whD : PyData → Bool
  | .int _ => true
  | _ => false
def tuD : PyData → Bool
  | .tuple _ => true
  | _ => false
def numD : PyData → Int → Bool
  | .int n, m => decide (0 ≤ n) && decide (n < m)
  | _, _ => false
/-! ### small data, to be shown -/
structure Sm (B : Nat) (d : PyData) : Prop where
  sh : d.showable = true
  nd : d.hasDict = false
  dp : d.depth ≤ 6
  sz : d.shown.length ≤ B
structure SmAll (B : Nat) (ds : List PyData) : Prop where
  sh : PyData.showableAll ds = true
  nd : PyData.hasDictAll ds = false
  dp : PyData.depthAll ds ≤ 5
  sz : ∀ x ∈ PyData.shownAll ds, x.length ≤ B
theorem SmAll.nil {B : Nat} : SmAll B [] := ⟨rfl, rfl, by decide, fun _ h => nomatch h⟩
theorem SmAll.cons {B : Nat} {d : PyData} {ds : List PyData} (h : Sm B d) (h5 : d.depth ≤ 5) (t : SmAll B ds) : SmAll B (d :: ds) := by
  refine ⟨?_, ?_, ?_, fun x hx => ?_⟩
  · show (PyData.showable d && PyData.showableAll ds) = true
    rw [h.sh, t.sh]
    rfl
  · show (PyData.hasDict d || PyData.hasDictAll ds) = false
    rw [h.nd, t.nd]
    rfl
  · exact Nat.max_le.mpr ⟨h5, t.dp⟩
  · rcases List.mem_cons.mp hx with e | e
    · rw [e]
      exact h.sz
    · exact t.sz x e
theorem shownAll_len : ∀ ds : List PyData, (PyData.shownAll ds).length = ds.length
  | [] => rfl
  | _ :: r => congrArg (· + 1) (shownAll_len r)
theorem sum_le {B : Nat} : ∀ {l : List Nat}, (∀ x ∈ l, x ≤ B) → l.sum ≤ B * l.length
  | [], _ => Nat.zero_le _
  | x :: r, h => by
    have h1 := h x List.mem_cons_self
    have h2 := sum_le (l := r) fun y hy => h y (List.mem_cons_of_mem _ hy)
    rw [List.sum_cons, List.length_cons, Nat.mul_add]
    omega
theorem SmAll.sum {B : Nat} {ds : List PyData} (h : SmAll B ds) : ((PyData.shownAll ds).map (·.length)).sum ≤ B * ds.length := by
  have := sum_le (B := B) (l := (PyData.shownAll ds).map (·.length)) fun x hx => by
    obtain ⟨y, hy, rfl⟩ := List.mem_map.mp hx
    exact h.sz y hy
  rw [List.length_map, shownAll_len] at this
  exact this
theorem SmAll.list {B n B' : Nat} {ds : List PyData} (h : SmAll B ds) (l : ds.length ≤ n) (hb : B * n + 2 * n + 3 ≤ B') : Sm B' (.list ds) := by
  have e := listText_len_le (PyData.shownAll ds)
  have s := h.sum
  rw [shownAll_len] at e
  have m : B * ds.length ≤ B * n := Nat.mul_le_mul_left _ l
  exact ⟨h.sh, h.nd, by show PyData.depthAll ds + 1 ≤ 6; have := h.dp; omega, by show (listText (PyData.shownAll ds)).length ≤ B'; omega⟩
theorem SmAll.tuple {B n B' : Nat} {ds : List PyData} (h : SmAll B ds) (l : ds.length ≤ n) (hb : B * n + 2 * n + 3 ≤ B') : Sm B' (.tuple ds) := by
  have e := tupleText_len_le (PyData.shownAll ds)
  have s := h.sum
  rw [shownAll_len] at e
  have m : B * ds.length ≤ B * n := Nat.mul_le_mul_left _ l
  exact ⟨h.sh, h.nd, by show PyData.depthAll ds + 1 ≤ 6; have := h.dp; omega, by show (tupleText (PyData.shownAll ds)).length ≤ B'; omega⟩
theorem SmAll.cat {B : Nat} : ∀ {ds es : List PyData}, SmAll B ds → SmAll B es → SmAll B (ds ++ es)
  | [], _, _, g => g
  | d :: r, es, h, g => by
    have hs := h.sh
    have hn := h.nd
    have hd := h.dp
    have hz := h.sz
    have hs' : (PyData.showable d && PyData.showableAll r) = true := hs
    have hn' : (PyData.hasDict d || PyData.hasDictAll r) = false := hn
    rw [Bool.and_eq_true] at hs'
    rw [Bool.or_eq_false_iff] at hn'
    have hd' : Nat.max (PyData.depth d) (PyData.depthAll r) ≤ 5 := hd
    have z := Nat.max_le.mp hd'
    have hr : SmAll B r := ⟨hs'.2, hn'.2, z.2, fun x hx => hz x (List.mem_cons_of_mem _ hx)⟩
    exact SmAll.cons ⟨hs'.1, hn'.1, by omega, hz _ List.mem_cons_self⟩ z.1 (SmAll.cat hr g)
theorem SmAll.of {B : Nat} : ∀ {ds : List PyData}, (∀ d ∈ ds, Sm B d ∧ d.depth ≤ 5) → SmAll B ds
  | [], _ => .nil
  | d :: r, h => SmAll.cons (h d List.mem_cons_self).1 (h d List.mem_cons_self).2 (SmAll.of fun x hx => h x (List.mem_cons_of_mem _ hx))
theorem SmAll.mem {B : Nat} : ∀ {ds : List PyData}, SmAll B ds → ∀ d ∈ ds, Sm B d ∧ d.depth ≤ 5
  | [], _, d, hd => nomatch hd
  | e :: r, h, d, hd => by
    have hs' : (PyData.showable e && PyData.showableAll r) = true := h.sh
    have hn' : (PyData.hasDict e || PyData.hasDictAll r) = false := h.nd
    rw [Bool.and_eq_true] at hs'
    rw [Bool.or_eq_false_iff] at hn'
    have hd' : Nat.max (PyData.depth e) (PyData.depthAll r) ≤ 5 := h.dp
    have z := Nat.max_le.mp hd'
    rcases List.mem_cons.mp hd with u | u
    · rw [u]
      exact ⟨⟨hs'.1, hn'.1, by omega, h.sz _ List.mem_cons_self⟩, z.1⟩
    · exact SmAll.mem (ds := r) ⟨hs'.2, hn'.2, z.2, fun x hx => h.sz x (List.mem_cons_of_mem _ hx)⟩ d u
theorem Sm.mono {B B' : Nat} {d : PyData} (h : Sm B d) (l : B ≤ B') : Sm B' d := ⟨h.sh, h.nd, h.dp, Nat.le_trans h.sz l⟩
theorem small_ints : ∀ n : Fin 130, PyData.showable (.int ((n.val : Int) - 60)) = true ∧ (PyData.shown (.int ((n.val : Int) - 60))).length ≤ 3 := by decide +kernel
theorem sm_int {n : Int} (h0 : -60 ≤ n) (h1 : n < 70) : Sm 3 (.int n) := by
  have := small_ints ⟨(n + 60).toNat, by omega⟩
  rw [show (((n + 60).toNat : Nat) : Int) - 60 = n by omega] at this
  exact ⟨this.1, rfl, by show 0 ≤ 6; decide, this.2⟩
theorem OdV.un {g : Addr → Prop} (h : ∀ a, g a → f a) : ∀ {d : PyData} {v : V}, OdV f H v d → OdV g H v d := fun {d v} => OdV.rec (motive_1 := fun v d _ => OdV g H v d) (motive_2 := fun vs ds _ => OdAll g H vs ds) .non .bl .int .str (fun h1 n _ ih => .lst h1 (fun z => n (h _ z)) ih) (fun h1 _ ih => .tup h1 ih) .nil (fun _ _ i1 i2 => .cons i1 i2)
theorem OdAll.un {g : Addr → Prop} (h : ∀ a, g a → f a) : ∀ {ds : List PyData} {vs : List V}, OdAll f H vs ds → OdAll g H vs ds
  | [], _, x => by cases x; exact .nil
  | _ :: _, _, x => by cases x with | cons h1 h2 => exact .cons (OdV.un h h1) (OdAll.un h h2)
end Od
namespace Lr
open PySem PySem.Spec PyProof.Rows L2 GxR Nw Dr Kp Ct
/-! ### rows, ladders, their claims -/
inductive Rw where
  | book (n : Nat)
  | cut (i j : Nat) (k : Int)
/-- the row's parts -/
def Rw.vs : Rw → List V
  | .book n => [.str "book", .int (n : Nat)]
  | .cut i j k => [.str "cut", .int (i : Nat), .int (j : Nat), .int k]
def RowAt (H : Hp) (v : V) (r : Rw) : Prop := ∃ a, v = .ref a ∧ H a = some (.tup r.vs)
variable {F : Addr → Prop} {H H' : Hp}
theorem RowAt.ke {v : V} {r : Rw} (h : RowAt H v r) (k : Ke F H H') : RowAt H' v r := by
  obtain ⟨a, e, h⟩ := h
  exact ⟨a, e, k.tups _ _ h⟩
/-- items told one by one -/
def All2 {α β : Type} (R : α → β → Prop) (xs : List α) (ys : List β) : Prop := xs.length = ys.length ∧ ∀ (i : Nat) (x : α) (y : β), xs[i]? = some x → ys[i]? = some y → R x y
theorem All2.imp {α β : Type} {R S : α → β → Prop} {xs : List α} {ys : List β} (h : All2 R xs ys) (f : ∀ x y, R x y → S x y) : All2 S xs ys := ⟨h.1, fun i x y h1 h2 => f x y (h.2 i x y h1 h2)⟩
theorem All2.nil {α β : Type} {R : α → β → Prop} : All2 R ([] : List α) ([] : List β) := ⟨rfl, fun i x y h => by cases h⟩
theorem All2.snoc {α β : Type} {R : α → β → Prop} {xs : List α} {ys : List β} {x : α} {y : β} (h : All2 R xs ys) (r : R x y) : All2 R (xs ++ [x]) (ys ++ [y]) := by
  refine ⟨by rw [List.length_append, List.length_append, h.1]; rfl, fun i x' y' h1 h2 => ?_⟩
  by_cases hi : i < xs.length
  · rw [List.getElem?_append_left hi] at h1
    rw [List.getElem?_append_left (by rw [← h.1]; exact hi)] at h2
    exact h.2 i x' y' h1 h2
  · have e : i = xs.length := by
      have := (List.getElem?_eq_some_iff.mp h1).1
      rw [List.length_append, List.length_singleton] at this
      omega
    subst e
    rw [List.getElem?_append_right (Nat.le_refl _), Nat.sub_self] at h1
    rw [List.getElem?_append_right (by rw [h.1]; exact Nat.le_refl _), show xs.length - ys.length = 0 by rw [h.1]; exact Nat.sub_self _] at h2
    cases h1
    cases h2
    exact r
theorem All2.cat {α β : Type} {R : α → β → Prop} {xs us : List α} {ys ws : List β} (h : All2 R xs ys) (g : All2 R us ws) : All2 R (xs ++ us) (ys ++ ws) := by
  refine ⟨by rw [List.length_append, List.length_append, h.1, g.1], fun i x y h1 h2 => ?_⟩
  by_cases hi : i < xs.length
  · rw [List.getElem?_append_left hi] at h1
    rw [List.getElem?_append_left (by rw [← h.1]; exact hi)] at h2
    exact h.2 i x y h1 h2
  · rw [List.getElem?_append_right (by omega)] at h1
    rw [List.getElem?_append_right (by rw [← h.1]; omega), ← h.1] at h2
    exact g.2 _ x y h1 h2
theorem All2.take {α β : Type} {R : α → β → Prop} {xs : List α} {ys : List β} (h : All2 R xs ys) (n : Nat) : All2 R (xs.take n) (ys.take n) := by
  refine ⟨by rw [List.length_take, List.length_take, h.1], fun i x y h1 h2 => ?_⟩
  rw [List.getElem?_take] at h1 h2
  by_cases l : i < n
  · rw [if_pos l] at h1 h2
    exact h.2 i x y h1 h2
  · rw [if_neg l] at h1
    cases h1
theorem All2.at {α β : Type} {R : α → β → Prop} {xs : List α} {ys : List β} (h : All2 R xs ys) {i : Nat} {x : α} (e : xs[i]? = some x) : ∃ y, ys[i]? = some y ∧ R x y := by
  have l := (List.getElem?_eq_some_iff.mp e).1
  have l2 : i < ys.length := by rw [← h.1]; exact l
  exact ⟨ys[i], List.getElem?_eq_getElem l2, h.2 i x _ e (List.getElem?_eq_getElem l2)⟩
theorem All2.atR {α β : Type} {R : α → β → Prop} {xs : List α} {ys : List β} (h : All2 R xs ys) {i : Nat} {y : β} (e : ys[i]? = some y) : ∃ x, xs[i]? = some x ∧ R x y := by
  have l := (List.getElem?_eq_some_iff.mp e).1
  have l2 : i < xs.length := by rw [h.1]; exact l
  exact ⟨xs[i], List.getElem?_eq_getElem l2, h.2 i _ y (List.getElem?_eq_getElem l2) e⟩
/-- a list of claims, a list of rows -/
def ClL (H : Hp) (L : Addr) (cls : List (List Int)) : Prop := ∃ vs, H L = some (.lst vs) ∧ All2 (TupI H) vs cls
def RwL (H : Hp) (L : Addr) (rows : List Rw) : Prop := ∃ vs, H L = some (.lst vs) ∧ All2 (RowAt H) vs rows
theorem ClL.ke {L : Addr} {cls : List (List Int)} (h : ClL H L cls) (k : Ke F H H') (n : ¬ F L) : ClL H' L cls := by
  obtain ⟨vs, h1, h2⟩ := h
  exact ⟨vs, k.lst h1 n, h2.imp fun x y r => r.ke k⟩
theorem RwL.ke {L : Addr} {rows : List Rw} (h : RwL H L rows) (k : Ke F H H') (n : ¬ F L) : RwL H' L rows := by
  obtain ⟨vs, h1, h2⟩ := h
  exact ⟨vs, k.lst h1 n, h2.imp fun x y r => r.ke k⟩
theorem bk_all {v : V} {css : List (List Int)} (h : Bk H v css) : ∃ a vs, v = .ref a ∧ H a = some (.tup vs) ∧ All2 (TupI H) vs css := by
  obtain ⟨a, vs, e, h, l, t⟩ := h
  exact ⟨a, vs, e, h, l, t⟩
/-- the claim of a row behind rows with the claims cls -/
def RowCl (css cls : List (List Int)) : Rw → List Int → Prop
  | .book n, c => css[n]? = some c
  | .cut i j k, c => ∃ x y, cls[i]? = some x ∧ cls[j]? = some y ∧ Comes x y k c
/-- a ladder by the book, with its claims -/
def Lad (css : List (List Int)) (rows : List Rw) (cls : List (List Int)) : Prop := rows.length = cls.length ∧ ∀ (i : Nat) (r : Rw) (c : List Int), rows[i]? = some r → cls[i]? = some c → RowCl css (cls.take i) r c
theorem Lad.nil (css : List (List Int)) : Lad css [] [] := ⟨rfl, fun i r c h => by cases h⟩
theorem Lad.snoc {css cls : List (List Int)} {rows : List Rw} {r : Rw} {c : List Int} (h : Lad css rows cls) (hr : RowCl css cls r c) : Lad css (rows ++ [r]) (cls ++ [c]) := by
  refine ⟨by rw [List.length_append, List.length_append, h.1]; rfl, fun i r' c' h1 h2 => ?_⟩
  by_cases hi : i < rows.length
  · rw [List.getElem?_append_left hi] at h1
    rw [List.getElem?_append_left (by rw [← h.1]; exact hi)] at h2
    rw [List.take_append_of_le_length (by have := h.1; omega)]
    exact h.2 i r' c' h1 h2
  · have e : i = rows.length := by
      have := (List.getElem?_eq_some_iff.mp h1).1
      rw [List.length_append, List.length_singleton] at this
      omega
    subst e
    rw [List.getElem?_append_right (Nat.le_refl _), Nat.sub_self] at h1
    rw [List.getElem?_append_right (by rw [h.1]; exact Nat.le_refl _), show rows.length - cls.length = 0 by rw [h.1]; exact Nat.sub_self _] at h2
    cases h1
    cases h2
    rw [h.1, List.take_append_of_le_length (Nat.le_refl _), List.take_length]
    exact hr
theorem Lad.take {css cls : List (List Int)} {rows : List Rw} (h : Lad css rows cls) (n : Nat) : Lad css (rows.take n) (cls.take n) := by
  refine ⟨by rw [List.length_take, List.length_take, h.1], fun i r c h1 h2 => ?_⟩
  rw [List.getElem?_take] at h1 h2
  by_cases l : i < n
  · rw [if_pos l] at h1 h2
    rw [List.take_take, Nat.min_eq_left (by omega)]
    exact h.2 i r c h1 h2
  · rw [if_neg l] at h1
    cases h1
/-- what any two tellings of a row's claim tell is one -/
theorem RowCl.one {css cls : List (List Int)} {r : Rw} {c d : List Int} (a : RowCl css cls r c) (b : RowCl css cls r d) : c = d := by
  cases r with
  | book n => exact Option.some.inj (a.symm.trans b)
  | cut i j k =>
    obtain ⟨x, y, h1, h2, h3⟩ := a
    obtain ⟨x', y', h1', h2', h3'⟩ := b
    cases h1.symm.trans h1'
    cases h2.symm.trans h2'
    exact h3.one h3'
theorem RowCl.parts {css cls : List (List Int)} {i j : Nat} {k : Int} {c : List Int} (a : RowCl css cls (.cut i j k) c) : i < cls.length ∧ j < cls.length := by
  obtain ⟨x, y, h1, h2, _⟩ := a
  exact ⟨(List.getElem?_eq_some_iff.mp h1).1, (List.getElem?_eq_some_iff.mp h2).1⟩
theorem len_sub : ∀ (l m : List Int), l.Nodup → (∀ x ∈ l, x ∈ m) → l.length ≤ m.length
  | [], _, _, _ => Nat.zero_le _
  | x :: r, m, nd, h => by
    obtain ⟨h1, h2⟩ := List.nodup_cons.mp nd
    have ih := len_sub r (m.erase x) h2 fun y hy => (List.mem_erase_of_ne (fun e => h1 (by rw [← e]; exact hy))).mpr (h y (List.mem_cons_of_mem _ hy))
    have e := List.length_erase_of_mem (h x List.mem_cons_self)
    have p := List.length_pos_of_mem (h x List.mem_cons_self)
    rw [List.length_cons]
    omega
/-- rising, from -8 to 8, not 0, none opposite: a claim -/
theorem cl_mk {ns : List Int} (up : ns.Pairwise (· < ·)) (says : ∀ k ∈ ns, k ≠ 0 ∧ -8 ≤ k ∧ k ≤ 8) (opp : ∀ k ∈ ns, -k ∉ ns) : IsCl ns := by
  refine ⟨up, says, opp, ?_⟩
  have nd : (ns.map fun s => (s.natAbs : Int)).Nodup := List.pairwise_map.mpr (up.imp_of_mem fun {a b} ha hb hab e => by
    have : a = b ∨ a = -b := by omega
    rcases this with z | z
    · omega
    · have e2 : -b = a := by omega
      exact opp b hb (by rw [e2]; exact ha))
  have := len_sub _ [1, 2, 3, 4, 5, 6, 7, 8] nd fun x hx => by
    obtain ⟨s, hs, rfl⟩ := List.mem_map.mp hx
    have := says s hs
    simp only [List.mem_cons, List.not_mem_nil, or_false]
    omega
  rw [List.length_map] at this
  exact this
theorem cl_comes {cs ds ns : List Int} {k : Int} (hc : IsCl cs) (hd : IsCl ds) (h : Comes cs ds k ns) : IsCl ns := by
  obtain ⟨_, _, _, no, up, me⟩ := h
  refine cl_mk up (fun j hj => ?_) fun j hj hn => no j ((me j).mp hj) ((me (-j)).mp hn)
  rcases ((me j).mp hj).1 with z | z
  · exact hc.says j z
  · exact hd.says j z
theorem RowCl.isCl {css cls : List (List Int)} {r : Rw} {c : List Int} (hb : ∀ c ∈ css, IsCl c) (hc : ∀ c ∈ cls, IsCl c) (h : RowCl css cls r c) : IsCl c := by
  cases r with
  | book n => exact hb c (List.mem_of_getElem? h)
  | cut i j k =>
    obtain ⟨x, y, h1, h2, h3⟩ := h
    exact cl_comes (hc x (List.mem_of_getElem? h1)) (hc y (List.mem_of_getElem? h2)) h3
theorem Lad.isCl {css cls : List (List Int)} {rows : List Rw} (hb : ∀ c ∈ css, IsCl c) (h : Lad css rows cls) : ∀ c ∈ cls, IsCl c := by
  have key : ∀ n, n ≤ cls.length → ∀ c ∈ cls.take n, IsCl c := by
    intro n
    induction n with
    | zero => exact fun _ c hc => by simp at hc
    | succ n ih =>
      intro hn c hc
      rw [List.take_add_one] at hc
      rcases List.mem_append.mp hc with hc | hc
      · exact ih (by omega) c hc
      · have ln : n < cls.length := by omega
        have lr : n < rows.length := by rw [h.1]; exact ln
        rw [List.getElem?_eq_getElem ln] at hc
        obtain rfl : c = cls[n] := List.mem_singleton.mp hc
        exact (h.2 n rows[n] cls[n] (List.getElem?_eq_getElem lr) (List.getElem?_eq_getElem ln)).isCl hb (ih (by omega))
  have := key cls.length (Nat.le_refl _)
  rwa [List.take_length] at this
/-! ### min, max of a tuple of two whole numbers -/
section
variable {X : Cx}
def rT2 (K : PySem.W.Frag) (f : Int → Int → Int) : List V → Hp → VK → Prop := fun vs H Q => ∃ (a : Addr) (i j : Int), vs = [V.ref a] ∧ SqT K H a [.int i, .int j] ∧ Q (.int (f i j)) H
theorem two_of {its : List Value} {i j : Int} (r : Vals [V.int i, V.int j] its) : IntsAre its [i, j] := by
  obtain ⟨t, u, rfl⟩ := Vals.int2 r
  exact .cons _ _ (.cons _ _ .nil)
theorem cr_minT (hc : X.calm = true) (hu : X.A.units + 70 < cLine) : CallR X (.builtin "min") (rT2 X.K fun i j => if j < i then j else i) := by
  intro pins s σ H vs us Q I r h
  obtain ⟨a, i, j, rfl, hs, q⟩ := h
  obtain ⟨its, rv, hl, _⟩ := I.tuple hs
  rw [Vals.ref1 r]
  refine PySem.W.min_tuple_datum (α := Int) (x := i) (xs := [j]) (I.ok.hd hc) hl (PySem.W.HoldAll.of_ints (two_of rv)) (by show X.A.units + 1 + 0 < cLine; omega) fun n v h' tk hv hh hk => ?_
  have e : PySem.W.minOf i [j] = if j < i then j else i := by
    show (if decide (j < i) = true then j else i) = _
    by_cases z : j < i
    · rw [if_pos z, if_pos (decide_eq_true z)]
    · rw [if_neg z, if_neg (by rw [decide_eq_false z]; exact Bool.false_ne_true)]
  rw [e] at hh
  obtain ⟨as, hh⟩ := hh
  cases hh
  exact ⟨.int _, H, I.kept hk, ⟨_, rfl⟩, q⟩
theorem cr_maxT (hc : X.calm = true) (hu : X.A.units + 70 < cLine) : CallR X (.builtin "max") (rT2 X.K fun i j => if i < j then j else i) := by
  intro pins s σ H vs us Q I r h
  obtain ⟨a, i, j, rfl, hs, q⟩ := h
  obtain ⟨its, rv, hl, _⟩ := I.tuple hs
  rw [Vals.ref1 r]
  refine PySem.W.max_tuple_datum (α := Int) (x := i) (xs := [j]) (I.ok.hd hc) hl (PySem.W.HoldAll.of_ints (two_of rv)) (by show X.A.units + 1 + 0 < cLine; omega) fun n v h' tk hv hh hk => ?_
  have e : PySem.W.maxOf i [j] = if i < j then j else i := by
    show (if decide (i < j) = true then j else i) = _
    by_cases z : i < j
    · rw [if_pos z, if_pos (decide_eq_true z)]
    · rw [if_neg z, if_neg (by rw [decide_eq_false z]; exact Bool.false_ne_true)]
  rw [e] at hh
  obtain ⟨as, hh⟩ := hh
  cases hh
  exact ⟨.int _, H, I.kept hk, ⟨_, rfl⟩, q⟩
end
end Lr
namespace Lp
open PySem PySem.Spec PyProof.Rows L2 GxR Nw Dr Kp Se Ct Lr
structure Zp (mg : Str → Option Value) : Prop where
  z_len : mg "len" = none
  z_isinstance : mg "isinstance" = none
  z_tuple : mg "tuple" = none
  z_list : mg "list" = none
  z_max : mg "max" = none
theorem TupI.wr {H : Hp} {D : Addr} {x : V} {ns : List Int} {ys : List V} {o : HO} (h : TupI H x ns) (hD : H D = some (.lst ys)) : TupI (upd H D o) x ns := by
  obtain ⟨a, e, h⟩ := h
  refine ⟨a, e, ?_⟩
  rw [upd_ne (fun z => by rw [z, hD] at h; cases h)]
  exact h
theorem RowAt.wr {H : Hp} {D : Addr} {x : V} {r : Rw} {ys : List V} {o : HO} (h : RowAt H x r) (hD : H D = some (.lst ys)) : RowAt (upd H D o) x r := by
  obtain ⟨a, e, h⟩ := h
  refine ⟨a, e, ?_⟩
  rw [upd_ne (fun z => by rw [z, hD] at h; cases h)]
  exact h
theorem cl_snoc {H : Hp} {D : Addr} {vs : List V} {cls : List (List Int)} {x : V} {c : List Int} (hD : H D = some (.lst vs)) (h : All2 (TupI H) vs cls) (hx : TupI H x c) : ClL (upd H D (.lst (vs ++ [x]))) D (cls ++ [c]) :=
  ⟨_, upd_same, (h.imp fun _ _ r => TupI.wr r hD).snoc (TupI.wr hx hD)⟩
theorem take_snoc {α : Type} {l : List α} {i : Nat} {x : α} (h : l[i]? = some x) : l.take (i + 1) = l.take i ++ [x] := by
  rw [List.take_add_one, h]
  rfl
theorem cut_all {xs : List V} {n : Nat} (h : xs.length ≤ n) : cutV xs none (some (n : Int)) = xs := by
  unfold cutV
  rw [HT.sIx_none, HT.sIx_nat, List.drop_zero, Nat.sub_zero, Nat.min_eq_right h, List.take_length]
section
variable {P : Program} {w : World} {K : PySem.W.Frag} {mg : Str → Option Value} {base : Heap}
abbrev sNum : Stmt := topS 21
theorem scNum : FnScope ["thing", "many"] ["thing", "many"] (defScope sNum) := ⟨rfl, rfl, rfl, by decide +kernel, rfl, by decide +kernel, by decide +kernel⟩
def spNum : Sp := fun vs H Q _ => ∃ n m : Int, vs = [.int n, .int m] ∧ Q (.bl (decide (0 ≤ n) && decide (n < m))) H
theorem ok_num {f fW : Addr} {fd fdW : FuncData} {k : Nat} (F : Fun K "is_number_of" "is_number_of" sNum f fd) (FW : Fun K "is_whole" "is_whole" sWho fW fdW) (bW : Binds K fdW ["thing"] []) (gW : mg "is_whole" = some (.ref fW)) (GW : FnOk P w K mg base CX0 1 fW fdW ["thing"] spWho) :
    FnOk P w K mg base CX0 (k + 2) f fd ["thing", "many"] spNum := by
  refine F.ok scNum (fun vs H Q E h => ?_) (fun cdv A outer s H vs Q E hr h => ?_)
  · obtain ⟨n, m, rfl, _⟩ := h
    rfl
  · obtain ⟨n, m, rfl, q⟩ := h
    have hr1 : Room 1 _ := hr.mono (by omega)
    refine ⟨_, (pss_one (ps_ret (pe_and (pe_call GW hr1 (by rfl) gW FW.kp bW .nil pass0 (pa_cons (pv 0) pa_nil)) (pe_one (pe_chain op_le op_lt pe_int (pv 0) (pv 1)))))), ?_⟩
    refine ⟨_, rfl, n, rfl, _, rfl, ?_⟩
    refine ⟨_, rfl, 0, _, rfl, rfl, decide (0 ≤ n), rfl, ?_⟩
    cases e1 : decide (0 ≤ n) with
    | false =>
      rw [e1] at q
      exact q
    | true =>
      rw [e1] at q
      exact ⟨_, rfl, _, _, rfl, rfl, q⟩
abbrev sRow : Stmt := topS 22
theorem scRow : FnScope ["book", "claims", "row"] ["book", "claims", "row"] (defScope sRow) := ⟨rfl, rfl, rfl, by decide +kernel, rfl, by decide +kernel, by decide +kernel⟩
def spRow (Po : Addr) : Sp := fun vs H Q _ => ∃ (b v : V) (L : Addr) (css cls : List (List Int)) (r : Rw), vs = [b, .ref L, v] ∧ Bk H b css ∧ ClL H L cls ∧ RowAt H v r ∧ (∀ c ∈ css, IsCl c) ∧ (∀ c ∈ cls, IsCl c) ∧ TabG H Po ∧
  (∀ H', Ke Nof H H' → (∀ c, ¬ RowCl css cls r c) → Q .non H') ∧ ∀ (c : List Int) (p : Addr) (H' : Hp), Ke Nof H H' → RowCl css cls r c → H' p = some (.tup (c.map V.int)) → Q (.ref p) H'
theorem num_at {α : Type} {l : List α} {n : Nat} (h : (decide ((0 : Int) ≤ (n : Int)) && decide ((n : Int) < (l.length : Int))) = true) : n < l.length := by
  rw [Bool.and_eq_true] at h
  have := of_decide_eq_true h.2
  omega
theorem num_no {α : Type} {l : List α} {n : Nat} (h : ¬ (decide ((0 : Int) ≤ (n : Int)) && decide ((n : Int) < (l.length : Int))) = true) : l.length ≤ n := by
  rw [Bool.and_eq_true] at h
  by_cases z : n < l.length
  · exact absurd ⟨decide_eq_true (by omega), decide_eq_true (by omega)⟩ h
  · omega
theorem ok_row {f fN fC Po : Addr} {fd fdN fdC : FuncData} {k : Nat} (F : Fun K "claim_of_row" "claim_of_row" sRow f fd) (T : Zp mg) (FN : Fun K "is_number_of" "is_number_of" sNum fN fdN) (bN : Binds K fdN ["thing", "many"] []) (gN : mg "is_number_of" = some (.ref fN)) (GN : FnOk P w K mg base CX0 2 fN fdN ["thing", "many"] spNum)
    (FC : Fun K "cut_or_none" "cut_or_none" sCon fC fdC) (bC : Binds K fdC ["one", "other", "k"] []) (gC : mg "cut_or_none" = some (.ref fC)) (GC : FnOk P w K mg base CX0 4 fC fdC ["one", "other", "k"] (spCon Po)) :
    FnOk P w K mg base CX0 (k + 5) f fd ["book", "claims", "row"] (spRow Po) := by
  refine F.ok scRow (fun vs H Q E h => ?_) (fun cdv A outer s H vs Q E hr h => ?_)
  · obtain ⟨b, v, L, css, cls, r, rfl, _⟩ := h
    rfl
  · obtain ⟨b, v, L, css, cls, r, rfl, hb, ⟨lvs, hL, aL⟩, ⟨a, rfl, ha⟩, ib, ic, tg, q1, q2⟩ := h
    have hr2 : Room 2 _ := hr.mono (by omega)
    have hr4 : Room 4 _ := hr.mono (by omega)
    refine ⟨_, (pss_cons (ps_if (pt_not (pt_val (pe_callB call_isi (by rfl) T.z_isinstance (by decide +kernel) (pa_cons (pv 2) (pa_cons (pe_bltn (v := .ty "tuple") (u := .type "tuple") (by rfl) T.z_tuple (by decide +kernel) rfl) pa_nil))))) pss_never pss_nil)
      (pss_cons (ps_if (PW.pt (pw_and (pt_cmpR op_eq (pe_callB call_len_seq (by rfl) T.z_len (by decide +kernel) (pa_cons (pv 2) pa_nil)) pe_int (nomark _)) (pw_and1 (pt_cmpR op_eq (pe_ix ix_tup (pv 2) pe_int (fun _ _ => rfl)) pe_str (nomark _))))) (pss_one (ps_ret (pe_ifExp (pt_val (pe_call GN hr2 (by rfl) gN FN.kp bN .nil pass0 (pa_cons (pe_ix ix_tup (pv 2) pe_int (fun _ _ => rfl)) (pa_cons (pe_callB call_len_seq (by rfl) T.z_len (by decide +kernel) (pa_cons (pv 0) pa_nil)) pa_nil)))) (pe_ix ix_tup (pv 0) (pe_ix ix_tup (pv 2) pe_int (fun _ _ => rfl)) (fun _ _ => rfl)) pe_non))) pss_nil)
      (pss_cons (ps_if (PW.pt (pw_and (pt_cmpR op_eq (pe_callB call_len_seq (by rfl) T.z_len (by decide +kernel) (pa_cons (pv 2) pa_nil)) pe_int (nomark _)) (pw_and1 (pt_cmpR op_eq (pe_ix ix_tup (pv 2) pe_int (fun _ _ => rfl)) pe_str (nomark _))))) (pss_one (ps_if (PW.pt (pw_and (pt_val (pe_call GN hr2 (by rfl) gN FN.kp bN .nil pass0 (pa_cons (pe_ix ix_tup (pv 2) pe_int (fun _ _ => rfl)) (pa_cons (pe_callB call_len_seq (by rfl) T.z_len (by decide +kernel) (pa_cons (pv 1) pa_nil)) pa_nil)))) (pw_and1 (pt_val (pe_call GN hr2 (by rfl) gN FN.kp bN .nil pass0 (pa_cons (pe_ix ix_tup (pv 2) pe_int (fun _ _ => rfl)) (pa_cons (pe_callB call_len_seq (by rfl) T.z_len (by decide +kernel) (pa_cons (pv 1) pa_nil)) pa_nil))))))) (pss_one (ps_ret (pe_call GC hr4 (by rfl) gC FC.kp bC .nil pass0 (pa_cons (pe_ix ix_list (pv 1) (pe_ix ix_tup (pv 2) pe_int (fun _ _ => rfl)) (fun _ _ => rfl)) (pa_cons (pe_ix ix_list (pv 1) (pe_ix ix_tup (pv 2) pe_int (fun _ _ => rfl)) (fun _ _ => rfl)) (pa_cons (pe_ix ix_tup (pv 2) pe_int (fun _ _ => rfl)) pa_nil)))))) pss_nil)) pss_nil)
      (pss_one (ps_ret pe_non))))), ?_⟩
    obtain ⟨b, bvs, rfl, hbt, aB⟩ := bk_all hb
    refine ⟨_, rfl, .ref a, .ty "tuple", .type "tuple", .type "tuple", true, rfl, .ty _, .base (.tup ha), kit_ty (by decide +kernel), _, rfl, ?_⟩
    cases r with
    | book n =>
      refine ⟨_, rfl, a, _, rfl, .inr (.of ha), rfl, true, rfl, ?_⟩
      refine ⟨_, rfl, a, _, 0, .str "book", rfl, rfl, .of ha, rfl, rfl, true, by simp, ?_⟩
      refine ⟨_, rfl, a, _, 1, .int (n : Nat), rfl, rfl, .of ha, rfl, _, rfl, b, _, rfl, .inr (.of hbt), _, _, rfl, _, rfl, ite2 (fun y => ?_) (fun y => ?_)⟩
      · have lt := num_at y
        obtain ⟨c, hc, p, e, hp⟩ := aB.at (List.getElem?_eq_getElem lt)
        refine ⟨_, rfl, _, rfl, a, _, 1, .int (n : Nat), rfl, rfl, .of ha, rfl, b, bvs, _, .ref p, rfl, rfl, .of hbt, at_of (j := n) rfl (by rw [List.getElem?_eq_getElem lt, e]), ?_⟩
        exact q2 c p H (.refl _ _) hc hp
      · have ge := num_no y
        refine q1 H (.refl _ _) fun c hc => ?_
        have := (List.getElem?_eq_some_iff.mp hc).1
        have := aB.1
        omega
    | cut i j k =>
      refine ⟨_, rfl, a, _, rfl, .inr (.of ha), rfl, false, rfl, ?_⟩
      refine ⟨_, rfl, a, _, rfl, .inr (.of ha), rfl, true, rfl, ?_⟩
      refine ⟨_, rfl, a, _, 0, .str "cut", rfl, rfl, .of ha, rfl, rfl, true, by simp, ?_⟩
      refine ⟨_, rfl, a, _, 1, .int (i : Nat), rfl, rfl, .of ha, rfl, _, rfl, L, _, rfl, .inl (.of hL), _, _, rfl, _, rfl, ite2 (fun y => ?_) (fun y => ?_)⟩
      · have li := num_at y
        refine ⟨_, rfl, a, _, 2, .int (j : Nat), rfl, rfl, .of ha, rfl, _, rfl, L, _, rfl, .inl (.of hL), _, _, rfl, _, rfl, ite2 (fun y => ?_) (fun y => ?_)⟩
        · have lj := num_at y
          obtain ⟨ci, hci, ti⟩ := aL.at (List.getElem?_eq_getElem li)
          obtain ⟨cj, hcj, tj⟩ := aL.at (List.getElem?_eq_getElem lj)
          have i1 := ic ci (List.mem_of_getElem? hci)
          have i2 := ic cj (List.mem_of_getElem? hcj)
          have z1 := i1.len
          have z2 := i2.len
          refine ⟨_, rfl, _, rfl, a, _, 1, .int (i : Nat), rfl, rfl, .of ha, rfl, L, lvs, _, lvs[i], rfl, rfl, .of hL, at_of (j := i) rfl (List.getElem?_eq_getElem li), ?_⟩
          refine ⟨_, rfl, _, rfl, a, _, 2, .int (j : Nat), rfl, rfl, .of ha, rfl, L, lvs, _, lvs[j], rfl, rfl, .of hL, at_of (j := j) rfl (List.getElem?_eq_getElem lj), ?_⟩
          refine ⟨_, rfl, a, _, 3, .int k, rfl, rfl, .of ha, rfl, lvs[i], lvs[j], k, ci, cj, rfl, ti, tj, by omega, by omega, tg, fun H' ke no => ?_, fun ns p H' ke m o up me hp => ?_⟩
          · refine q1 H' ke fun c hc => ?_
            obtain ⟨x, y', h1, h2, h3⟩ := hc
            cases hci.symm.trans h1
            cases hcj.symm.trans h2
            exact h3.no (nocome_of i1 i2 no)
          · exact q2 ns p H' ke ⟨ci, cj, hci, hcj, comes_of i1 i2 m o up me⟩ hp
        · have ge := num_no y
          exact q1 H (.refl _ _) fun c hc => by
            have := hc.parts
            have := aL.1
            omega
      · have ge := num_no y
        exact q1 H (.refl _ _) fun c hc => by
          have := hc.parts
          have := aL.1
          omega
/-! ### ladders -/
/-- a book and a ladder by it -/
structure BL (H : Hp) (b : V) (L : Addr) (css : List (List Int)) (rows : List Rw) (cls : List (List Int)) : Prop where
  bk : Bk H b css
  rw : RwL H L rows
  ld : Lad css rows cls
  ib : ∀ c ∈ css, IsCl c
  le : rows.length ≤ 200
theorem BL.ke {F : Addr → Prop} {H H' : Hp} {b : V} {L : Addr} {css cls : List (List Int)} {rows : List Rw} (x : BL H b L css rows cls) (k : Ke F H H') (n : ¬ F L) : BL H' b L css rows cls := ⟨x.bk.ke k, x.rw.ke k n, x.ld, x.ib, x.le⟩
theorem BL.ic {H : Hp} {b : V} {L : Addr} {css cls : List (List Int)} {rows : List Rw} (x : BL H b L css rows cls) : ∀ c ∈ cls, IsCl c := x.ld.isCl x.ib
abbrev sAhe : Stmt := topS 23
theorem scAhe : FnScope ["book", "thing", "claims", "row", "claim"] ["book", "thing"] (defScope sAhe) := ⟨rfl, rfl, rfl, by decide +kernel, rfl, by decide +kernel, by decide +kernel⟩
def spAhe (Po : Addr) : Sp := fun vs H Q _ => ∃ (b : V) (L : Addr) (css cls : List (List Int)) (rows : List Rw), vs = [b, .ref L] ∧ BL H b L css rows cls ∧ TabG H Po ∧ ∀ p H', H p = none → Ke Nof H H' → ClL H' p cls → Q (.ref p) H'
theorem ok_ahe {f fR Po : Addr} {fd fdR : FuncData} {k : Nat} {tk : Tok} (F : Fun K "claims_ahead_of_fault" "claims_ahead_of_fault" sAhe f fd) (T : Zp mg) (M2 : mg "MOST_ROWS" = some (.int 200 tk)) (FR : Fun K "claim_of_row" "claim_of_row" sRow fR fdR) (bR : Binds K fdR ["book", "claims", "row"] []) (gR : mg "claim_of_row" = some (.ref fR)) (GR : FnOk P w K mg base CX0 5 fR fdR ["book", "claims", "row"] (spRow Po)) :
    FnOk P w K mg base CX0 (k + 6) f fd ["book", "thing"] (spAhe Po) := by
  refine F.ok scAhe (fun vs H Q E h => ?_) (fun cdv A outer s H vs Q E hr h => ?_)
  · obtain ⟨b, L, css, cls, rows, rfl, _⟩ := h
    rfl
  · obtain ⟨b, L, css, cls, rows, rfl, x, tg, q⟩ := h
    have hr5 : Room 5 _ := hr.mono (by omega)
    refine ⟨_, (Evl.pss_cut (ps_set (i := 2) scAhe.nd rfl (.inl rfl) (pe_lstN pa_nil))
      (pss_cons (ps_if (pt_not (pt_val (pe_callB call_isi (by rfl) T.z_isinstance (by decide +kernel) (pa_cons (pv 1) (pa_cons (pe_bltn (v := .ty "list") (u := .type "list") (by rfl) T.z_list (by decide +kernel) rfl) pa_nil))))) pss_never pss_nil)
      (pss_cons (ps_for PassesOwn.never rfl (pi_list (pe_slice sl_listN (pv 1) po_none (po_some (pe_glob (v := .int 200) rfl M2 ⟨_, rfl⟩)))) (pg_name (i := 3) scAhe.nd rfl (.inl rfl)) (pss_cons (ps_set (i := 4) scAhe.nd rfl (.inl rfl) (pe_call GR hr5 (by rfl) gR FR.kp bR .nil pass0 (pa_cons (pv 0) (pa_cons (pv 2) (pa_cons (pv 3) pa_nil)))))
      (pss_cons (ps_if (pt_cmpR op_isN (pv 4) pe_non (nomark _)) pss_never pss_nil)
      (pss_one (ps_expr (pe_bm PySem.F.plainAttrs_list PySem.F.slot_list_append PySem.F.type_list_append mt_append (pv 2) (pa_cons (pv 4) pa_nil)))))))
      (pss_one (ps_ret (pv 2)))))), ?_⟩
    refine Evl.q_cut (M := fun σ' H' => ∃ D : Addr, σ' = [some b, some (.ref L), some (.ref D), none, none] ∧ H D = none ∧ Same H H' ∧ H' D = some (.lst [])) ?_ ?_
    · exact ⟨Nat.zero_le _, fun D H1 nD s1 hD _ => ⟨D, rfl, nD, s1, hD⟩⟩
    rintro σ' H1 ⟨D, rfl, nD, s1, hD⟩
    have x1 := x.ke (Ke.same (F := Nof) s1) (fun z => z)
    obtain ⟨rvs, hLr, aR⟩ := x1.rw
    have l2 := x.le
    have l3 := x.ld.1
    refine ⟨_, rfl, .ref L, .ty "list", .type "list", .type "list", true, rfl, .ty _, .base (.lst hLr), kit_ty (by decide +kernel), _, rfl, ?_⟩
    refine ⟨_, rfl, _, rfl, L, _, rfl, .of hLr, fun S H2 nS s2 hS _ => ?_⟩
    have ec : cutV rvs none (some 200) = rvs := cut_all (n := 200) (by rw [aR.1]; exact l2)
    rw [ec] at hS
    have nSD : S ≠ D := Ne.symm (ne_of_none hD nS)
    have k02 : Ke Nof H H2 := (Ke.same s1).trans (.same s2)
    refine ⟨S, rfl, ⟨_, .of hS⟩, for_list (K := K) (a := S) (xs := rvs) (Pv := fun i σ H' => ∃ y3 y4 : Option V, σ = [some b, some (.ref L), some (.ref D), y3, y4] ∧ Ke Nof H H' ∧ H' S = some (.lst rvs) ∧ ClL H' D (cls.take i)) ?_ (fun i σ H' _ p => ?_) ?_ ?_⟩
    · exact ⟨none, none, rfl, k02, hS, [], s2 _ _ hD, .nil⟩
    · obtain ⟨_, _, _, _, h, _⟩ := p
      exact .of h
    · rintro i v σ H3 hv ⟨y3, y4, rfl, k3, hS3, dvs, hD3, aD⟩
      obtain ⟨r, hr', -⟩ := aR.at hv
      have lr := (List.getElem?_eq_some_iff.mp hr').1
      have lc : i < cls.length := by omega
      have rc := x.ld.2 i r cls[i] hr' (List.getElem?_eq_getElem lc)
      have rowv : RowAt H3 v r := by
        obtain ⟨vs0, hL0, a0⟩ := x.rw
        have e0 := s1 _ _ hL0
        rw [hLr] at e0
        cases e0
        exact (a0.2 i v r hv hr').ke k3
      refine ⟨_, rfl, _, rfl, _, rfl, b, v, D, css, cls.take i, r, rfl, x.bk.ke k3, ⟨dvs, hD3, aD⟩, rowv, x.ib, fun c hc => x.ic c (List.mem_of_mem_take hc), k3.tabs _ tg, fun H4 k4 no => (no _ rc).elim, fun c p H4 k4 rc' hp => ?_⟩
      obtain rfl := rc.one rc'
      refine ⟨_, rfl, rfl, false, rfl, ?_⟩
      have hD4 := k4.lst hD3 fun z => z
      have hS4 := k4.lst hS3 fun z => z
      refine ⟨_, rfl, .inl ⟨rfl, _, .of hD4⟩, _, rfl, D, _, _, rfl, rfl, hD4, ?_, ?_⟩
      · rw [aD.1, List.length_take]
        exact small1000 (by omega)
      · refine ⟨_, _, rfl, (k3.trans k4).upd nD, by rw [upd_ne nSD]; exact hS4, ?_⟩
        rw [take_snoc (List.getElem?_eq_getElem lc)]
        exact cl_snoc hD4 (aD.imp fun _ _ t => t.ke k4) ⟨p, rfl, hp⟩
    · rintro σ H3 ⟨y3, y4, rfl, k3, _, hD3⟩
      refine ⟨_, rfl, ?_⟩
      rw [aR.1, l3, List.take_length] at hD3
      exact q D H3 nD k3 hD3
abbrev sClo : Stmt := topS 25
theorem scClo : FnScope ["book", "ladder", "claims"] ["book", "ladder"] (defScope sClo) := ⟨rfl, rfl, rfl, by decide +kernel, rfl, by decide +kernel, by decide +kernel⟩
/-- of a ladder with a row at least -/
def spClo (Po : Addr) : Sp := fun vs H Q _ => ∃ (b : V) (L : Addr) (css cls : List (List Int)) (rows : List Rw), vs = [b, .ref L] ∧ BL H b L css rows cls ∧ 0 < rows.length ∧ TabG H Po ∧ ∀ p H', H p = none → Ke Nof H H' → ClL H' p cls → Q (.ref p) H'
theorem ok_clo {f fA Po : Addr} {fd fdA : FuncData} {k : Nat} (F : Fun K "claims_of" "claims_of" sClo f fd) (T : Zp mg) (FA : Fun K "claims_ahead_of_fault" "claims_ahead_of_fault" sAhe fA fdA) (bA : Binds K fdA ["book", "thing"] []) (gA : mg "claims_ahead_of_fault" = some (.ref fA)) (GA : FnOk P w K mg base CX0 6 fA fdA ["book", "thing"] (spAhe Po)) :
    FnOk P w K mg base CX0 (k + 7) f fd ["book", "ladder"] (spClo Po) := by
  refine F.ok scClo (fun vs H Q E h => ?_) (fun cdv A outer s H vs Q E hr h => ?_)
  · obtain ⟨b, L, css, cls, rows, rfl, _⟩ := h
    rfl
  · obtain ⟨b, L, css, cls, rows, rfl, x, l0, tg, q⟩ := h
    have hr6 : Room 6 _ := hr.mono (by omega)
    refine ⟨_, (pss_cons (ps_set (i := 2) scClo.nd rfl (.inl rfl) (pe_call GA hr6 (by rfl) gA FA.kp bA .nil pass0 (pa_cons (pv 0) (pa_cons (pv 1) pa_nil))))
      (pss_cons (ps_if (PW.pt (pw_or (pt_cmpR op_eq (pe_callB call_len_seq (by rfl) T.z_len (by decide +kernel) (pa_cons (pv 2) pa_nil)) pe_int (nomark _)) (pw_or1 (pt_cmpR op_lt (pe_callB call_len_seq (by rfl) T.z_len (by decide +kernel) (pa_cons (pv 2) pa_nil)) (pe_callB call_len_seq (by rfl) T.z_len (by decide +kernel) (pa_cons (pv 1) pa_nil)) (nomark _))))) pss_never pss_nil)
      (pss_one (ps_ret (pv 2))))), ?_⟩
    refine ⟨_, rfl, _, rfl, b, L, css, cls, rows, rfl, x, tg, fun p H1 np k1 hp => ?_⟩
    obtain ⟨pvs, hp1, aP⟩ := id hp
    obtain ⟨rvs, hLr, aR⟩ := (x.ke k1 fun z => z).rw
    have l3 := x.ld.1
    have e1 : (pvs.length : Int) = (rvs.length : Int) := by
      have := aP.1
      have := aR.1
      omega
    refine ⟨_, rfl, p, _, rfl, .inl (.of hp1), rfl, false, ?_, ?_⟩
    · have := aP.1
      rw [decide_eq_false]
      intro z
      have := V.int.inj z
      omega
    refine ⟨_, rfl, p, _, rfl, .inl (.of hp1), _, rfl, L, _, rfl, .inl (.of hLr), _, _, rfl, rfl, false, ?_, ?_⟩
    · show V.bl (decide ((pvs.length : Int) < (rvs.length : Int))) = V.bl false
      rw [decide_eq_false (by omega)]
    exact ⟨_, rfl, q p H1 np k1 hp⟩
abbrev sIsl : Stmt := topS 24
theorem scIsl : FnScope ["book", "thing", "claims"] ["book", "thing"] (defScope sIsl) := ⟨rfl, rfl, rfl, by decide +kernel, rfl, by decide +kernel, by decide +kernel⟩
def spIsl (Po : Addr) : Sp := fun vs H Q _ => ∃ (b : V) (L : Addr) (css cls : List (List Int)) (rows : List Rw), vs = [b, .ref L] ∧ BL H b L css rows cls ∧ 0 < rows.length ∧ TabG H Po ∧ ∀ H', Ke Nof H H' → Q (.bl true) H'
theorem ok_isl {f fA Po : Addr} {fd fdA : FuncData} {k : Nat} (F : Fun K "is_ladder" "is_ladder" sIsl f fd) (T : Zp mg) (FA : Fun K "claims_ahead_of_fault" "claims_ahead_of_fault" sAhe fA fdA) (bA : Binds K fdA ["book", "thing"] []) (gA : mg "claims_ahead_of_fault" = some (.ref fA)) (GA : FnOk P w K mg base CX0 6 fA fdA ["book", "thing"] (spAhe Po)) :
    FnOk P w K mg base CX0 (k + 7) f fd ["book", "thing"] (spIsl Po) := by
  refine F.ok scIsl (fun vs H Q E h => ?_) (fun cdv A outer s H vs Q E hr h => ?_)
  · obtain ⟨b, L, css, cls, rows, rfl, _⟩ := h
    rfl
  · obtain ⟨b, L, css, cls, rows, rfl, x, l0, tg, q⟩ := h
    have hr6 : Room 6 _ := hr.mono (by omega)
    refine ⟨_, (pss_cons (ps_set (i := 2) scIsl.nd rfl (.inl rfl) (pe_call GA hr6 (by rfl) gA FA.kp bA .nil pass0 (pa_cons (pv 0) (pa_cons (pv 1) pa_nil))))
      (pss_one (ps_ret (pe_and (pe_cmpR op_gt (pe_callB call_len_seq (by rfl) T.z_len (by decide +kernel) (pa_cons (pv 2) pa_nil)) pe_int (nomark _)) (pe_one (pe_cmpR op_eq (pe_callB call_len_seq (by rfl) T.z_len (by decide +kernel) (pa_cons (pv 2) pa_nil)) (pe_callB call_len_seq (by rfl) T.z_len (by decide +kernel) (pa_cons (pv 1) pa_nil)) (nomark _))))))), ?_⟩
    refine ⟨_, rfl, _, rfl, b, L, css, cls, rows, rfl, x, tg, fun p H1 np k1 hp => ?_⟩
    obtain ⟨pvs, hp1, aP⟩ := id hp
    obtain ⟨rvs, hLr, aR⟩ := (x.ke k1 fun z => z).rw
    have l3 := x.ld.1
    have a1 := aP.1
    have a2 := aR.1
    refine ⟨_, rfl, p, _, rfl, .inl (.of hp1), _, _, rfl, rfl, true, ?_, ?_⟩
    · show V.bl (decide ((0 : Int) < (pvs.length : Int))) = V.bl true
      rw [decide_eq_true (by omega)]
    refine ⟨_, rfl, p, _, rfl, .inl (.of hp1), _, rfl, L, _, rfl, .inl (.of hLr), rfl, ?_⟩
    rw [decide_eq_true (by rw [show pvs.length = rvs.length by omega])]
    exact q H1 k1
abbrev sChk : Stmt := topS 26
theorem scChk : FnScope ["book", "ladder"] ["book", "ladder"] (defScope sChk) := ⟨rfl, rfl, rfl, by decide +kernel, rfl, by decide +kernel, by decide +kernel⟩
def spChk (Po : Addr) : Sp := fun vs H Q _ => ∃ (b : V) (L : Addr) (css cls : List (List Int)) (rows : List Rw), vs = [b, .ref L] ∧ BL H b L css rows cls ∧ 0 < rows.length ∧ TabG H Po ∧ ∀ H', Ke Nof H H' → Q .non H'
theorem ok_chk {f fL Po : Addr} {fd fdL : FuncData} {k : Nat} (F : Fun K "check_ladder" "check_ladder" sChk f fd) (FL : Fun K "claims_of" "claims_of" sClo fL fdL) (bL : Binds K fdL ["book", "ladder"] []) (gL : mg "claims_of" = some (.ref fL)) (GL : FnOk P w K mg base CX0 7 fL fdL ["book", "ladder"] (spClo Po)) :
    FnOk P w K mg base CX0 (k + 8) f fd ["book", "ladder"] (spChk Po) := by
  refine F.ok scChk (fun vs H Q E h => ?_) (fun cdv A outer s H vs Q E hr h => ?_)
  · obtain ⟨b, L, css, cls, rows, rfl, _⟩ := h
    rfl
  · obtain ⟨b, L, css, cls, rows, rfl, x, l0, tg, q⟩ := h
    have hr7 : Room 7 _ := hr.mono (by omega)
    refine ⟨_, (pss_one (ps_expr (pe_call GL hr7 (by rfl) gL FL.kp bL .nil pass0 (pa_cons (pv 0) (pa_cons (pv 1) pa_nil))))), ?_⟩
    exact ⟨_, rfl, _, rfl, b, L, css, cls, rows, rfl, x, l0, tg, fun p H1 np k1 hp => q H1 k1⟩
/-- the height of a row, of rows -/
def htOf (hs : List Int) : Rw → Int
  | .book _ => 0
  | .cut i j _ => 1 + (if hs.getD j 0 > hs.getD i 0 then hs.getD j 0 else hs.getD i 0)
def hts (rows : List Rw) : List Int := rows.foldl (fun hs r => hs ++ [htOf hs r]) []
theorem hts_snoc (rows : List Rw) (r : Rw) : hts (rows ++ [r]) = hts rows ++ [htOf (hts rows) r] := by
  unfold hts
  rw [List.foldl_append]
  rfl
theorem hts_len (rows : List Rw) : (hts rows).length = rows.length := by
  have key : ∀ (l : List Rw) (hs : List Int), (l.foldl (fun hs r => hs ++ [htOf hs r]) hs).length = hs.length + l.length := by
    intro l
    induction l with
    | nil => exact fun hs => rfl
    | cons r t ih =>
      intro hs
      rw [List.foldl_cons, ih]
      simp only [List.length_append, List.length_cons, List.length_nil]
      omega
  have := key rows []
  rw [List.length_nil, Nat.zero_add] at this
  exact this
abbrev sHor : Stmt := topS 27
theorem scHor : FnScope ["row", "heights_ahead"] ["row", "heights_ahead"] (defScope sHor) := ⟨rfl, rfl, rfl, by decide +kernel, rfl, by decide +kernel, by decide +kernel⟩
def spHor : Sp := fun vs H Q _ => ∃ (v : V) (L : Addr) (r : Rw) (hs : List Int), vs = [v, .ref L] ∧ RowAt H v r ∧ H L = some (.lst (hs.map V.int)) ∧ (∀ i j k, r = .cut i j k → i < hs.length ∧ j < hs.length) ∧ Q (.int (htOf hs r)) H
theorem ok_hor {f : Addr} {fd : FuncData} {k : Nat} (F : Fun K "height_of_row" "height_of_row" sHor f fd) (T : Zp mg) : FnOk P w K mg base CX0 (k + 1) f fd ["row", "heights_ahead"] spHor := by
  refine F.ok scHor (fun vs H Q E h => ?_) (fun cdv A outer s H vs Q E hr h => ?_)
  · obtain ⟨v, L, r, hs, rfl, _⟩ := h
    rfl
  · obtain ⟨v, L, r, hs, rfl, ⟨a, rfl, ha⟩, hL, hp, q⟩ := h
    refine ⟨_, (pss_cons (ps_if (pt_cmpR op_eq (pe_ix ix_tup (pv 0) pe_int (fun _ _ => rfl)) pe_str (nomark _)) (pss_one (ps_ret pe_int)) pss_nil)
      (pss_one (ps_ret (pe_op op_add pe_int (pe_callB (call_max2 rfl) (by rfl) T.z_max (by decide +kernel) (pa_cons (pe_ix ix_list (pv 1) (pe_ix ix_tup (pv 0) pe_int (fun _ _ => rfl)) (fun _ _ => rfl)) (pa_cons (pe_ix ix_list (pv 1) (pe_ix ix_tup (pv 0) pe_int (fun _ _ => rfl)) (fun _ _ => rfl)) pa_nil))))))), ?_⟩
    cases r with
    | book n =>
      exact ⟨_, rfl, a, _, 0, .str "book", rfl, rfl, .of ha, rfl, rfl, true, by simp, q⟩
    | cut i j k =>
      obtain ⟨li, lj⟩ := hp i j k rfl
      refine ⟨_, rfl, a, _, 0, .str "cut", rfl, rfl, .of ha, rfl, rfl, false, by simp; decide, ?_⟩
      refine ⟨_, rfl, _, rfl, a, _, 1, .int (i : Nat), rfl, rfl, .of ha, rfl, L, _, _, .int hs[i], rfl, rfl, .of hL, at_of (j := i) rfl (by rw [List.getElem?_map, List.getElem?_eq_getElem li]; rfl), ?_⟩
      refine ⟨_, rfl, _, rfl, a, _, 2, .int (j : Nat), rfl, rfl, .of ha, rfl, L, _, _, .int hs[j], rfl, rfl, .of hL, at_of (j := j) rfl (by rw [List.getElem?_map, List.getElem?_eq_getElem lj]; rfl), ?_⟩
      refine ⟨_, _, rfl, _, _, rfl, rfl, ?_⟩
      have e1 : hs.getD i 0 = hs[i] := by rw [List.getD_eq_getElem?_getD, List.getElem?_eq_getElem li]; rfl
      have e2 : hs.getD j 0 = hs[j] := by rw [List.getD_eq_getElem?_getD, List.getElem?_eq_getElem lj]; rfl
      have q : Q (.int (1 + (if hs.getD j 0 > hs.getD i 0 then hs.getD j 0 else hs.getD i 0))) H := q
      rw [e1, e2] at q
      exact q
abbrev sHei : Stmt := topS 28
theorem scHei : FnScope ["book", "ladder", "told", "row"] ["book", "ladder"] (defScope sHei) := ⟨rfl, rfl, rfl, by decide +kernel, rfl, by decide +kernel, by decide +kernel⟩
def spHei (Po : Addr) : Sp := fun vs H Q _ => ∃ (b : V) (L : Addr) (css cls : List (List Int)) (rows : List Rw), vs = [b, .ref L] ∧ BL H b L css rows cls ∧ 0 < rows.length ∧ TabG H Po ∧ ∀ p H', Frs H p → Ke Nof H H' → H' p = some (.lst ((hts rows).map V.int)) → Q (.ref p) H'
theorem Lad.parts {css cls : List (List Int)} {rows : List Rw} (h : Lad css rows cls) {n i j : Nat} {k : Int} (e : rows[n]? = some (.cut i j k)) : i < n ∧ j < n := by
  have l := (List.getElem?_eq_some_iff.mp e).1
  have l2 : n < cls.length := by rw [← h.1]; exact l
  have := (h.2 n _ _ e (List.getElem?_eq_getElem l2)).parts
  rw [List.length_take] at this
  omega
theorem ok_hei {f fK fH Po : Addr} {fd fdK fdH : FuncData} {k : Nat} (F : Fun K "heights" "heights" sHei f fd) (FK : Fun K "check_ladder" "check_ladder" sChk fK fdK) (bK : Binds K fdK ["book", "ladder"] []) (gK : mg "check_ladder" = some (.ref fK)) (GK : FnOk P w K mg base CX0 8 fK fdK ["book", "ladder"] (spChk Po))
    (FH : Fun K "height_of_row" "height_of_row" sHor fH fdH) (bH : Binds K fdH ["row", "heights_ahead"] []) (gH : mg "height_of_row" = some (.ref fH)) (GH : FnOk P w K mg base CX0 1 fH fdH ["row", "heights_ahead"] spHor) :
    FnOk P w K mg base CX0 (k + 9) f fd ["book", "ladder"] (spHei Po) := by
  refine F.ok scHei (fun vs H Q E h => ?_) (fun cdv A outer s H vs Q E hr h => ?_)
  · obtain ⟨b, L, css, cls, rows, rfl, _⟩ := h
    rfl
  · obtain ⟨b, L, css, cls, rows, rfl, x, l0, tg, q⟩ := h
    have hr8 : Room 8 _ := hr.mono (by omega)
    have hr1 : Room 1 _ := hr.mono (by omega)
    refine ⟨_, (Evl.pss_cut (ps_expr (pe_call GK hr8 (by rfl) gK FK.kp bK .nil pass0 (pa_cons (pv 0) (pa_cons (pv 1) pa_nil))))
      (Evl.pss_cut (ps_set (i := 2) scHei.nd rfl (.inl rfl) (pe_lstN pa_nil))
      (pss_cons (ps_for PassesOwn.never rfl (pi_list (pv 1)) (pg_name (i := 3) scHei.nd rfl (.inl rfl)) (pss_one (ps_expr (pe_bm PySem.F.plainAttrs_list PySem.F.slot_list_append PySem.F.type_list_append mt_append (pv 2) (pa_cons (pe_call GH hr1 (by rfl) gH FH.kp bH .nil pass0 (pa_cons (pv 3) (pa_cons (pv 2) pa_nil))) pa_nil)))))
      (pss_one (ps_ret (pv 2)))))), ?_⟩
    refine Evl.q_cut (M := fun σ' H' => σ' = [some b, some (.ref L), none, none] ∧ Ke Nof H H') ?_ ?_
    · exact ⟨_, rfl, _, rfl, b, L, css, cls, rows, rfl, x, l0, tg, fun H1 k1 => ⟨rfl, k1⟩⟩
    rintro σ' H1 ⟨rfl, k1⟩
    refine Evl.q_cut (M := fun σ' H' => ∃ D : Addr, σ' = [some b, some (.ref L), some (.ref D), none] ∧ H1 D = none ∧ Same H1 H' ∧ H' D = some (.lst [])) ?_ ?_
    · exact ⟨Nat.zero_le _, fun D H2 nD s2 hD _ => ⟨D, rfl, nD, s2, hD⟩⟩
    rintro σ' H2 ⟨D, rfl, nD, s2, hD⟩
    have k2 : Ke Nof H H2 := k1.trans (.same s2)
    obtain ⟨rvs, hLr, aR⟩ := (x.ke k2 fun z => z).rw
    have nLD : D ≠ L := fun z => by
      have := (x.ke k1 fun z => z).rw
      obtain ⟨_, h1, _⟩ := this
      rw [← z, nD] at h1
      cases h1
    have l2 := x.le
    have fr : Frs H D := .ke0 k1 (.of nD)
    refine ⟨_, rfl, L, rfl, ⟨_, .of hLr⟩, for_list (K := K) (a := L) (xs := rvs) (Pv := fun i σ H' => ∃ y3 : Option V, σ = [some b, some (.ref L), some (.ref D), y3] ∧ Ke Nof H1 H' ∧ H' D = some (.lst ((hts (rows.take i)).map V.int))) ?_ (fun i σ H' _ p => ?_) ?_ ?_⟩
    · exact ⟨none, rfl, .same s2, hD⟩
    · obtain ⟨_, _, k3, _⟩ := p
      obtain ⟨vs0, h0, a0⟩ := (x.ke k1 fun z => z).rw
      have e0 := s2 _ _ h0
      rw [hLr] at e0
      cases e0
      exact .of (k3.lst h0 fun z => z)
    · rintro i v σ H3 hv ⟨y3, rfl, k3, hD3⟩
      obtain ⟨vs0, h0, a0⟩ := (x.ke k1 fun z => z).rw
      have e0 := s2 _ _ h0
      rw [hLr] at e0
      cases e0
      obtain ⟨r, hr', rv⟩ := a0.at hv
      have hl := hts_len (rows.take i)
      have lr := (List.getElem?_eq_some_iff.mp hr').1
      rw [List.length_take] at hl
      refine ⟨_, rfl, .inl ⟨rfl, _, .of hD3⟩, _, rfl, _, rfl, v, D, r, _, rfl, rv.ke k3, hD3, fun a b' k' e => ?_, ?_⟩
      · subst e
        have := Lad.parts x.ld hr'
        omega
      · refine ⟨D, _, _, rfl, rfl, hD3, by rw [List.length_map]; exact small1000 (by omega), ?_⟩
        refine ⟨_, rfl, k3.upd nD, ?_⟩
        rw [upd_same, take_snoc hr', hts_snoc, List.map_append]
        rfl
    · rintro σ H3 ⟨y3, rfl, k3, hD3⟩
      refine ⟨_, rfl, ?_⟩
      rw [aR.1, List.take_length] at hD3
      exact q D H3 fr (k1.trans k3) hD3
end
end Lp
namespace Ll
open PySem PySem.Spec PyProof.Rows L2 GxR Nw Dr Kp Se Cl Ct Lr Lp
structure Zy (mg : Str → Option Value) : Prop where
  z_len : mg "len" = none
  z_isinstance : mg "isinstance" = none
  z_tuple : mg "tuple" = none
  z_int : mg "int" = none
  z_bool : mg "bool" = none
  z_all : mg "all" = none
  z_min : mg "min" = none
  z_max : mg "max" = none
  z_range : mg "range" = none
/-- a row as data -/
def dat : Rw → PyData
  | .book n => .tuple [.str "book", .int (n : Nat)]
  | .cut i j k => .tuple [.str "cut", .int (i : Nat), .int (j : Nat), .int k]
theorem dp_row {K : PySem.W.Frag} {H : Hp} {v : V} {r : Rw} (h : RowAt H v r) : Dp K H v (dat r) := by
  obtain ⟨a, rfl, h⟩ := h
  cases r with
  | book n => exact .tup (.of h) (.cons (.str _) (.cons (.int _) .nil))
  | cut i j k => exact .tup (.of h) (.cons (.str _) (.cons (.int _) (.cons (.int _) (.cons (.int _) .nil))))
theorem dp_rows {K : PySem.W.Frag} {H : Hp} : ∀ {vs : List V} {rows : List Rw}, All2 (RowAt H) vs rows → DpAll K H vs (rows.map dat)
  | [], [], _ => .nil
  | [], r :: t, h => by cases h.1
  | v :: t, [], h => by cases h.1
  | v :: t, r :: u, h => .cons (dp_row (h.2 0 v r rfl rfl)) (dp_rows ⟨by have := h.1; simp only [List.length_cons] at this; omega, fun i x y h1 h2 => h.2 (i + 1) x y h1 h2⟩)
theorem lay_rows : ∀ rows : List Rw, PyData.canLayAll0 (rows.map dat) = true ∧ PyData.depthAll (rows.map dat) ≤ 3
  | [] => ⟨rfl, by decide⟩
  | r :: t => by
    obtain ⟨h1, h2⟩ := lay_rows t
    refine ⟨?_, ?_⟩
    · show (PyData.canLay0 (dat r) && PyData.canLayAll0 (t.map dat)) = true
      rw [h1]
      have b1 : PyData.strOk "book" = true := by decide +kernel
      have b2 : PyData.strOk "cut" = true := by decide +kernel
      cases r <;> simp [dat, PyData.canLay0, PyData.canLayAll0, b1, b2]
    · show Nat.max (PyData.depth (dat r)) (PyData.depthAll (t.map dat)) ≤ 3
      refine Nat.max_le.mpr ⟨?_, h2⟩
      cases r <;> simp [dat, PyData.depth, PyData.depthAll]
theorem shaped_rows (rows : List Rw) : SeqAt.shaped (.list (rows.map dat)) = true := by
  obtain ⟨h1, h2⟩ := lay_rows rows
  show (PyData.canLayAll0 (rows.map dat) && decide (PyData.depthAll (rows.map dat) + 1 ≤ 64)) = true
  rw [h1, decide_eq_true (by omega)]
  rfl
section
variable {P : Program} {w : World} {K : PySem.W.Frag} {mg : Str → Option Value} {base : Heap}
abbrev sSwh : Stmt := topS 70
theorem scSwh : FnScope ["thing"] ["thing"] (defScope sSwh) := ⟨rfl, rfl, rfl, by decide +kernel, rfl, by decide +kernel, by decide +kernel⟩
theorem ok_swh {f : Addr} {fd : FuncData} {k : Nat} (F : Fun K "_law_swhole" "_law_swhole" sSwh f fd) (T : Zy mg) : FnOk P w K mg base CX0 (k + 1) f fd ["thing"] spWho := by
  refine F.ok scSwh (fun vs H Q E h => ?_) (fun cdv A outer s H vs Q E hr h => ?_)
  · obtain ⟨k, rfl, _⟩ := h
    rfl
  · obtain ⟨k, rfl, q⟩ := h
    refine ⟨_, (pss_one (ps_ret (pe_and (pe_callB call_isi (by rfl) T.z_isinstance (by decide +kernel) (pa_cons (pv 0) (pa_cons (pe_bltn (v := .ty "int") (u := .type "int") (by rfl) T.z_int (by decide +kernel) rfl) pa_nil))) (pe_one (pe_not (pe_callB call_isi (by rfl) T.z_isinstance (by decide +kernel) (pa_cons (pv 0) (pa_cons (pe_bltn (v := .ty "bool") (u := .type "bool") (by rfl) T.z_bool (by decide +kernel) rfl) pa_nil)))))))), ?_⟩
    refine ⟨_, rfl, .int k, .ty "int", .type "int", .type "int", true, rfl, .ty _, .base (.int k), kit_ty (by decide +kernel), _, rfl, ?_⟩
    refine ⟨_, rfl, .int k, .ty "bool", .type "int", .type "bool", false, rfl, .ty _, .base (.int k), kit_ty (by decide +kernel), _, rfl, q⟩
abbrev sSrw : Stmt := topS 75
abbrev nSrw : List Str := ["book", "claims", "row", "part"]
theorem scSrw : FnScope nSrw ["book", "claims", "row"] (defScope sSrw) := ⟨rfl, rfl, rfl, by decide +kernel, rfl, by decide +kernel, by decide +kernel⟩
def spSrw : Sp := fun vs H Q _ => ∃ (b v : V) (L : Addr) (css cls : List (List Int)) (r : Rw), vs = [b, .ref L, v] ∧ Bk H b css ∧ ClL H L cls ∧ RowAt H v r ∧ (∀ c ∈ css, IsCl c) ∧ (∀ c ∈ cls, IsCl c) ∧
  (∀ H', Same H H' → (∀ c, ¬ RowCl css cls r c) → Q .non H') ∧ ∀ (c : List Int) (p : Addr) (H' : Hp), Same H H' → RowCl css cls r c → H' p = some (.tup (c.map V.int)) → Q (.ref p) H'
theorem Rw.tail (r : Rw) : ∃ ns : List Int, r.vs = r.vs.headD .non :: ns.map V.int ∧ ns.length ≤ 3 := by
  cases r with
  | book n => exact ⟨[(n : Nat)], rfl, by simp⟩
  | cut i j k => exact ⟨[(i : Nat), (j : Nat), k], rfl, by simp⟩
theorem cut_1 (x : V) (xs : List V) : cutV (x :: xs) (some 1) none = xs := by
  unfold cutV
  have e : (1 : Int) = ((1 : Nat) : Int) := rfl
  rw [HT.sIx_none, e, HT.sIx_nat]
  simp
theorem cut_13 (x : V) (a b c : V) : cutV [x, a, b, c] (some 1) (some 3) = [a, b] := by
  unfold cutV
  have e : (1 : Int) = ((1 : Nat) : Int) := rfl
  have e3 : (3 : Int) = ((3 : Nat) : Int) := rfl
  rw [e, e3, HT.sIx_nat, HT.sIx_nat]
  rfl
theorem ok_srw {f fW fC : Addr} {fd fdW fdC : FuncData} {k : Nat} (F : Fun K "_law_srow" "_law_srow" sSrw f fd) (T : Zy mg) (FW : Fun K "_law_swhole" "_law_swhole" sSwh fW fdW) (bW : Binds K fdW ["thing"] []) (gW : mg "_law_swhole" = some (.ref fW)) (GW : FnOk P w K mg base CX0 1 fW fdW ["thing"] spWho)
    (FC : Fun K "_law_scut" "_law_scut" sSct fC fdC) (bC : Binds K fdC ["one", "other", "k"] []) (gC : mg "_law_scut" = some (.ref fC)) (GC : FnOk P w K mg base CX0 1 fC fdC ["one", "other", "k"] spSct) :
    FnOk P w K mg base CX0 (k + 2) f fd ["book", "claims", "row"] spSrw := by
  refine F.ok scSrw (fun vs H Q E h => ?_) (fun cdv A outer s H vs Q E hr h => ?_)
  · obtain ⟨b, v, L, css, cls, r, rfl, _⟩ := h
    rfl
  · obtain ⟨b, v, L, css, cls, r, rfl, hb, ⟨lvs, hL, aL⟩, ⟨a, rfl, ha⟩, ib, ic, q1, q2⟩ := h
    have hr1 : Room 1 _ := hr.mono (by omega)
    have hu : (A.deeper (envOfC "_law_srow" (defScope sSrw) s.heap.objs.size f cdv)).units + 70 < cLine := by
      have := hr.un
      omega
    refine ⟨_, (pss_cons (ps_if (PW.pt (pw_or (pt_not (pt_val (pe_callB call_isi (by rfl) T.z_isinstance (by decide +kernel) (pa_cons (pv 2) (pa_cons (pe_bltn (v := .ty "tuple") (u := .type "tuple") (by rfl) T.z_tuple (by decide +kernel) rfl) pa_nil))))) (pw_or1 (pt_cmpR op_lt (pe_callB call_len_seq (by rfl) T.z_len (by decide +kernel) (pa_cons (pv 2) pa_nil)) pe_int (nomark _))))) pss_never pss_nil)
      (Evl.pss_cut (ps_if (pt_not (pt_val (pe_callB (cr_all rfl) (by rfl) T.z_all (by decide +kernel) (pa_cons (pe_lc (own := [("part", 3)]) (g := (gName 3)) (tt := tYes) rfl scSrw.nd (pi_tup (pe_slice sl_tupN (pv 2) (po_some pe_int) po_none)) (blkOk_by (N := nSrw) (sc := defScope sSrw) (by decide +kernel)) (fun _ _ _ _ _ => (pg_name (i := 3) scSrw.nd rfl (.inl rfl))) (fun _ _ _ _ _ => pts_nil) (fun _ _ _ _ _ => (pe_call GW hr1 (by rfl) gW FW.kp bW .nil pass0 (pa_cons (pv 3) pa_nil)))) pa_nil)))) pss_never pss_nil)
      (pss_cons (ps_if (PW.pt (pw_and (pt_cmpR op_eq (pe_ix ix_tup (pv 2) pe_int (fun _ _ => rfl)) pe_str (nomark _)) (pw_and (pt_cmpR op_eq (pe_callB call_len_seq (by rfl) T.z_len (by decide +kernel) (pa_cons (pv 2) pa_nil)) pe_int (nomark _)) (pw_and1 (pt_chain op_le op_lt pe_int (pe_ix ix_tup (pv 2) pe_int (fun _ _ => rfl)) (pe_callB call_len_seq (by rfl) T.z_len (by decide +kernel) (pa_cons (pv 0) pa_nil))))))) (pss_one (ps_ret (pe_ix ix_tup (pv 0) (pe_ix ix_tup (pv 2) pe_int (fun _ _ => rfl)) (fun _ _ => rfl)))) pss_nil)
      (pss_cons (ps_if (PW.pt (pw_or (pt_cmpR op_ne (pe_ix ix_tup (pv 2) pe_int (fun _ _ => rfl)) pe_str (nomark _)) (pw_or (pt_cmpR op_ne (pe_callB call_len_seq (by rfl) T.z_len (by decide +kernel) (pa_cons (pv 2) pa_nil)) pe_int (nomark _)) (pw_or (pt_cmpR op_lt (pe_callB (Lr.cr_minT rfl hu) (by rfl) T.z_min (by decide +kernel) (pa_cons (pe_slice sl_tupN (pv 2) (po_some pe_int) (po_some pe_int)) pa_nil)) pe_int (nomark _)) (pw_or1 (pt_cmpR op_ge (pe_callB (Lr.cr_maxT rfl hu) (by rfl) T.z_max (by decide +kernel) (pa_cons (pe_slice sl_tupN (pv 2) (po_some pe_int) (po_some pe_int)) pa_nil)) (pe_callB call_len_seq (by rfl) T.z_len (by decide +kernel) (pa_cons (pv 1) pa_nil)) (nomark _))))))) (pss_one (ps_ret pe_non)) pss_nil)
      (pss_one (ps_ret (pe_call GC hr1 (by rfl) gC FC.kp bC .nil pass0 (pa_cons (pe_ix ix_list (pv 1) (pe_ix ix_tup (pv 2) pe_int (fun _ _ => rfl)) (fun _ _ => rfl)) (pa_cons (pe_ix ix_list (pv 1) (pe_ix ix_tup (pv 2) pe_int (fun _ _ => rfl)) (fun _ _ => rfl)) (pa_cons (pe_ix ix_tup (pv 2) pe_int (fun _ _ => rfl)) pa_nil)))))))))), ?_⟩
    obtain ⟨b, bvs, rfl, hbt, aB⟩ := bk_all hb
    refine ⟨_, rfl, .ref a, .ty "tuple", .type "tuple", .type "tuple", true, rfl, .ty _, .base (.tup ha), kit_ty (by decide +kernel), _, rfl, ?_⟩
    refine ⟨_, rfl, a, _, rfl, .inr (.of ha), _, _, rfl, rfl, false, ?_, ?_⟩
    · cases r <;> rfl
    refine Evl.q_cut (M := fun σ' H' => σ' = [some (.ref b), some (.ref L), some (.ref a), none] ∧ Same H H') ?_ ?_
    · obtain ⟨ns, en, ln⟩ := Rw.tail r
      refine ⟨_, rfl, _, rfl, a, _, rfl, ha, fun p H1 s1 hp => ?_⟩
      rw [en, cut_1] at hp
      refine ⟨p, rfl, ⟨_, .of hp⟩, fun D nD => ?_⟩
      refine lc_tup (xs := ns.map V.int) (Pv := fun i H' => Same H1 H' ∧ H' D = some (.lst ((List.replicate i true).map V.bl))) ⟨same_new nD, upd_same⟩ (fun i H' _ z => .of (z.1 _ _ hp)) ?_ ?_
      · rintro i x H2 hx ⟨s2, hD⟩
        obtain ⟨z, hz, rfl⟩ := at_int hx
        have lz := (List.getElem?_eq_some_iff.mp hz).1
        refine ⟨rfl, _, rfl, z, rfl, _, hD, ?_, fun c o y => ?_, ?_⟩
        · rw [List.length_map, List.length_replicate]
          exact small1000 (by omega)
        · rw [upd_ne (ne_of_none y nD)]
          exact s2 _ _ y
        · rw [upd_same, List.replicate_succ', List.map_append]
          rfl
      · rintro H2 ⟨s2, hD⟩
        refine ⟨D, _, rfl, .of hD, _, rfl, ?_⟩
        have e : (List.replicate (ns.map V.int).length true).all id = true := by
          rw [List.all_eq_true]
          intro x hx
          rw [List.eq_of_mem_replicate hx]
          rfl
        rw [e]
        exact ⟨rfl, s1.trans s2⟩
    rintro σ' H1 ⟨rfl, s1⟩
    have ha1 := s1 _ _ ha
    have hb1 := s1 _ _ hbt
    have hL1 := s1 _ _ hL
    cases r with
    | book n =>
      refine ⟨_, rfl, a, _, 0, .str "book", rfl, rfl, .of ha1, rfl, rfl, true, by simp, ?_⟩
      refine ⟨_, rfl, a, _, rfl, .inr (.of ha1), rfl, true, rfl, ?_⟩
      refine ⟨_, rfl, a, _, 1, .int (n : Nat), rfl, rfl, .of ha1, rfl, 0, _, rfl, rfl, decide ((0 : Int) ≤ (n : Nat)), rfl, ?_⟩
      rw [decide_eq_true (by omega)]
      refine ⟨_, rfl, b, _, rfl, .inr (.of hb1), _, _, rfl, rfl, _, rfl, ite2 (fun y => ?_) (fun y => ?_)⟩
      · have lt : n < bvs.length := by
          have := of_decide_eq_true y
          omega
        obtain ⟨c, hc, p, e, hp⟩ := aB.at (List.getElem?_eq_getElem lt)
        refine ⟨_, rfl, _, rfl, a, _, 1, .int (n : Nat), rfl, rfl, .of ha1, rfl, b, bvs, _, .ref p, rfl, rfl, .of hb1, at_of (j := n) rfl (by rw [List.getElem?_eq_getElem lt, e]), ?_⟩
        exact q2 c p H1 s1 hc (s1 _ _ hp)
      · refine ⟨_, rfl, a, _, 0, .str "book", rfl, rfl, .of ha1, rfl, rfl, true, by simp; decide, ?_⟩
        refine q1 H1 s1 fun c hc => ?_
        have h1 := (List.getElem?_eq_some_iff.mp hc).1
        have h2 := aB.1
        exact y (decide_eq_true (by omega))
    | cut i j k =>
      refine ⟨_, rfl, a, _, 0, .str "cut", rfl, rfl, .of ha1, rfl, rfl, false, by simp; decide, ?_⟩
      refine ⟨_, rfl, a, _, 0, .str "cut", rfl, rfl, .of ha1, rfl, rfl, false, by simp, ?_⟩
      refine ⟨_, rfl, a, _, rfl, .inr (.of ha1), rfl, false, rfl, ?_⟩
      refine ⟨_, rfl, _, rfl, _, rfl, a, _, rfl, ha1, fun p1 H2 s2 hp1 => ?_⟩
      rw [show cutV (Rw.cut i j k).vs (some 1) (some 3) = [.int (i : Nat), .int (j : Nat)] from cut_13 _ _ _ _] at hp1
      refine ⟨p1, _, _, rfl, .of hp1, _, _, rfl, rfl, false, ?_, ?_⟩
      · show V.bl (decide ((if ((j : Nat) : Int) < ((i : Nat) : Int) then ((j : Nat) : Int) else ((i : Nat) : Int)) < 0)) = V.bl false
        rw [decide_eq_false]
        split <;> omega
      have ha2 := s2 _ _ ha1
      have hL2 := s2 _ _ hL1
      refine ⟨_, rfl, _, rfl, _, rfl, a, _, rfl, ha2, fun p2 H3 s3 hp2 => ?_⟩
      rw [show cutV (Rw.cut i j k).vs (some 1) (some 3) = [.int (i : Nat), .int (j : Nat)] from cut_13 _ _ _ _] at hp2
      have ha3 := s3 _ _ ha2
      have hL3 := s3 _ _ hL2
      have s13 := s1.trans (s2.trans s3)
      refine ⟨p2, _, _, rfl, .of hp2, _, rfl, L, _, rfl, .inl (.of hL3), _, _, rfl, rfl, _, rfl, ite2 (fun y => ?_) (fun y => ?_)⟩
      · refine q1 H3 s13 fun c hc => ?_
        have y : (lvs.length : Int) ≤ (if (i : Int) < (j : Int) then (j : Int) else (i : Int)) := of_decide_eq_true y
        have h1 := hc.parts
        have h2 := aL.1
        split at y <;> omega
      · have y : ¬ (lvs.length : Int) ≤ (if (i : Int) < (j : Int) then (j : Int) else (i : Int)) := of_decide_eq_false (Bool.eq_false_iff.mpr y)
        have li : i < lvs.length := by
          split at y <;> omega
        have lj : j < lvs.length := by
          split at y <;> omega
        obtain ⟨ci, hci, ti⟩ := aL.at (List.getElem?_eq_getElem li)
        obtain ⟨cj, hcj, tj⟩ := aL.at (List.getElem?_eq_getElem lj)
        have z1 := (ic ci (List.mem_of_getElem? hci)).len
        have z2 := (ic cj (List.mem_of_getElem? hcj)).len
        have k13 : Ke Nof H H3 := .same s13
        refine ⟨_, rfl, _, rfl, a, _, 1, .int (i : Nat), rfl, rfl, .of ha3, rfl, L, lvs, _, lvs[i], rfl, rfl, .of hL3, at_of (j := i) rfl (List.getElem?_eq_getElem li), ?_⟩
        refine ⟨_, rfl, _, rfl, a, _, 2, .int (j : Nat), rfl, rfl, .of ha3, rfl, L, lvs, _, lvs[j], rfl, rfl, .of hL3, at_of (j := j) rfl (List.getElem?_eq_getElem lj), ?_⟩
        refine ⟨_, rfl, a, _, 3, .int k, rfl, rfl, .of ha3, rfl, lvs[i], lvs[j], k, ci, cj, rfl, ti.ke k13, tj.ke k13, by omega, by omega, fun H' s' no => ?_, fun ns p H' s' a1 a2 a3 a4 up me hp => ?_⟩
        · refine q1 H' (s13.trans s') fun c hc => ?_
          obtain ⟨x, y', h1, h2, h3⟩ := hc
          cases hci.symm.trans h1
          cases hcj.symm.trans h2
          exact h3.no no
        · exact q2 ns p H' (s13.trans s') ⟨ci, cj, hci, hcj, a1, a2, a3, a4, up, me⟩ hp
end
end Ll
namespace Ll
open PySem PySem.Spec PyProof.Rows L2 GxR Nw Dr Kp Se Cl Ct Lr Lp
section
variable {P : Program} {w : World} {K : PySem.W.Frag} {mg : Str → Option Value} {base : Heap}
abbrev sSwy : Stmt := topS 78
abbrev nSwy : List Str := ["book", "claims", "i", "j", "some", "k", "row"]
theorem scSwy : FnScope nSwy ["book", "claims", "i", "j"] (defScope sSwy) := ⟨rfl, rfl, rfl, by decide +kernel, rfl, by decide +kernel, by decide +kernel⟩
/-- the ways to cut two rows -/
def spSwy : Sp := fun vs H Q _ => ∃ (b : V) (L : Addr) (i j : Nat) (css cls : List (List Int)), vs = [b, .ref L, .int (i : Nat), .int (j : Nat)] ∧ Bk H b css ∧ ClL H L cls ∧ (∀ c ∈ css, IsCl c) ∧ (∀ c ∈ cls, IsCl c) ∧
  ∀ (p : Addr) (rows : List Rw) (H' : Hp), Same H H' → RwL H' p rows → rows.length ≤ 16 → (∀ r ∈ rows, ∃ c, RowCl css cls r c) → Q (.ref p) H'
theorem RwL.same {H H' : Hp} {p : Addr} {rows : List Rw} (h : RwL H p rows) (s : Same H H') : RwL H' p rows := h.ke (Ke.same (F := Nof) s) fun z => z
theorem rw_snoc {H : Hp} {D : Addr} {vs : List V} {rows : List Rw} {x : V} {r : Rw} (hD : H D = some (.lst vs)) (h : All2 (RowAt H) vs rows) (hx : RowAt H x r) : RwL (upd H D (.lst (vs ++ [x]))) D (rows ++ [r]) :=
  ⟨_, upd_same, (h.imp fun _ _ r => RowAt.wr r hD).snoc (RowAt.wr hx hD)⟩
theorem ok_swy {f fR : Addr} {fd fdR : FuncData} {k : Nat} (F : Fun K "_law_sways" "_law_sways" sSwy f fd) (T : Zy mg) (FR : Fun K "_law_srow" "_law_srow" sSrw fR fdR) (bR : Binds K fdR ["book", "claims", "row"] []) (gR : mg "_law_srow" = some (.ref fR)) (GR : FnOk P w K mg base CX0 2 fR fdR ["book", "claims", "row"] spSrw) :
    FnOk P w K mg base CX0 (k + 3) f fd ["book", "claims", "i", "j"] spSwy := by
  refine F.ok scSwy (fun vs H Q E h => ?_) (fun cdv A outer s H vs Q E hr h => ?_)
  · obtain ⟨b, L, i, j, css, cls, rfl, _⟩ := h
    rfl
  · obtain ⟨b, L, i, j, css, cls, rfl, hb, hL, ib, ic, q⟩ := h
    have hr2 : Room 2 _ := hr.mono (by omega)
    refine ⟨_, (Evl.pss_cut (ps_setLc (i := 4) (own := [("k", 5)]) (g := (gName 5)) (tt := tYes) rfl scSwy.nd rfl rfl (sw_true rfl rfl rfl (by decide +kernel)) (pi_range2 (by rfl) T.z_range (pa_cons pe_int (pa_cons pe_int pa_nil))) (blkOk_by (N := nSwy) (sc := defScope sSwy) (by decide +kernel)) (fun _ _ _ _ _ => (pg_name (i := 5) scSwy.nd rfl (.inl rfl))) (fun _ _ _ _ _ => pts_nil) (fun _ _ _ _ _ => (pe_tupN (pa_cons pe_str (pa_cons (pv 2) (pa_cons (pv 3) (pa_cons (pv 5) pa_nil)))))))
      (Evl.pss_cut (ps_set (i := 4) scSwy.nd rfl (.inl rfl) (pe_op op_catN (pv 4) (pe_lc (own := [("k", 5)]) (g := (gName 5)) (tt := tYes) rfl scSwy.nd (pi_range2 (by rfl) T.z_range (pa_cons pe_int (pa_cons pe_int pa_nil))) (blkOk_by (N := nSwy) (sc := defScope sSwy) (by decide +kernel)) (fun _ _ _ _ _ => (pg_name (i := 5) scSwy.nd rfl (.inl rfl))) (fun _ _ _ _ _ => pts_nil) (fun _ _ _ _ _ => (pe_tupN (pa_cons pe_str (pa_cons (pv 3) (pa_cons (pv 2) (pa_cons (pv 5) pa_nil)))))))))
      (pss_one (ps_ret (pe_lc (own := [("row", 6)]) (g := (gName 6))  rfl scSwy.nd (pi_list (pv 4)) (blkOk_by (N := nSwy) (sc := defScope sSwy) (by decide +kernel)) (fun _ _ _ _ _ => (pg_name (i := 6) scSwy.nd rfl (.inl rfl))) (fun _ _ _ _ _ => (pts_one (pt_cmpR op_notN (pe_call GR hr2 (by rfl) gR FR.kp bR .nil pass0 (pa_cons (pv 0) (pa_cons (pv 1) (pa_cons (pv 6) pa_nil)))) pe_non (nomark _)))) (fun _ _ _ _ _ => (pv 6))))))), ?_⟩
    have step : ∀ (D : Addr) (H0 H2 : Hp) (rows : List Rw) (i j : Nat) (x : V) (k : Int) (vs : List V), H0 D = none → Same H0 H2 → H2 D = some (.lst vs) → All2 (RowAt H2) vs rows → rows.length ≤ 8 → ∀ (p : Addr) (H3 : Hp), Same H2 H3 → H3 p = some (.tup [.str "cut", .int (i : Nat), .int (j : Nat), .int k]) →
        H3 D = some (.lst vs) ∧ vs.length < sizeLine ∧ Same H0 (upd H3 D (.lst (vs ++ [.ref p]))) ∧ RwL (upd H3 D (.lst (vs ++ [.ref p]))) D (rows ++ [.cut i j k]) := fun D H0 H2 rows i j x k vs nD s2 hD aD l8 p H3 s3 hp => by
      have hD3 := s3 _ _ hD
      refine ⟨hD3, small1000 (by have := aD.1; omega), fun c o y => ?_, rw_snoc hD3 (aD.imp fun _ _ r => r.ke (Ke.same (F := Nof) s3)) ⟨p, rfl, hp⟩⟩
      rw [upd_ne (ne_of_none y nD)]
      exact (s2.trans s3) _ _ y
    refine Evl.q_cut (M := fun σ' H' => ∃ (D : Addr) (rows : List Rw), σ' = [some b, some (.ref L), some (.int (i : Nat)), some (.int (j : Nat)), some (.ref D), none, none] ∧ Same H H' ∧ RwL H' D rows ∧ rows.length ≤ 8) ?_ ?_
    · refine ⟨1, 9, rfl, ⟨by decide, by decide, by decide, by decide⟩, fun D nD => ?_⟩
      refine lc_range (Pv := fun t H' => Same H H' ∧ ∃ rows, RwL H' D rows ∧ rows.length = t) ⟨same_new nD, [], ⟨[], upd_same, .nil⟩, rfl⟩ ?_ ?_
      · rintro t H2 ht ⟨s2, rows, ⟨vs, hD, aD⟩, lr⟩
        have ht : t < 8 := ht
        refine ⟨rfl, _, rfl, _, rfl, _, rfl, by show 4 ≤ sizeLine; decide, fun p H3 np s3 hp _ => ?_⟩
        obtain ⟨h1, h2, h3, h4⟩ := step D H H2 rows i j .non _ vs nD s2 hD aD (by omega) p H3 s3 hp
        exact ⟨_, h1, h2, h3, _, h4, by rw [List.length_append, lr]; rfl⟩
      · rintro H2 ⟨s2, rows, hD, lr⟩
        exact ⟨D, rows, rfl, s2, hD, Nat.le_of_eq lr⟩
    rintro σ' H1 ⟨D1, rows1, rfl, s1, hD1, lr1⟩
    refine Evl.q_cut (M := fun σ' H' => ∃ (D : Addr) (rows : List Rw), σ' = [some b, some (.ref L), some (.int (i : Nat)), some (.int (j : Nat)), some (.ref D), none, none] ∧ Same H H' ∧ RwL H' D rows ∧ rows.length ≤ 16) ?_ ?_
    · refine ⟨_, rfl, 1, 9, rfl, ⟨by decide, by decide, by decide, by decide⟩, fun D nD => ?_⟩
      refine lc_range (Pv := fun t H' => Same H1 H' ∧ ∃ rows, RwL H' D rows ∧ rows.length = t) ⟨same_new nD, [], ⟨[], upd_same, .nil⟩, rfl⟩ ?_ ?_
      · rintro t H2 ht ⟨s2, rows, ⟨vs, hD, aD⟩, lr⟩
        have ht : t < 8 := ht
        refine ⟨rfl, _, rfl, _, rfl, _, rfl, by show 4 ≤ sizeLine; decide, fun p H3 np s3 hp _ => ?_⟩
        obtain ⟨h1, h2, h3, h4⟩ := step D H1 H2 rows j i .non _ vs nD s2 hD aD (by omega) p H3 s3 hp
        exact ⟨_, h1, h2, h3, _, h4, by rw [List.length_append, lr]; rfl⟩
      · rintro H2 ⟨s2, rows, ⟨vs, hD, aD⟩, lr⟩
        have lr : rows.length = 8 := lr
        obtain ⟨vs1, hd1, a1⟩ := RwL.same hD1 s2
        have l1 := a1.1
        have l2 := aD.1
        refine ⟨D1, D, _, _, rfl, rfl, hd1, hD, Nat.le_trans (by omega : _ ≤ 1000) (by decide), fun p H3 np s3 hp _ => ?_⟩
        refine ⟨p, rows1 ++ rows, rfl, s1.trans (s2.trans s3), ⟨_, hp, ?_⟩, by rw [List.length_append]; omega⟩
        exact (a1.imp fun _ _ r => r.ke (Ke.same (F := Nof) s3)).cat (aD.imp fun _ _ r => r.ke (Ke.same (F := Nof) s3))
    clear hD1 lr1
    rintro σ' H2 ⟨D2, rows2, rfl, s2, ⟨vs2, hD2, a2⟩, lr2⟩
    have hb2 := hb.ke (Ke.same (F := Nof) s2)
    have hL2 := hL.ke (Ke.same (F := Nof) s2) fun z => z
    refine ⟨_, rfl, D2, rfl, ⟨_, .of hD2⟩, fun D nD => ?_⟩
    refine lc_list (xs := vs2) (Pv := fun t H' => Same H2 H' ∧ ∃ rows, RwL H' D rows ∧ rows.length ≤ t ∧ ∀ r ∈ rows, ∃ c, RowCl css cls r c) ⟨same_new nD, [], ⟨[], upd_same, .nil⟩, Nat.le_refl _, fun r h => nomatch h⟩ (fun t H' _ z => .of (z.1 _ _ hD2)) ?_ ?_
    · rintro t v H3 hv ⟨s3, rows, ⟨vs, hD, aD⟩, lr, ok⟩
      obtain ⟨r, hr', rv⟩ := a2.at hv
      have lt := (List.getElem?_eq_some_iff.mp hr').1
      have k3 : Ke Nof H2 H3 := .same s3
      refine ⟨rfl, _, rfl, _, rfl, _, rfl, b, v, L, css, cls, r, rfl, hb2.ke k3, hL2.ke k3 fun z => z, rv.ke k3, ib, ic, fun H4 s4 no => ?_, fun c p H4 s4 rc hp => ?_⟩
      · refine ⟨rfl, false, rfl, ?_⟩
        exact ⟨s3.trans s4, rows, RwL.same ⟨vs, hD, aD⟩ s4, by omega, ok⟩
      · refine ⟨rfl, true, rfl, ?_⟩
        have hD4 := s4 _ _ hD
        refine ⟨_, rfl, _, hD4, small1000 (by have := aD.1; omega), fun c o y => ?_, rows ++ [r], ?_, by rw [List.length_append]; show rows.length + 1 ≤ t + 1; omega, fun r' hr2 => ?_⟩
        · rw [upd_ne (ne_of_none y nD)]
          exact (s3.trans s4) _ _ y
        · exact rw_snoc hD4 (aD.imp fun _ _ r => r.ke (Ke.same (F := Nof) s4)) ((rv.ke k3).ke (Ke.same (F := Nof) s4))
        · rcases List.mem_append.mp hr2 with z | z
          · exact ok r' z
          · rw [List.mem_singleton.mp z]
            exact ⟨c, rc⟩
    · rintro H3 ⟨s3, rows, hD, lr, ok⟩
      exact q D rows H3 (s2.trans s3) hD (by have := a2.1; omega) ok
end
end Ll
namespace Ll
open PySem PySem.Spec PyProof.Rows L2 GxR Nw Dr Kp Se Cl Ct Lr Lp
section
variable {P : Program} {w : World} {K : PySem.W.Frag} {mg : Str → Option Value} {base : Heap}
abbrev sSld : Stmt := topS 81
abbrev nSld : List Str := ["feed", "book", "many", "rows", "claims", "turn", "near", "i", "j", "ways", "row"]
theorem scSld : FnScope nSld ["feed", "book", "many"] (defScope sSld) := ⟨rfl, rfl, rfl, by decide +kernel, rfl, by decide +kernel, by decide +kernel⟩
/-- rows and claims as they grow -/
structure Sv (f c R C : Addr) (rows : List Rw) (cls : List (List Int)) (B : Nat) (H H' : Hp) : Prop where
  fe : Feed H' f c B
  ke : Ke (· = f) H H'
  rw : RwL H' R rows
  cl : ClL H' C cls
theorem Sv.step {f c R C : Addr} {rows : List Rw} {cls : List (List Int)} {B B' : Nat} {H H' H'' : Hp} (x : Sv f c R C rows cls B H H') (k : Ke (· = f) H' H'') (F : Feed H'' f c B') (nR : R ≠ f) (nC : C ≠ f) : Sv f c R C rows cls B' H H'' := ⟨F, x.ke.trans k, x.rw.ke k nR, x.cl.ke k nC⟩
theorem Sv.same {f c R C : Addr} {rows : List Rw} {cls : List (List Int)} {B : Nat} {H H' H'' : Hp} (x : Sv f c R C rows cls B H H') (s : Same H' H'') (nR : R ≠ f) (nC : C ≠ f) : Sv f c R C rows cls B H H'' := x.step (.same s) (x.fe.same s) nR nC
def spSld : Sp := fun vs H Q _ => ∃ (f c : Addr) (b : V) (m : Int) (B : Nat) (css : List (List Int)), vs = [.ref f, b, .int m] ∧ 1 ≤ m ∧ m ≤ 200 ∧ Bk H b css ∧ (∀ c ∈ css, IsCl c) ∧ 1 ≤ css.length ∧ css.length ≤ 16 ∧ Feed H f c B ∧ B ≤ 2 ^ 57 ∧
  ∀ (p : Addr) (rows : List Rw) (cls : List (List Int)) (H' : Hp), Feed H' f c (B + 2000) → Ke (· = f) H H' → Frs H p → RwL H' p rows → Lad css rows cls → (rows.length : Int) = m → Q (.ref p) H'
theorem one2 {α β : Type} {R : α → β → Prop} {x : α} {y : β} (r : R x y) : All2 R [x] [y] := All2.nil.snoc r
theorem ok_sld {f fD fY fR : Addr} {fd fdD fdY fdR : FuncData} {k : Nat} (F : Fun K "_law_sladder" "_law_sladder" sSld f fd) (T : Zy mg) (FD : Fun K "_law_sdraw" "_law_sdraw" sDrw fD fdD) (bD : Binds K fdD ["feed", "many"] []) (gD : mg "_law_sdraw" = some (.ref fD)) (GD : FnOk P w K mg base CX0 2 fD fdD ["feed", "many"] spDrw)
    (FY : Fun K "_law_sways" "_law_sways" sSwy fY fdY) (bY : Binds K fdY ["book", "claims", "i", "j"] []) (gY : mg "_law_sways" = some (.ref fY)) (GY : FnOk P w K mg base CX0 3 fY fdY ["book", "claims", "i", "j"] spSwy)
    (FR : Fun K "_law_srow" "_law_srow" sSrw fR fdR) (bR : Binds K fdR ["book", "claims", "row"] []) (gR : mg "_law_srow" = some (.ref fR)) (GR : FnOk P w K mg base CX0 2 fR fdR ["book", "claims", "row"] spSrw) :
    FnOk P w K mg base CX0 (k + 4) f fd ["feed", "book", "many"] spSld := by
  refine F.ok scSld (fun vs H Q E h => ?_) (fun cdv A outer s H vs Q E hr h => ?_)
  · obtain ⟨f, c, b, m, B, css, rfl, _⟩ := h
    rfl
  · obtain ⟨f, c, b, m, B, css, rfl, m1, m2, hb, ib, c1, c2, hF, hB, q⟩ := h
    have hr2 : Room 2 _ := hr.mono (by omega)
    have hr3 : Room 3 _ := hr.mono (by omega)
    refine ⟨_, (Evl.pss_cut (ps_set (i := 3) scSld.nd rfl (.inl rfl) (pe_lstN (pa_cons (pe_tupN (pa_cons pe_str (pa_cons (pe_call GD hr2 (by rfl) gD FD.kp bD .nil pass0 (pa_cons (pv 0) (pa_cons (pe_callB call_len_seq (by rfl) T.z_len (by decide +kernel) (pa_cons (pv 1) pa_nil)) pa_nil))) pa_nil))) pa_nil)))
      (Evl.pss_cut (ps_set (i := 4) scSld.nd rfl (.inl rfl) (pe_lstN (pa_cons (pe_ix ix_tup (pv 1) (pe_ix ix_tup (pe_ix ix_list (pv 3) pe_int (fun _ _ => rfl)) pe_int (fun _ _ => rfl)) (fun _ _ => rfl)) pa_nil)))
      (pss_cons (ps_for PassesOwn.never rfl (pi_range1 (by rfl) T.z_range (pa_cons (pe_op op_sub (pv 2) pe_int) pa_nil)) (pg_name (i := 5) scSld.nd rfl (.inl rfl)) (Evl.pss_cut (ps_set (i := 6) scSld.nd rfl (.inl rfl) (pe_callB (call_min2 rfl) (by rfl) T.z_min (by decide +kernel) (pa_cons (pe_callB call_len_seq (by rfl) T.z_len (by decide +kernel) (pa_cons (pv 3) pa_nil)) (pa_cons (pe_op op_add pe_int (pe_call GD hr2 (by rfl) gD FD.kp bD .nil pass0 (pa_cons (pv 0) (pa_cons pe_int pa_nil)))) pa_nil))))
      (Evl.pss_cut (ps_set (i := 7) scSld.nd rfl (.inl rfl) (pe_op op_sub (pe_op op_sub (pe_callB call_len_seq (by rfl) T.z_len (by decide +kernel) (pa_cons (pv 3) pa_nil)) pe_int) (pe_call GD hr2 (by rfl) gD FD.kp bD .nil pass0 (pa_cons (pv 0) (pa_cons (pv 6) pa_nil)))))
      (Evl.pss_cut (ps_set (i := 8) scSld.nd rfl (.inl rfl) (pe_call GD hr2 (by rfl) gD FD.kp bD .nil pass0 (pa_cons (pv 0) (pa_cons (pe_callB call_len_seq (by rfl) T.z_len (by decide +kernel) (pa_cons (pv 3) pa_nil)) pa_nil))))
      (Evl.pss_cut (ps_set (i := 9) scSld.nd rfl (.inl rfl) (pe_call GY hr3 (by rfl) gY FY.kp bY .nil pass0 (pa_cons (pv 1) (pa_cons (pv 4) (pa_cons (pv 7) (pa_cons (pv 8) pa_nil))))))
      (Evl.pss_cut (ps_set (i := 10) scSld.nd rfl (.inl rfl) (pe_tupN (pa_cons pe_str (pa_cons (pe_call GD hr2 (by rfl) gD FD.kp bD .nil pass0 (pa_cons (pv 0) (pa_cons (pe_callB call_len_seq (by rfl) T.z_len (by decide +kernel) (pa_cons (pv 1) pa_nil)) pa_nil))) pa_nil))))
      (Evl.pss_cut (ps_if (pt_cmpR (op_neD hr.units) (pv 9) (pe_lstN pa_nil) (nomark _)) (pss_one (ps_set (i := 10) scSld.nd rfl (.inl rfl) (pe_ix ix_list (pv 9) (pe_call GD hr2 (by rfl) gD FD.kp bD .nil pass0 (pa_cons (pv 0) (pa_cons (pe_callB call_len_seq (by rfl) T.z_len (by decide +kernel) (pa_cons (pv 9) pa_nil)) pa_nil))) (fun _ _ => rfl)))) pss_nil)
      (Evl.pss_cut (ps_expr (pe_bm PySem.F.plainAttrs_list PySem.F.slot_list_append PySem.F.type_list_append mt_append (pv 3) (pa_cons (pv 10) pa_nil)))
      (pss_one (ps_expr (pe_bm PySem.F.plainAttrs_list PySem.F.slot_list_append PySem.F.type_list_append mt_append (pv 4) (pa_cons (pe_call GR hr2 (by rfl) gR FR.kp bR .nil pass0 (pa_cons (pv 1) (pa_cons (pv 4) (pa_cons (pv 10) pa_nil)))) pa_nil))))))))))))
      (pss_one (ps_ret (pv 3)))))), ?_⟩
    obtain ⟨ba, bvs, rfl, hbt, aB⟩ := bk_all hb
    have lb := aB.1
    -- rows
    refine Evl.q_cut (M := fun σ' H' => ∃ (R : Addr) (n : Nat), σ' = [some (.ref f), some (.ref ba), some (.int m), some (.ref R), none, none, none, none, none, none, none] ∧ n < css.length ∧ Feed H' f c (B + 1) ∧ Ke (· = f) H H' ∧ RwL H' R [.book n] ∧ Frs H R ∧ R ≠ f ∧ R ≠ c) ?_ ?_
    · refine ⟨_, rfl, _, rfl, ba, _, rfl, .inr (.of hbt), f, c, _, B, rfl, by omega, by omega, hF, by omega, fun d H1 d0 d1 F1 b1 => ?_⟩
      refine ⟨by show 2 ≤ sizeLine; decide, fun p H2 np s2 hp _ => ?_⟩
      refine ⟨by show 1 ≤ sizeLine; decide, fun R H3 nR s3 hR _ => ?_⟩
      have k1 : Ke (· = f) H H1 := .but hF b1
      have k2 : Ke (· = f) H H2 := k1.trans (.same s2)
      have F2 := F1.same s2
      have hp3 := s3 _ _ hp
      have e : d = ((d.toNat : Nat) : Int) := (Int.toNat_of_nonneg d0).symm
      rw [e] at hp3
      exact ⟨R, d.toNat, rfl, by omega, F2.same s3, k2.trans (.same s3), ⟨_, hR, one2 ⟨p, rfl, hp3⟩⟩, .ke k2 F2 (.of nR), F2.nf nR, F2.nc nR⟩
    rintro σ' H1 ⟨R, n, rfl, ln, F1, k1, hR, frR, nRf, nRc⟩
    -- claims
    refine Evl.q_cut (M := fun σ' H' => ∃ (C : Addr) (c0 : List Int), σ' = [some (.ref f), some (.ref ba), some (.int m), some (.ref R), some (.ref C), none, none, none, none, none, none] ∧ css[n]? = some c0 ∧ Sv f c R C [.book n] [c0] (B + 1) H H' ∧ Frs H C ∧ C ≠ f ∧ C ≠ c ∧ C ≠ R) ?_ ?_
    · obtain ⟨rvs, hR1, aR⟩ := id hR
      have l1 := aR.1
      match rvs, l1 with
      | [v], _ =>
        obtain ⟨a, rfl, ha⟩ := aR.2 0 v _ rfl rfl
        have hb1 := k1.tups _ _ hbt
        have lbn : n < bvs.length := by omega
        obtain ⟨c0, hc0, p, ep, hp⟩ := aB.at (List.getElem?_eq_getElem lbn)
        refine ⟨_, rfl, _, rfl, R, _, 0, .ref a, rfl, rfl, .of hR1, rfl, a, _, 1, .int (n : Nat), rfl, rfl, .of ha, rfl, ba, bvs, _, .ref p, rfl, rfl, .of hb1, at_of (j := n) rfl (by rw [List.getElem?_eq_getElem lbn, ep]), ?_⟩
        refine ⟨by show 1 ≤ sizeLine; decide, fun C H2 nC s2 hC _ => ?_⟩
        have k2 : Ke (· = f) H1 H2 := .same s2
        refine ⟨C, c0, rfl, hc0, ⟨F1.same s2, k1.trans k2, hR.ke k2 nRf, ⟨_, hC, one2 ⟨p, rfl, (k1.trans k2).tups _ _ hp⟩⟩⟩, .ke k1 F1 (.of nC), F1.nf nC, F1.nc nC, fun z => ?_⟩
        rw [z, hR1] at nC
        cases nC
    clear hR
    rintro σ' H2 ⟨C, c0, rfl, hc0, x2, frC, nCf, nCc, nCR⟩
    have ld0 : Lad css [Rw.book n] [c0] := (Lad.nil css).snoc hc0
    refine ⟨_, rfl, _, _, rfl, rfl, m - 1, rfl, by omega, by omega, for_range (Pv := fun t σ H' => ∃ (rows : List Rw) (cls : List (List Int)) (y5 y6 y7 y8 y9 y10 : Option V), σ = [some (.ref f), some (.ref ba), some (.int m), some (.ref R), some (.ref C), y5, y6, y7, y8, y9, y10] ∧ Sv f c R C rows cls (B + 1 + 5 * t) H H' ∧ Lad css rows cls ∧ rows.length = t + 1) ?_ ?_ ?_⟩
    · exact ⟨_, _, none, none, none, none, none, none, rfl, x2, ld0, rfl⟩
    · rintro t σ H3 ht ⟨rows, cls, y5, y6, y7, y8, y9, y10, rfl, x3, ld, lr⟩
      have ht : t < (m - 1).toNat := ht
      have lcl := ld.1
      have icl := ld.isCl ib
      obtain ⟨rvs, hR3, aR⟩ := id x3.rw
      have lrv := aR.1
      -- near
      refine Evl.q_cut (M := fun σ' H' => ∃ z : Int, σ' = [some (.ref f), some (.ref ba), some (.int m), some (.ref R), some (.ref C), some (.int (0 + (t : Int))), some (.int z), y7, y8, y9, y10] ∧ Sv f c R C rows cls (B + 1 + 5 * t + 1) H H' ∧ 1 ≤ z ∧ z ≤ rows.length) ?_ ?_
      · refine ⟨_, rfl, R, _, rfl, .inl (.of hR3), _, rfl, f, c, 6, _, rfl, by decide, by decide, x3.fe, by omega, fun d H4 d0 d1 F4 b4 => ?_⟩
        refine ⟨_, _, rfl, rfl, _, _, rfl, ?_⟩
        refine ⟨_, rfl, x3.step (.but x3.fe b4) F4 nRf nCf, ?_, ?_⟩
        · split <;> omega
        · split <;> omega
      clear hR3 aR
      rintro σ' H4 ⟨z, rfl, x4, z1, z2⟩
      obtain ⟨rvs, hR4, aR⟩ := id x4.rw
      have lrv := aR.1
      -- i
      refine Evl.q_cut (M := fun σ' H' => ∃ i : Nat, σ' = [some (.ref f), some (.ref ba), some (.int m), some (.ref R), some (.ref C), some (.int (0 + (t : Int))), some (.int z), some (.int (i : Nat)), y8, y9, y10] ∧ Sv f c R C rows cls (B + 1 + 5 * t + 2) H H') ?_ ?_
      · refine ⟨_, rfl, R, _, rfl, .inl (.of hR4), _, _, rfl, rfl, _, rfl, _, rfl, f, c, _, _, rfl, by omega, by omega, x4.fe, by omega, fun d H5 d0 d1 F5 b5 => ?_⟩
        refine ⟨_, _, rfl, rfl, ?_⟩
        refine ⟨((rvs.length : Int) - 1 - d).toNat, ?_, x4.step (.but x4.fe b5) F5 nRf nCf⟩
        rw [Int.toNat_of_nonneg (by omega)]
        rfl
      clear hR4 aR
      rintro σ' H5 ⟨i, rfl, x5⟩
      obtain ⟨rvs, hR5, aR⟩ := id x5.rw
      have lrv := aR.1
      -- j
      refine Evl.q_cut (M := fun σ' H' => ∃ j : Nat, σ' = [some (.ref f), some (.ref ba), some (.int m), some (.ref R), some (.ref C), some (.int (0 + (t : Int))), some (.int z), some (.int (i : Nat)), some (.int (j : Nat)), y9, y10] ∧ Sv f c R C rows cls (B + 1 + 5 * t + 3) H H') ?_ ?_
      · refine ⟨_, rfl, _, rfl, R, _, rfl, .inl (.of hR5), f, c, _, _, rfl, by omega, by omega, x5.fe, by omega, fun d H6 d0 d1 F6 b6 => ?_⟩
        refine ⟨d.toNat, ?_, x5.step (.but x5.fe b6) F6 nRf nCf⟩
        rw [Int.toNat_of_nonneg d0]
        rfl
      clear hR5 aR
      rintro σ' H6 ⟨j, rfl, x6⟩
      -- ways
      refine Evl.q_cut (M := fun σ' H' => ∃ (W : Addr) (ws : List Rw), σ' = [some (.ref f), some (.ref ba), some (.int m), some (.ref R), some (.ref C), some (.int (0 + (t : Int))), some (.int z), some (.int (i : Nat)), some (.int (j : Nat)), some (.ref W), y10] ∧ Sv f c R C rows cls (B + 1 + 5 * t + 3) H H' ∧ RwL H' W ws ∧ ws.length ≤ 16 ∧ W ≠ f ∧ ∀ r ∈ ws, ∃ c, RowCl css cls r c) ?_ ?_
      · refine ⟨_, rfl, _, rfl, _, rfl, _, rfl, .ref ba, C, i, j, css, cls, rfl, hb.ke x6.ke, x6.cl, ib, icl, fun W ws H7 s7 hW lw ok => ?_⟩
        refine ⟨W, ws, rfl, x6.same s7 nRf nCf, hW, lw, fun z => ?_, ok⟩
        have := x6.fe.same s7
        obtain ⟨_, _, _, h1, _⟩ := this
        obtain ⟨wvs, h2, a2⟩ := hW
        rw [z, h1] at h2
        cases h2
        have h4 := a2.at (i := 1) rfl
        obtain ⟨y2, _, a', e', _⟩ := h4
        cases e'
      rintro σ' H7 ⟨W, ws, rfl, x7, hW, lw, nWf, ok⟩
      -- row
      refine Evl.q_cut (M := fun σ' H' => ∃ (v : V) (n : Nat), σ' = [some (.ref f), some (.ref ba), some (.int m), some (.ref R), some (.ref C), some (.int (0 + (t : Int))), some (.int z), some (.int (i : Nat)), some (.int (j : Nat)), some (.ref W), some v] ∧ Sv f c R C rows cls (B + 1 + 5 * t + 4) H H' ∧ RwL H' W ws ∧ n < css.length ∧ RowAt H' v (.book n)) ?_ ?_
      · refine ⟨_, rfl, _, rfl, ba, _, rfl, .inr (.of (x7.ke.tups _ _ hbt)), f, c, _, _, rfl, by omega, by omega, x7.fe, by omega, fun d H8 d0 d1 F8 b8 => ?_⟩
        refine ⟨by show 2 ≤ sizeLine; decide, fun p H9 np s9 hp _ => ?_⟩
        have k8 : Ke (· = f) H7 H8 := .but x7.fe b8
        have e : d = ((d.toNat : Nat) : Int) := (Int.toNat_of_nonneg d0).symm
        rw [e] at hp
        exact ⟨_, d.toNat, rfl, (x7.step k8 F8 nRf nCf).same s9 nRf nCf, (hW.ke k8 nWf).ke (Ke.same (F := (· = f)) s9) nWf, by omega, p, rfl, hp⟩
      clear hW
      rintro σ' H8 ⟨v, n', rfl, x8, hW, ln', rv⟩
      -- one of the ways
      refine Evl.q_cut (M := fun σ' H' => ∃ (v : V) (r : Rw) (cr : List Int), σ' = [some (.ref f), some (.ref ba), some (.int m), some (.ref R), some (.ref C), some (.int (0 + (t : Int))), some (.int z), some (.int (i : Nat)), some (.int (j : Nat)), some (.ref W), some v] ∧ Sv f c R C rows cls (B + 1 + 5 * t + 5) H H' ∧ RowAt H' v r ∧ RowCl css cls r cr) ?_ ?_
      · obtain ⟨wvs, hW8, aW⟩ := id hW
        refine ⟨_, rfl, Nat.zero_le _, fun p H9 np s9 hp _ => ?_⟩
        have x9 := x8.same s9 nRf nCf
        have hW9 := hW.ke (Ke.same (F := (· = f)) s9) nWf
        obtain ⟨wvs, hW9', aW9⟩ := id hW9
        match ws, wvs, aW9, hW9', ok, lw with
        | [], [], _, hW9', _, _ =>
          refine ⟨_, _, .lst (.of hW9') .nil, .lst (.of hp) .nil, rfl, rfl, false, rfl, ?_⟩
          refine ⟨v, .book n', css[n'], rfl, ⟨x9.fe.mono (by omega), x9.ke, x9.rw, x9.cl⟩, rv.ke (Ke.same (F := (· = f)) s9), List.getElem?_eq_getElem ln'⟩
        | [], _ :: _, aW9, _, _, _ => cases aW9.1
        | _ :: _, [], aW9, _, _, _ => cases aW9.1
        | r0 :: rt, v0 :: vt, aW9, hW9', ok, lw =>
          refine ⟨_, _, .lst (.of hW9') (dp_rows aW9), .lst (.of hp) .nil, shaped_rows (r0 :: rt), rfl, true, rfl, ?_⟩
          have lw2 := aW9.1
          refine ⟨_, rfl, _, rfl, _, rfl, W, _, rfl, .inl (.of hW9'), f, c, _, _, rfl, by rw [lw2, List.length_cons]; omega, by rw [lw2]; omega, x9.fe, by omega, fun d H10 d0 d1 F10 b10 => ?_⟩
          have k10 : Ke (· = f) H9 H10 := .but x9.fe b10
          have dl : d.toNat < (v0 :: vt).length := by omega
          obtain ⟨r, hr', rv'⟩ := aW9.at (List.getElem?_eq_getElem dl)
          obtain ⟨cr, hcr⟩ := ok r (List.mem_of_getElem? hr')
          refine ⟨W, _, d, _, rfl, rfl, .of (k10.lst hW9' nWf), at_of (j := d.toNat) (by omega) (List.getElem?_eq_getElem dl), ?_⟩
          exact ⟨_, r, cr, rfl, x9.step k10 F10 nRf nCf, rv'.ke k10, hcr⟩
      clear rv hW
      rintro σ' H9 ⟨v, r, cr, rfl, x9, rv, rc⟩
      -- rows.append(row)
      obtain ⟨rvs, hR9, aR⟩ := id x9.rw
      obtain ⟨cvs, hC9, aC⟩ := id x9.cl
      have l1 := aR.1
      have l2 := aC.1
      refine Evl.q_cut (M := fun σ' H' => σ' = [some (.ref f), some (.ref ba), some (.int m), some (.ref R), some (.ref C), some (.int (0 + (t : Int))), some (.int z), some (.int (i : Nat)), some (.int (j : Nat)), some (.ref W), some v] ∧ Sv f c R C (rows ++ [r]) cls (B + 1 + 5 * t + 5) H H' ∧ RowAt H' v r) ?_ ?_
      · refine ⟨_, rfl, .inl ⟨rfl, _, .of hR9⟩, _, rfl, R, _, _, rfl, rfl, hR9, small1000 (by omega), ?_⟩
        refine ⟨rfl, ⟨x9.fe.upd nRf nRc, x9.ke.write frR hR9, rw_snoc hR9 aR rv, ?_⟩, RowAt.wr rv hR9⟩
        exact ⟨cvs, by rw [upd_ne nCR]; exact hC9, aC.imp fun _ _ h => TupI.wr h hR9⟩
      clear hR9 hC9 aR aC l1 l2
      rintro σ' H10 ⟨rfl, x10, rv⟩
      -- claims.append(..)
      obtain ⟨cvs, hC10, aC⟩ := id x10.cl
      have l2 := aC.1
      refine ⟨_, rfl, .inl ⟨rfl, _, .of hC10⟩, _, rfl, _, rfl, _, rfl, .ref ba, v, C, css, cls, r, rfl, hb.ke x10.ke, x10.cl, rv, ib, icl, fun H11 s11 no => (no _ rc).elim, fun c' p H11 s11 rc' hp => ?_⟩
      obtain rfl := rc.one rc'
      have hC11 := s11 _ _ hC10
      have x11 := x10.same s11 nRf nCf
      refine ⟨C, _, _, rfl, rfl, hC11, small1000 (by omega), ?_⟩
      obtain ⟨rvs, hR11, aR⟩ := id x11.rw
      refine ⟨rows ++ [r], cls ++ [cr], _, _, _, _, _, _, rfl, ⟨(x11.fe.upd nCf nCc).mono (by omega), x11.ke.write frC hC11, ?_, ?_⟩, ld.snoc rc, by rw [List.length_append, lr]; rfl⟩
      · exact ⟨rvs, by rw [upd_ne (Ne.symm nCR)]; exact hR11, aR.imp fun _ _ h => RowAt.wr h hC11⟩
      · exact cl_snoc hC11 (aC.imp fun _ _ h => h.ke (Ke.same (F := Nof) s11)) ⟨p, rfl, hp⟩
    · rintro σ H3 ⟨rows, cls, y5, y6, y7, y8, y9, y10, rfl, x3, ld, lr⟩
      exact ⟨_, rfl, q R rows cls H3 (x3.fe.mono (by omega)) x3.ke frR x3.rw ld (by omega)⟩
abbrev sSca : Stmt := topS 76
theorem scSca : FnScope ["feed", "things", "book", "most"] ["feed"] (defScope sSca) := ⟨rfl, rfl, rfl, by decide +kernel, rfl, by decide +kernel, by decide +kernel⟩
/-- a book and a ladder by it, drawn -/
def spSca : Sp := fun vs H Q _ => ∃ (f c : Addr) (B : Nat), vs = [.ref f] ∧ Feed H f c B ∧ B ≤ 2 ^ 56 ∧
  ∀ (t L : Addr) (b : V) (css cls : List (List Int)) (rows : List Rw) (H' : Hp), Feed H' f c (B + 3000) → Ke (· = f) H H' → H' t = some (.tup [b, .ref L]) → L ≠ f → L ≠ c → Frs H L → BL H' b L css rows cls → 1 ≤ css.length → css.length ≤ 16 → 1 ≤ rows.length → rows.length ≤ 40 → Q (.ref t) H'
theorem not_f {H : Hp} {p f c : Addr} {B : Nat} (h : Frs H p) (F : Feed H f c B) : p ≠ f ∧ p ≠ c := by
  obtain ⟨_, _, _, h1, h2, _⟩ := F
  exact ⟨Ne.symm (h f _ h1 fun ps z => by cases z), Ne.symm (h c _ h2 fun ps z => by cases z)⟩
theorem pick {ns : List Int} {d : Int} (d0 : 0 ≤ d) (d1 : d < ns.length) : ∃ mo, mo ∈ ns ∧ atI (ns.map V.int) d = some (.int mo) := by
  have l : d.toNat < ns.length := by omega
  exact ⟨ns[d.toNat], List.getElem_mem l, at_of (j := d.toNat) (by omega) (by rw [List.getElem?_map, List.getElem?_eq_getElem l]; rfl)⟩
theorem ok_sca {f fD fT fB fL : Addr} {fd fdD fdT fdB fdL : FuncData} {k : Nat} (F : Fun K "_law_scase" "_law_scase" sSca f fd) (FD : Fun K "_law_sdraw" "_law_sdraw" sDrw fD fdD) (bD : Binds K fdD ["feed", "many"] []) (gD : mg "_law_sdraw" = some (.ref fD)) (GD : FnOk P w K mg base CX0 2 fD fdD ["feed", "many"] spDrw)
    (FT : Fun K "_law_sthings" "_law_sthings" sThg fT fdT) (bT : Binds K fdT ["feed", "least", "most"] []) (gT : mg "_law_sthings" = some (.ref fT)) (GT : FnOk P w K mg base CX0 3 fT fdT ["feed", "least", "most"] spThg)
    (FB : Fun K "_law_sbook" "_law_sbook" sBok fB fdB) (bB : Binds K fdB ["feed", "things", "most"] []) (gB : mg "_law_sbook" = some (.ref fB)) (GB : FnOk P w K mg base CX0 4 fB fdB ["feed", "things", "most"] spBok)
    (FL : Fun K "_law_sladder" "_law_sladder" sSld fL fdL) (bL : Binds K fdL ["feed", "book", "many"] []) (gL : mg "_law_sladder" = some (.ref fL)) (GL : FnOk P w K mg base CX0 4 fL fdL ["feed", "book", "many"] spSld) :
    FnOk P w K mg base CX0 (k + 5) f fd ["feed"] spSca := by
  refine F.ok scSca (fun vs H Q E h => ?_) (fun cdv A outer s H vs Q E hr h => ?_)
  · obtain ⟨f, c, B, rfl, _⟩ := h
    rfl
  · obtain ⟨f, c, B, rfl, hF, hB, q⟩ := h
    have hr2 : Room 2 _ := hr.mono (by omega)
    have hr3 : Room 3 _ := hr.mono (by omega)
    have hr4 : Room 4 _ := hr.mono (by omega)
    refine ⟨_, (Evl.pss_cut (ps_set (i := 1) scSca.nd rfl (.inl rfl) (pe_call GT hr3 (by rfl) gT FT.kp bT .nil pass0 (pa_cons (pv 0) (pa_cons pe_int (pa_cons (pe_ix ix_list (pe_lstN (pa_cons pe_int (pa_cons pe_int pa_nil))) (pe_call GD hr2 (by rfl) gD FD.kp bD .nil pass0 (pa_cons (pv 0) (pa_cons pe_int pa_nil))) (fun _ _ => rfl)) pa_nil)))))
      (Evl.pss_cut (ps_set (i := 2) scSca.nd rfl (.inl rfl) (pe_call GB hr4 (by rfl) gB FB.kp bB .nil pass0 (pa_cons (pv 0) (pa_cons (pv 1) (pa_cons (pe_ix ix_list (pe_lstN (pa_cons pe_int (pa_cons pe_int (pa_cons pe_int pa_nil)))) (pe_call GD hr2 (by rfl) gD FD.kp bD .nil pass0 (pa_cons (pv 0) (pa_cons pe_int pa_nil))) (fun _ _ => rfl)) pa_nil)))))
      (Evl.pss_cut (ps_set (i := 3) scSca.nd rfl (.inl rfl) (pe_ix ix_list (pe_lstN (pa_cons pe_int (pa_cons pe_int (pa_cons pe_int pa_nil)))) (pe_call GD hr2 (by rfl) gD FD.kp bD .nil pass0 (pa_cons (pv 0) (pa_cons pe_int pa_nil))) (fun _ _ => rfl)))
      (pss_one (ps_ret (pe_tupN (pa_cons (pv 2) (pa_cons (pe_call GL hr4 (by rfl) gL FL.kp bL .nil pass0 (pa_cons (pv 0) (pa_cons (pv 2) (pa_cons (pe_op op_add pe_int (pe_call GD hr2 (by rfl) gD FD.kp bD .nil pass0 (pa_cons (pv 0) (pa_cons (pv 3) pa_nil)))) pa_nil)))) pa_nil)))))))), ?_⟩
    -- things
    refine Evl.q_cut (M := fun σ' H' => ∃ (t : Addr) (ks : List Int), σ' = [some (.ref f), some (.ref t), none, none] ∧ Feed H' f c (B + 20) ∧ Ke (· = f) H H' ∧ H' t = some (.lst (ks.map V.int)) ∧ t ≠ f ∧ Thg ks ∧ 2 ≤ ks.length) ?_ ?_
    · refine ⟨_, rfl, by show 2 ≤ sizeLine; decide, fun p H1 np s1 hp _ => ?_⟩
      refine ⟨_, rfl, f, c, 2, B, rfl, by decide, by decide, hF.same s1, by omega, fun d H2 d0 d1 F2 b2 => ?_⟩
      have npf : p ≠ f := hF.nf np
      have hp2 := (b2 p npf).trans hp
      have k2 : Ke (· = f) H H2 := (Ke.same s1).trans (.but (hF.same s1) b2)
      obtain ⟨mo, hm, hat⟩ := pick (ns := [6, 8]) d0 d1
      have hm2 : mo = 6 ∨ mo = 8 := by simpa using hm
      refine ⟨p, _, d, .int mo, rfl, rfl, .of hp2, hat, f, c, 2, mo, _, rfl, by decide, by omega, by omega, F2, by omega, fun ks t H3 F3 k3 fr ht Tk l1 l2 => ?_⟩
      exact ⟨t, ks, rfl, F3.mono (by omega), k2.trans k3, ht, (not_f fr F2).1, Tk, by omega⟩
    rintro σ' H1 ⟨t, ks, rfl, F1, k1, ht, ntf, Tk, l2⟩
    -- book
    refine Evl.q_cut (M := fun σ' H' => ∃ (b : V) (css : List (List Int)), σ' = [some (.ref f), some (.ref t), some b, none] ∧ Feed H' f c (B + 600) ∧ Ke (· = f) H H' ∧ Bk H' b css ∧ (∀ c ∈ css, IsCl c) ∧ 1 ≤ css.length ∧ css.length ≤ 16) ?_ ?_
    · refine ⟨_, rfl, _, rfl, by show 3 ≤ sizeLine; decide, fun p H2 np s2 hp _ => ?_⟩
      refine ⟨_, rfl, f, c, 3, _, rfl, by decide, by decide, F1.same s2, by omega, fun d H3 d0 d1 F3 b3 => ?_⟩
      have npf : p ≠ f := F1.nf np
      have hp3 := (b3 p npf).trans hp
      have k3 : Ke (· = f) H1 H3 := (Ke.same s2).trans (.but (F1.same s2) b3)
      obtain ⟨mo, hm, hat⟩ := pick (ns := [9, 9, 16]) d0 d1
      have hm2 : mo = 9 ∨ mo = 16 := by simpa using hm
      refine ⟨p, _, d, .int mo, rfl, rfl, .of hp3, hat, f, c, t, mo, _, ks, rfl, by omega, by omega, k3.lst ht ntf, Tk, (fun z => by rw [z] at l2; cases l2), ntf, F3, by omega, fun css pb H4 F4 k4 _ hb hc m1 m2 => ?_⟩
      exact ⟨_, css, rfl, F4.mono (by omega), (k1.trans k3).trans k4, hb, fun c hc' => (hc c hc').1, m1, by omega⟩
    rintro σ' H2 ⟨b, css, rfl, F2, k2, hb, ib, m1, m2⟩
    -- most
    refine Evl.q_cut (M := fun σ' H' => ∃ mo : Int, σ' = [some (.ref f), some (.ref t), some b, some (.int mo)] ∧ Feed H' f c (B + 601) ∧ Ke (· = f) H2 H' ∧ 8 ≤ mo ∧ mo ≤ 40) ?_ ?_
    · refine ⟨by show 3 ≤ sizeLine; decide, fun p H3 np s3 hp _ => ?_⟩
      refine ⟨_, rfl, f, c, 3, _, rfl, by decide, by decide, F2.same s3, by omega, fun d H4 d0 d1 F4 b4 => ?_⟩
      have npf : p ≠ f := F2.nf np
      have hp4 := (b4 p npf).trans hp
      obtain ⟨mo, hm, hat⟩ := pick (ns := [8, 20, 40]) d0 d1
      have hm2 : mo = 8 ∨ mo = 20 ∨ mo = 40 := by simpa using hm
      refine ⟨p, _, d, .int mo, rfl, rfl, .of hp4, hat, mo, rfl, F4, (Ke.same s3).trans (.but (F2.same s3) b4), by omega, by omega⟩
    rintro σ' H3 ⟨mo, rfl, F3, k3, mo1, mo2⟩
    refine ⟨_, rfl, _, rfl, _, rfl, _, rfl, _, rfl, f, c, mo, _, rfl, by omega, by omega, F3, by omega, fun d H4 d0 d1 F4 b4 => ?_⟩
    have k4 : Ke (· = f) H2 H4 := k3.trans (.but F3 b4)
    refine ⟨_, _, rfl, rfl, f, c, b, _, _, css, rfl, by omega, by omega, hb.ke k4, ib, m1, m2, F4, by omega, fun L rows cls H5 F5 k5 fr hL ld lr => ?_⟩
    refine ⟨by show 2 ≤ sizeLine; decide, fun tt H6 nt s6 htt _ => ?_⟩
    have k6 : Ke (· = f) H2 H6 := (k4.trans k5).trans (.same s6)
    have nn := not_f fr F4
    exact q tt L b css cls rows H6 ((F5.same s6).mono (by omega)) (k2.trans k6) htt nn.1 nn.2 (.ke (k2.trans k4) F4 fr) ⟨hb.ke k6, hL.ke (Ke.same (F := (· = f)) s6) nn.1, ld, ib, by omega⟩ m1 m2 (by omega) (by omega)
end
end Ll
namespace Xb
open PySem PySem.Spec PyProof.Rows L2 Nw Kp Lr
/-! ### is (not) True; enumerate over a list; claims as data -/
def rNotB : R2 := fun x y H Q => ∃ b c : Bool, x = .bl b ∧ y = .bl c ∧ Q (.bl (b != c)) H
theorem op_notB {X : Cx} : OpR X (compareOp .IsNot) rNotB := by
  intro pins s σ H x y v u Q I rx ry h
  obtain ⟨b, c, rfl, rfl, q⟩ := h
  cases rx
  cases ry
  exact isnot_bool ⟨.bl _, H, I, rfl, q⟩
theorem for_enl {K : PySem.W.Frag} {a : Addr} {xs : List V} {g : TG} {tb : TS} {D : Ends} {σ : L2.St} {H : Hp} (Pv : Nat → L2.St → Hp → Prop) (h0 : Pv 0 σ H) (hl : ∀ i σ H, i ≤ xs.length → Pv i σ H → SqL K H a xs)
    (hs : ∀ i x σ H T, xs[i]? = some x → Pv i σ H → H T = none → g (.ref T) σ (upd H T (.tup [.int (i : Nat), x])) fun σ2 H2 => tb { D with nx := Pv (i + 1), ct := Pv (i + 1), bk := D.nx } σ2 H2) (hd : ∀ σ H, Pv xs.length σ H → D.nx σ H) :
    ∃ W : Nat → Nat → L2.St → Hp → Prop, (∃ m, W 0 m σ H) ∧ ∀ i m σ H, W i m σ H →
      ((Ite K a).stop i H ∧ D.nx σ H) ∨ ((Ite K a).go i H ∧ ∃ N : L2.St → Hp → Prop, (∀ σ' H', N σ' H' → ∃ m', m' < m ∧ W (i + 1) m' σ' H') ∧ ∀ x H', (Ite K a).yld i H x H' → g x σ H' fun σ2 H2 => tb { D with nx := N, ct := N, bk := D.nx } σ2 H2) := by
  refine ⟨fun i m σ H => i + m = xs.length ∧ Pv i σ H, ⟨xs.length, Nat.zero_add _, h0⟩, fun i m σ H ⟨e, p⟩ => ?_⟩
  have sq := hl i σ H (by omega) p
  cases m with
  | zero =>
    obtain rfl : i = xs.length := by omega
    exact .inl ⟨⟨xs, sq, Nat.le_refl _⟩, hd σ H p⟩
  | succ m =>
    have hx := List.getElem?_eq_getElem (show i < xs.length by omega)
    refine .inr ⟨⟨xs, _, sq, hx⟩, Pv (i + 1), fun σ' H' q => ⟨m, Nat.lt_succ_self m, by omega, q⟩, ?_⟩
    rintro y H' ⟨T, x, rfl, nT, rfl, hy⟩
    exact hs i x σ H T (hy xs sq) p nT
def cdat (c : List Int) : PyData := .tuple (c.map PyData.int)
theorem dp_cls {K : PySem.W.Frag} {H : Hp} : ∀ {vs : List V} {cls : List (List Int)}, All2 (TupI H) vs cls → DpAll K H vs (cls.map cdat)
  | [], [], _ => .nil
  | [], r :: t, h => by cases h.1
  | v :: t, [], h => by cases h.1
  | v :: t, c :: u, h => by
    obtain ⟨a, rfl, ha⟩ := h.2 0 v c rfl rfl
    exact .cons (.tup (.of ha) (dp_ints c)) (dp_cls ⟨by have := h.1; simp only [List.length_cons] at this; omega, fun i x y h1 h2 => h.2 (i + 1) x y h1 h2⟩)
theorem lay_cls : ∀ cls : List (List Int), PyData.canLayAll0 (cls.map cdat) = true ∧ PyData.depthAll (cls.map cdat) ≤ 3
  | [] => ⟨rfl, by decide⟩
  | c :: t => by
    obtain ⟨h1, h2⟩ := lay_cls t
    refine ⟨?_, ?_⟩
    · show (PyData.canLayAll0 (c.map PyData.int) && PyData.canLayAll0 (t.map cdat)) = true
      rw [h1, flat_lay _ (flat_ints c)]
      rfl
    · show Nat.max (PyData.depthAll (c.map PyData.int) + 1) (PyData.depthAll (t.map cdat)) ≤ 3
      have := flat_depth _ (flat_ints c)
      exact Nat.max_le.mpr ⟨by omega, h2⟩
theorem shaped_cls (cls : List (List Int)) : SeqAt.shaped (.list (cls.map cdat)) = true := by
  obtain ⟨h1, h2⟩ := lay_cls cls
  show (PyData.canLayAll0 (cls.map cdat) && decide (PyData.depthAll (cls.map cdat) + 1 ≤ 64)) = true
  rw [h1, decide_eq_true (by omega)]
  rfl
theorem cut_to (xs : List V) (n : Nat) : cutV xs none (some (n : Int)) = xs.take n := by
  unfold cutV
  rw [HT.sIx_none, HT.sIx_nat, List.drop_zero, Nat.sub_zero]
  by_cases h : n ≤ xs.length
  · rw [Nat.min_eq_left h]
  · rw [Nat.min_eq_right (by omega), List.take_length, List.take_of_length_le (by omega)]
end Xb
namespace Wg
open PySem PySem.Spec PyProof.Rows L2 GxR Nw Dr Kp Se Ct Lr Lp Ll Od
/-! ### rows and ladders: of anything -/
section
variable {P : Program} {w : World} {K : PySem.W.Frag} {mg : Str → Option Value} {base : Heap} {CX : CXT} {k : Nat} {f : Addr} {fd : FuncData} {ps : List Str}
def orS (a b : Sp) : Sp := fun vs H Q E => a vs H Q E ∨ b vs H Q E
theorem ok_or {a b : Sp} (F : FnOk P w K mg base CX k f fd ps a) (G : FnOk P w K mg base CX k f fd ps b) : FnOk P w K mg base CX k f fd ps (orS a b) :=
  ⟨fun us H Q E h => h.elim (F.len us H Q E) (G.len us H Q E), fun A outer s H args us vs Q E room env bind rel ask => ask.elim (F.run A outer s H args us vs Q E room env bind rel) (G.run A outer s H args us vs Q E room env bind rel)⟩
theorem ok_weak {a b : Sp} (F : FnOk P w K mg base CX k f fd ps a) (i : ∀ vs H Q E, b vs H Q E → a vs H Q E) : FnOk P w K mg base CX k f fd ps b :=
  ⟨fun us H Q E h => F.len us H Q E (i _ _ _ _ h), fun A outer s H args us vs Q E room env bind rel ask => F.run A outer s H args us vs Q E room env bind rel (i _ _ _ _ ask)⟩
end
/-! ### data -/
theorem eqv_str {d : PyData} {x : Str} : PyData.eqv d (.str x) = true ↔ d = .str x := by
  cases d <;> simp [PyData.eqv]
theorem two_of {f0 : Addr → Prop} {H : Hp} {xs : List V} {ds : List PyData} (h : OdAll f0 H xs ds) (l : xs.length = 2) : ∃ v0 v1 d0 d1, xs = [v0, v1] ∧ ds = [d0, d1] ∧ OdV f0 H v0 d0 ∧ OdV f0 H v1 d1 := by
  match xs, l, h with
  | [v0, v1], _, .cons h0 (.cons h1 .nil) => exact ⟨v0, v1, _, _, rfl, rfl, h0, h1⟩
theorem four_of {f0 : Addr → Prop} {H : Hp} {xs : List V} {ds : List PyData} (h : OdAll f0 H xs ds) (l : xs.length = 4) : ∃ v0 v1 v2 v3 d0 d1 d2 d3, xs = [v0, v1, v2, v3] ∧ ds = [d0, d1, d2, d3] ∧ OdV f0 H v0 d0 ∧ OdV f0 H v1 d1 ∧ OdV f0 H v2 d2 ∧ OdV f0 H v3 d3 := by
  match xs, l, h with
  | [v0, v1, v2, v3], _, .cons h0 (.cons h1 (.cons h2 (.cons h3 .nil))) => exact ⟨v0, v1, v2, v3, _, _, _, _, rfl, rfl, h0, h1, h2, h3⟩
theorem num_int {d : PyData} {m : Int} (h : numD d m = true) : ∃ n : Nat, d = .int (n : Nat) ∧ ((n : Nat) : Int) < m := by
  cases d with
  | int i =>
    have h : (decide (0 ≤ i) && decide (i < m)) = true := h
    rw [Bool.and_eq_true] at h
    have h1 := of_decide_eq_true h.1
    have h2 := of_decide_eq_true h.2
    exact ⟨i.toNat, by rw [Int.toNat_of_nonneg h1], by omega⟩
  | _ => cases h
theorem num_yes {n : Nat} {m : Int} (h : (n : Int) < m) : numD (.int (n : Nat)) m = true := by
  show (decide ((0 : Int) ≤ (n : Nat)) && decide (((n : Nat) : Int) < m)) = true
  rw [decide_eq_true (by omega), decide_eq_true h]
  rfl
theorem dat_two {d0 d1 : PyData} {r : Rw} (h : PyData.tuple [d0, d1] = dat r) : ∃ n : Nat, r = .book n ∧ d0 = .str "book" ∧ d1 = .int (n : Nat) := by
  cases r with
  | book n =>
    have e := PyData.tuple.inj h
    simp only [List.cons.injEq] at e
    exact ⟨n, rfl, e.1, e.2.1⟩
  | cut i j k =>
    have e := congrArg List.length (PyData.tuple.inj h)
    simp at e
theorem dat_four {d0 d1 d2 d3 : PyData} {r : Rw} (h : PyData.tuple [d0, d1, d2, d3] = dat r) : ∃ (i j : Nat) (k : Int), r = .cut i j k ∧ d0 = .str "cut" ∧ d1 = .int (i : Nat) ∧ d2 = .int (j : Nat) ∧ d3 = .int k := by
  cases r with
  | book n =>
    have e := congrArg List.length (PyData.tuple.inj h)
    simp at e
  | cut i j k =>
    have e := PyData.tuple.inj h
    simp only [List.cons.injEq] at e
    exact ⟨i, j, k, rfl, e.1, e.2.1, e.2.2.1, e.2.2.2.1⟩
theorem dat_len {ds : List PyData} {r : Rw} (h : PyData.tuple ds = dat r) : ds.length = 2 ∨ ds.length = 4 := by
  cases r with
  | book n => exact .inl (by rw [PyData.tuple.inj h]; rfl)
  | cut i j k => exact .inr (by rw [PyData.tuple.inj h]; rfl)
theorem dat_tup {d : PyData} {r : Rw} (h : d = dat r) : ∃ ds, d = .tuple ds := by
  cases r with
  | book n => exact ⟨_, h⟩
  | cut i j k => exact ⟨_, h⟩
theorem dat_inj {r q : Rw} (h : dat r = dat q) : r = q := by
  cases r with
  | book n =>
    obtain ⟨m, e, _, e2⟩ := dat_two h
    have : n = m := by
      have := PyData.int.inj e2
      omega
    rw [e, this]
  | cut i j k =>
    obtain ⟨i', j', k', e, _, e1, e2, e3⟩ := dat_four h
    have h1 := PyData.int.inj e1
    have h2 := PyData.int.inj e2
    have h3 := PyData.int.inj e3
    rw [e, h3, show i = i' by omega, show j = j' by omega]
theorem map_inj : ∀ {l m : List Rw}, l.map dat = m.map dat → l = m
  | [], [], _ => rfl
  | [], _ :: _, h => by cases h
  | _ :: _, [], h => by cases h
  | a :: l, b :: m, h => by
    obtain ⟨h1, h2⟩ := List.cons.inj h
    rw [dat_inj h1, map_inj h2]
theorem shaped_all : ∀ {ds : List PyData}, PyData.canLayAll0 ds = true → ∀ e ∈ ds, PyData.canLay0 e = true
  | [], _, e, he => nomatch he
  | d :: r, h, e, he => by
    have h : (PyData.canLay0 d && PyData.canLayAll0 r) = true := h
    rw [Bool.and_eq_true] at h
    rcases List.mem_cons.mp he with z | z
    · rw [z]
      exact h.1
    · exact shaped_all h.2 e z
theorem depth_all : ∀ {ds : List PyData} {e : PyData}, e ∈ ds → e.depth ≤ PyData.depthAll ds
  | d :: r, e, he => by
    have h : PyData.depthAll (d :: r) = Nat.max d.depth (PyData.depthAll r) := rfl
    rw [h]
    rcases List.mem_cons.mp he with z | z
    · rw [z]
      exact Nat.le_max_left _ _
    · exact Nat.le_trans (depth_all z) (Nat.le_max_right _ _)
theorem shaped_mk {d : PyData} (h : PyData.canLay0 d = true) (l : d.depth ≤ 64) : SeqAt.shaped d = true := by
  show (PyData.canLay0 d && decide (d.depth ≤ 64)) = true
  rw [h, decide_eq_true l]
  rfl
theorem shaped_ps {d : PyData} (h : SeqAt.shaped d = true) : PyData.canLay0 d = true ∧ d.depth ≤ 64 := by
  have h : (PyData.canLay0 d && decide (d.depth ≤ 64)) = true := h
  rw [Bool.and_eq_true] at h
  exact ⟨h.1, of_decide_eq_true h.2⟩
theorem shaped_tup {ds : List PyData} (h : SeqAt.shaped (.tuple ds) = true) : ∀ e ∈ ds, SeqAt.shaped e = true := fun e he => by
  obtain ⟨h1, h2⟩ := shaped_ps h
  refine shaped_mk (shaped_all h1 e he) ?_
  have := depth_all he
  have h2 : PyData.depthAll ds + 1 ≤ 64 := h2
  omega
theorem shaped_lst {ds : List PyData} (h : SeqAt.shaped (.list ds) = true) : ∀ e ∈ ds, SeqAt.shaped e = true := fun e he => by
  obtain ⟨h1, h2⟩ := shaped_ps h
  refine shaped_mk (shaped_all h1 e he) ?_
  have := depth_all he
  have h2 : PyData.depthAll ds + 1 ≤ 64 := h2
  omega
theorem shaped_book : SeqAt.shaped (.str "book") = true := by decide +kernel
theorem shaped_cut : SeqAt.shaped (.str "cut") = true := by decide +kernel
/-! ### ladders of anything -/
def NoRow (css cls : List (List Int)) (d : PyData) : Prop := ∀ r c, d = dat r → ¬ RowCl css cls r c
/-- the rows ahead of the first fault -/
structure Ahead (css : List (List Int)) (ds : List PyData) (rows : List Rw) (cls : List (List Int)) : Prop where
  ld : Lad css rows cls
  tk : ds.take rows.length = rows.map dat
  le : rows.length ≤ 200
  ln : rows.length ≤ ds.length
  st : rows.length = ds.length ∨ rows.length = 200 ∨ ∃ d, ds[rows.length]? = some d ∧ NoRow css cls d
def IsLad (css : List (List Int)) (d : PyData) : Prop := ∃ rows cls, d = .list (rows.map dat) ∧ Lad css rows cls ∧ 1 ≤ rows.length ∧ rows.length ≤ 200
theorem Lad.one {css : List (List Int)} {rows : List Rw} {c1 c2 : List (List Int)} (a : Lad css rows c1) (b : Lad css rows c2) : c1 = c2 := by
  have l1 := a.1
  have l2 := b.1
  have key : ∀ n, n ≤ rows.length → c1.take n = c2.take n := by
    intro n
    induction n with
    | zero => exact fun _ => rfl
    | succ n ih =>
      intro hn
      have i := ih (by omega)
      have h1 := List.getElem?_eq_getElem (show n < c1.length by omega)
      have h2 := List.getElem?_eq_getElem (show n < c2.length by omega)
      have hr := List.getElem?_eq_getElem (show n < rows.length by omega)
      have r1 := a.2 n _ _ hr h1
      have r2 := b.2 n _ _ hr h2
      rw [i] at r1
      rw [List.take_add_one, List.take_add_one, h1, h2, i, r1.one r2]
  have := key rows.length (Nat.le_refl _)
  rwa [List.take_of_length_le (by omega), List.take_of_length_le (by omega)] at this
theorem ahead_lad {css : List (List Int)} {ds : List PyData} {rows : List Rw} {cls : List (List Int)} (h : Ahead css ds rows cls) : (0 < rows.length ∧ rows.length = ds.length) ↔ IsLad css (.list ds) := by
  constructor
  · rintro ⟨l0, e⟩
    refine ⟨rows, cls, ?_, h.ld, l0, h.le⟩
    rw [← h.tk, e, List.take_length]
  · rintro ⟨rs, cs, e, ld, l1, l2⟩
    have e := PyData.list.inj e
    subst e
    have tk := h.tk
    rw [← List.map_take] at tk
    have er := map_inj tk
    have ll : (rs.map dat).length = rs.length := List.length_map ..
    have ln := h.ln
    rw [ll] at ln ⊢
    have full : rows.length = rs.length := by
      rcases h.st with z | z | ⟨d, hd, no⟩
      · rw [ll] at z
        exact z
      · omega
      · exfalso
        rw [List.getElem?_map] at hd
        have lt : rows.length < rs.length := by
          cases q : rs[rows.length]? with
          | none =>
            rw [q] at hd
            cases hd
          | some r => exact (List.getElem?_eq_some_iff.mp q).1
        have hr := List.getElem?_eq_getElem lt
        rw [hr] at hd
        have lc := ld.1
        have hc := List.getElem?_eq_getElem (show rows.length < cs.length by omega)
        have rc := ld.2 _ _ _ hr hc
        have lt2 := ld.take rows.length
        rw [er] at lt2
        have ec := Lad.one h.ld lt2
        rw [← ec] at rc
        exact no _ _ (Option.some.inj hd).symm rc
    exact ⟨by omega, full⟩
/-- two tellings of what stands ahead of the fault are one -/
theorem Ahead.one {css : List (List Int)} {ds : List PyData} {r1 r2 : List Rw} {c1 c2 : List (List Int)} (a : Ahead css ds r1 c1) (b : Ahead css ds r2 c2) : r1 = r2 ∧ c1 = c2 := by
  have key : ∀ {r1 r2 : List Rw} {c1 c2 : List (List Int)}, Ahead css ds r1 c1 → Ahead css ds r2 c2 → r2.length ≤ r1.length := fun {r1 r2 c1 c2} a b => by
    apply Classical.byContradiction
    intro n
    have lt : r1.length < r2.length := by omega
    have bl := b.le
    have bn := b.ln
    have pre : r2.take r1.length = r1 := map_inj (by rw [List.map_take, ← b.tk, List.take_take, Nat.min_eq_left (by omega), a.tk])
    rcases a.st with z | z | ⟨d, hd, no⟩
    · omega
    · omega
    · have hr := List.getElem?_eq_getElem lt
      have lc := b.ld.1
      have hc := List.getElem?_eq_getElem (show r1.length < c2.length by omega)
      have rc := b.ld.2 _ _ _ hr hc
      have lt2 := b.ld.take r1.length
      rw [pre] at lt2
      rw [← Lad.one a.ld lt2] at rc
      refine no _ _ ?_ rc
      have : (ds.take r2.length)[r1.length]? = some d := by rw [List.getElem?_take, if_pos lt]; exact hd
      rw [b.tk, List.getElem?_map, hr] at this
      exact (Option.some.inj this).symm
  have le1 := key a b
  have le2 := key b a
  have e : r1 = r2 := map_inj (by rw [← a.tk, ← b.tk, show r1.length = r2.length by omega])
  subst e
  exact ⟨rfl, Lad.one a.ld b.ld⟩
section
variable {P : Program} {w : World} {K : PySem.W.Frag} {mg : Str → Option Value} {base : Heap}
/-- whether it is a whole number, of anything -/
def spWhG : Sp := fun vs H Q _ => ∃ (f0 : Addr → Prop) (v : V) (d : PyData), vs = [v] ∧ OdV f0 H v d ∧ Q (.bl (whD d)) H
theorem ok_whp {f : Addr} {fd : FuncData} {k : Nat} (F : Fun K "is_whole" "is_whole" sWho f fd) (T : Zc mg) : FnOk P w K mg base CX0 (k + 1) f fd ["thing"] spWhG := by
  refine F.ok scWho (fun vs H Q E h => ?_) (fun cdv A outer s H vs Q E hr h => ?_)
  · obtain ⟨f0, v, d, rfl, _⟩ := h
    rfl
  · obtain ⟨f0, v, d, rfl, hv, q⟩ := h
    refine ⟨_, (pss_one (ps_ret (pe_and (pe_callB call_isi (by rfl) T.z_isinstance (by decide +kernel) (pa_cons (pv 0) (pa_cons (pe_bltn (v := .ty "int") (u := .type "int") (by rfl) T.z_int (by decide +kernel) rfl) pa_nil))) (pe_one (pe_not (pe_callB call_isi (by rfl) T.z_isinstance (by decide +kernel) (pa_cons (pv 0) (pa_cons (pe_bltn (v := .ty "bool") (u := .type "bool") (by rfl) T.z_bool (by decide +kernel) rfl) pa_nil)))))))), ?_⟩
    have t := hv.ty (K := K)
    cases d with
    | int n => exact ⟨_, rfl, v, .ty "int", .type "int", .type "int", true, rfl, .ty _, t, kit_ty (by decide +kernel), _, rfl, _, rfl, v, .ty "bool", .type "int", .type "bool", false, rfl, .ty _, t, kit_ty (by decide +kernel), _, rfl, q⟩
    | bool b => exact ⟨_, rfl, v, .ty "int", .type "bool", .type "int", true, rfl, .ty _, t, kit_ty (by decide +kernel), _, rfl, _, rfl, v, .ty "bool", .type "bool", .type "bool", true, rfl, .ty _, t, kit_ty (by decide +kernel), _, rfl, q⟩
    | none => exact ⟨_, rfl, v, .ty "int", .type "NoneType", .type "int", false, rfl, .ty _, t, kit_ty (by decide +kernel), _, rfl, q⟩
    | str x => exact ⟨_, rfl, v, .ty "int", .type "str", .type "int", false, rfl, .ty _, t, kit_ty (by decide +kernel), _, rfl, q⟩
    | list x => exact ⟨_, rfl, v, .ty "int", .type "list", .type "int", false, rfl, .ty _, t, kit_ty (by decide +kernel), _, rfl, q⟩
    | tuple x => exact ⟨_, rfl, v, .ty "int", .type "tuple", .type "int", false, rfl, .ty _, t, kit_ty (by decide +kernel), _, rfl, q⟩
    | dict x => cases hv
theorem wh_weak {f : Addr} {fd : FuncData} {k : Nat} (F : FnOk P w K mg base CX0 k f fd ["thing"] spWhG) : FnOk P w K mg base CX0 k f fd ["thing"] spWho := ok_weak F fun vs H Q E ⟨n, e, q⟩ => ⟨Nof, .int n, .int n, e, .int n, q⟩
def spNmG : Sp := fun vs H Q _ => ∃ (f0 : Addr → Prop) (v : V) (d : PyData) (m : Int), vs = [v, .int m] ∧ OdV f0 H v d ∧ Q (.bl (numD d m)) H
theorem ok_numG {f fW : Addr} {fd fdW : FuncData} {k : Nat} (F : Fun K "is_number_of" "is_number_of" sNum f fd) (FW : Fun K "is_whole" "is_whole" sWho fW fdW) (bW : Binds K fdW ["thing"] []) (gW : mg "is_whole" = some (.ref fW)) (GW : FnOk P w K mg base CX0 1 fW fdW ["thing"] spWhG) :
    FnOk P w K mg base CX0 (k + 2) f fd ["thing", "many"] spNmG := by
  refine F.ok scNum (fun vs H Q E h => ?_) (fun cdv A outer s H vs Q E hr h => ?_)
  · obtain ⟨f0, v, d, m, rfl, _⟩ := h
    rfl
  · obtain ⟨f0, v, d, m, rfl, hv, q⟩ := h
    have hr1 : Room 1 _ := hr.mono (by omega)
    refine ⟨_, (pss_one (ps_ret (pe_and (pe_call GW hr1 (by rfl) gW FW.kp bW .nil pass0 (pa_cons (pv 0) pa_nil)) (pe_one (pe_chain op_le op_lt pe_int (pv 0) (pv 1)))))), ?_⟩
    cases d with
    | int n =>
      cases hv
      refine ⟨_, rfl, f0, .int n, .int n, rfl, .int n, _, rfl, ?_⟩
      refine ⟨_, rfl, 0, _, rfl, rfl, decide (0 ≤ n), rfl, ?_⟩
      have q : Q (.bl (decide (0 ≤ n) && decide (n < m))) H := q
      cases e1 : decide (0 ≤ n) with
      | false =>
        rw [e1] at q
        exact q
      | true =>
        rw [e1] at q
        exact ⟨_, rfl, _, _, rfl, rfl, q⟩
    | bool b => exact ⟨_, rfl, f0, v, _, rfl, hv, _, rfl, q⟩
    | none => exact ⟨_, rfl, f0, v, _, rfl, hv, _, rfl, q⟩
    | str x => exact ⟨_, rfl, f0, v, _, rfl, hv, _, rfl, q⟩
    | list x => exact ⟨_, rfl, f0, v, _, rfl, hv, _, rfl, q⟩
    | tuple x => exact ⟨_, rfl, f0, v, _, rfl, hv, _, rfl, q⟩
    | dict x => cases hv
/-- by what is no whole number no two meet -/
def spCmN : Sp := fun vs H Q _ => ∃ (f0 : Addr → Prop) (v u kv : V) (d : PyData), vs = [v, u, kv] ∧ OdV f0 H kv d ∧ whD d = false ∧ Q (.bl false) H
theorem ok_cmN {f fW : Addr} {fd fdW : FuncData} {k : Nat} {tk : Tok} (F : Fun K "can_meet" "can_meet" sCme f fd) (T : Zc mg) (M8 : mg "MOST_THINGS" = some (.int 8 tk)) (FW : Fun K "is_whole" "is_whole" sWho fW fdW) (bW : Binds K fdW ["thing"] []) (gW : mg "is_whole" = some (.ref fW)) (GW : FnOk P w K mg base CX0 1 fW fdW ["thing"] spWhG) :
    FnOk P w K mg base CX0 (k + 2) f fd ["one", "other", "k"] spCmN := by
  refine F.ok scCme (fun vs H Q E h => ?_) (fun cdv A outer s H vs Q E hr h => ?_)
  · obtain ⟨f0, v, u, kv, d, rfl, _⟩ := h
    rfl
  · obtain ⟨f0, v, u, kv, d, rfl, hv, no, q⟩ := h
    have hr1 : Room 1 _ := hr.mono (by omega)
    refine ⟨_, (pss_one (ps_ret (pe_and (pe_call GW hr1 (by rfl) gW FW.kp bW .nil pass0 (pa_cons (pv 2) pa_nil)) (pe_and (pe_chain op_le op_le pe_int (pv 2) (pe_glob (v := .int 8) rfl M8 ⟨_, rfl⟩)) (pe_and (pe_cmpR op_in_seq (pv 2) (pv 0) (by rfl)) (pe_one (pe_cmpR op_in_seq (pe_un un_neg (pv 2)) (pv 1) (by rfl)))))))), ?_⟩
    refine ⟨_, rfl, f0, kv, d, rfl, hv, _, rfl, ?_⟩
    rw [no]
    exact q
def spCoN : Sp := fun vs H Q _ => ∃ (f0 : Addr → Prop) (v u kv : V) (d : PyData), vs = [v, u, kv] ∧ OdV f0 H kv d ∧ whD d = false ∧ Q .non H
theorem ok_coN {f fM fH Po : Addr} {fd fdM fdH : FuncData} {k : Nat} (F : Fun K "cut_or_none" "cut_or_none" sCon f fd) (T : Zc mg) (FM : Fun K "can_meet" "can_meet" sCme fM fdM) (bM : Binds K fdM ["one", "other", "k"] []) (gM : mg "can_meet" = some (.ref fM)) (GM : FnOk P w K mg base CX0 2 fM fdM ["one", "other", "k"] spCmN)
    (kpH : PySem.W.keepIn K (.ref fH) = true) (bH : Binds K fdH ["says"] []) (gH : mg "has_opposites" = some (.ref fH)) (GH : FnOk P w K mg base CX0 3 fH fdH ["says"] (spHop Po)) :
    FnOk P w K mg base CX0 (k + 4) f fd ["one", "other", "k"] spCoN := by
  refine F.ok scCon (fun vs H Q E h => ?_) (fun cdv A outer s H vs Q E hr h => ?_)
  · obtain ⟨f0, v, u, kv, d, rfl, _⟩ := h
    rfl
  · obtain ⟨f0, v, u, kv, d, rfl, hv, no, q⟩ := h
    have hr2 : Room 2 _ := hr.mono (by omega)
    have hr3 : Room 3 _ := hr.mono (by omega)
    refine ⟨_, (pss_cons (ps_if (pt_not (pt_val (pe_call GM hr2 (by rfl) gM FM.kp bM .nil pass0 (pa_cons (pv 0) (pa_cons (pv 1) (pa_cons (pv 2) pa_nil)))))) (pss_one (ps_ret pe_non)) pss_nil)
      (Evl.pss_cut (ps_set (i := 3) scCon.nd rfl (.inl rfl) (pe_op op_catN (pe_lc (own := [("say", 4)]) (g := (gName 4))  rfl scCon.nd (pi_tup (pv 0)) (blkOk_by (N := nCon) (sc := defScope sCon) (by decide +kernel)) (fun _ _ _ _ _ => (pg_name (i := 4) scCon.nd rfl (.inl rfl))) (fun _ _ _ _ _ => (pts_one (pt_cmpR op_ne (pv 4) (pv 2) (nomark _)))) (fun _ _ _ _ _ => (pv 4))) (pe_lc (own := [("say", 4)]) (g := (gName 4))  rfl scCon.nd (pi_tup (pv 1)) (blkOk_by (N := nCon) (sc := defScope sCon) (by decide +kernel)) (fun _ _ _ _ _ => (pg_name (i := 4) scCon.nd rfl (.inl rfl))) (fun _ _ _ _ _ => (pts_one (pt_cmpR op_ne (pv 4) (pe_un un_neg (pv 2)) (nomark _)))) (fun _ _ _ _ _ => (pv 4)))))
      (pss_cons (ps_if (pt_val (pe_call GH hr3 (by rfl) gH kpH bH .nil pass0 (pa_cons (pv 3) pa_nil))) (pss_one (ps_ret pe_non)) pss_nil)
      (pss_one (ps_ret (pe_callTy call_tuple_ofN (by rfl) T.z_tuple (by decide +kernel) (pa_cons (pe_callB (St.cr_sortedS rfl) (by rfl) T.z_sorted (by decide +kernel) (pa_cons (pe_callTy (St.cr_setL rfl) (by rfl) T.z_set (by decide +kernel) (pa_cons (pv 3) pa_nil)) pa_nil)) pa_nil))))))), ?_⟩
    exact ⟨_, rfl, _, rfl, _, rfl, f0, v, u, kv, d, rfl, hv, no, _, rfl, q⟩
/-- claim_of_row, of anything -/
def spRoG (Po : Addr) : Sp := fun vs H Q _ => ∃ (f0 : Addr → Prop) (b v : V) (L : Addr) (css cls : List (List Int)) (d : PyData), vs = [b, .ref L, v] ∧ Bk H b css ∧ ClL H L cls ∧ OdV f0 H v d ∧ SeqAt.shaped d = true ∧ (∀ c ∈ css, IsCl c) ∧ (∀ c ∈ cls, IsCl c) ∧ TabG H Po ∧
  (∀ H', Ke Nof H H' → NoRow css cls d → Q .non H') ∧ ∀ (r : Rw) (c : List Int) (p : Addr) (H' : Hp), Ke Nof H H' → d = dat r → RowCl css cls r c → H' p = some (.tup (c.map V.int)) → Q (.ref p) H'
theorem ok_roG {f fN fC Po : Addr} {fd fdN fdC : FuncData} {k : Nat} (F : Fun K "claim_of_row" "claim_of_row" sRow f fd) (T : Zp mg) (FN : Fun K "is_number_of" "is_number_of" sNum fN fdN) (bN : Binds K fdN ["thing", "many"] []) (gN : mg "is_number_of" = some (.ref fN)) (GN : FnOk P w K mg base CX0 2 fN fdN ["thing", "many"] spNmG)
    (FC : Fun K "cut_or_none" "cut_or_none" sCon fC fdC) (bC : Binds K fdC ["one", "other", "k"] []) (gC : mg "cut_or_none" = some (.ref fC)) (GC : FnOk P w K mg base CX0 4 fC fdC ["one", "other", "k"] (orS (spCon Po) spCoN)) :
    FnOk P w K mg base CX0 (k + 5) f fd ["book", "claims", "row"] (spRoG Po) := by
  refine F.ok scRow (fun vs H Q E h => ?_) (fun cdv A outer s H vs Q E hr h => ?_)
  · obtain ⟨f0, b, v, L, css, cls, d, rfl, _⟩ := h
    rfl
  · obtain ⟨f0, b, v, L, css, cls, d, rfl, hb, ⟨lvs, hL, aL⟩, hv, sh, ib, ic, tg, q1, q2⟩ := h
    have hr2 : Room 2 _ := hr.mono (by omega)
    have hr4 : Room 4 _ := hr.mono (by omega)
    refine ⟨_, (pss_cons (ps_if (pt_not (pt_val (pe_callB call_isi (by rfl) T.z_isinstance (by decide +kernel) (pa_cons (pv 2) (pa_cons (pe_bltn (v := .ty "tuple") (u := .type "tuple") (by rfl) T.z_tuple (by decide +kernel) rfl) pa_nil))))) (pss_one (ps_ret pe_non)) pss_nil)
      (pss_cons (ps_if (PW.pt (pw_and (pt_cmpR op_eq (pe_callB call_len_seq (by rfl) T.z_len (by decide +kernel) (pa_cons (pv 2) pa_nil)) pe_int (nomark _)) (pw_and1 (pt_cmpR (op_eqD hr.units) (pe_ix ix_tup (pv 2) pe_int (fun _ _ => rfl)) pe_str (nomark _))))) (pss_one (ps_ret (pe_ifExp (pt_val (pe_call GN hr2 (by rfl) gN FN.kp bN .nil pass0 (pa_cons (pe_ix ix_tup (pv 2) pe_int (fun _ _ => rfl)) (pa_cons (pe_callB call_len_seq (by rfl) T.z_len (by decide +kernel) (pa_cons (pv 0) pa_nil)) pa_nil)))) (pe_ix ix_tup (pv 0) (pe_ix ix_tup (pv 2) pe_int (fun _ _ => rfl)) (fun _ _ => rfl)) pe_non))) pss_nil)
      (pss_cons (ps_if (PW.pt (pw_and (pt_cmpR op_eq (pe_callB call_len_seq (by rfl) T.z_len (by decide +kernel) (pa_cons (pv 2) pa_nil)) pe_int (nomark _)) (pw_and1 (pt_cmpR (op_eqD hr.units) (pe_ix ix_tup (pv 2) pe_int (fun _ _ => rfl)) pe_str (nomark _))))) (pss_one (ps_if (PW.pt (pw_and (pt_val (pe_call GN hr2 (by rfl) gN FN.kp bN .nil pass0 (pa_cons (pe_ix ix_tup (pv 2) pe_int (fun _ _ => rfl)) (pa_cons (pe_callB call_len_seq (by rfl) T.z_len (by decide +kernel) (pa_cons (pv 1) pa_nil)) pa_nil)))) (pw_and1 (pt_val (pe_call GN hr2 (by rfl) gN FN.kp bN .nil pass0 (pa_cons (pe_ix ix_tup (pv 2) pe_int (fun _ _ => rfl)) (pa_cons (pe_callB call_len_seq (by rfl) T.z_len (by decide +kernel) (pa_cons (pv 1) pa_nil)) pa_nil))))))) (pss_one (ps_ret (pe_call GC hr4 (by rfl) gC FC.kp bC .nil pass0 (pa_cons (pe_ix ix_list (pv 1) (pe_ix ix_tup (pv 2) pe_int (fun _ _ => rfl)) (fun _ _ => rfl)) (pa_cons (pe_ix ix_list (pv 1) (pe_ix ix_tup (pv 2) pe_int (fun _ _ => rfl)) (fun _ _ => rfl)) (pa_cons (pe_ix ix_tup (pv 2) pe_int (fun _ _ => rfl)) pa_nil)))))) pss_nil)) pss_nil)
      (pss_one (ps_ret pe_non))))), ?_⟩
    obtain ⟨b, bvs, rfl, hbt, aB⟩ := bk_all hb
    have no : (∀ ds, d ≠ .tuple ds) → Q .non H := fun n => q1 H (.refl _ _) fun r c e => absurd (dat_tup e) fun ⟨ds, z⟩ => n ds z
    have t := hv.ty (K := K)
    cases d with
    | int n => exact ⟨_, rfl, v, .ty "tuple", .type "int", .type "tuple", false, rfl, .ty _, t, kit_ty (by decide +kernel), _, rfl, no fun _ => nofun⟩
    | bool n => exact ⟨_, rfl, v, .ty "tuple", .type "bool", .type "tuple", false, rfl, .ty _, t, kit_ty (by decide +kernel), _, rfl, no fun _ => nofun⟩
    | none => exact ⟨_, rfl, v, .ty "tuple", .type "NoneType", .type "tuple", false, rfl, .ty _, t, kit_ty (by decide +kernel), _, rfl, no fun _ => nofun⟩
    | str x => exact ⟨_, rfl, v, .ty "tuple", .type "str", .type "tuple", false, rfl, .ty _, t, kit_ty (by decide +kernel), _, rfl, no fun _ => nofun⟩
    | list x => exact ⟨_, rfl, v, .ty "tuple", .type "list", .type "tuple", false, rfl, .ty _, t, kit_ty (by decide +kernel), _, rfl, no fun _ => nofun⟩
    | dict x => cases hv
    | tuple ds =>
      cases id hv with
      | tup ha od =>
        rename_i a xs
        have lx := od.len
        have shp := shaped_tup sh
        refine ⟨_, rfl, .ref a, .ty "tuple", .type "tuple", .type "tuple", true, rfl, .ty _, t, kit_ty (by decide +kernel), _, rfl, ?_⟩
        by_cases h2 : xs.length = 2
        · obtain ⟨v0, v1, d0, d1, rfl, rfl, o0, o1⟩ := two_of od h2
          refine ⟨_, rfl, a, _, rfl, .inr (.of ha), rfl, true, rfl, ?_⟩
          refine ⟨_, rfl, a, _, 0, v0, rfl, rfl, .of ha, rfl, d0, .str "book", o0.dp, .str _, shp d0 (by simp), shaped_book, _, rfl, ite2 (fun e => ?_) (fun e => ?_)⟩
          · have e0 := eqv_str.mp e
            refine ⟨_, rfl, a, _, 1, v1, rfl, rfl, .of ha, rfl, _, rfl, b, _, rfl, .inr (.of hbt), f0, v1, d1, _, rfl, o1, _, rfl, ite2 (fun y => ?_) (fun y => ?_)⟩
            · obtain ⟨n, rfl, lt⟩ := num_int y
              cases o1
              have lt : n < bvs.length := by omega
              obtain ⟨c, hc, p, e, hp⟩ := aB.at (List.getElem?_eq_getElem lt)
              refine ⟨_, rfl, _, rfl, a, _, 1, .int (n : Nat), rfl, rfl, .of ha, rfl, b, bvs, _, .ref p, rfl, rfl, .of hbt, at_of (j := n) rfl (by rw [List.getElem?_eq_getElem lt, e]), ?_⟩
              exact q2 (.book n) c p H (.refl _ _) (by rw [e0]; rfl) hc hp
            · refine q1 H (.refl _ _) fun r c er rc => ?_
              obtain ⟨n, rfl, _, rfl⟩ := dat_two er
              have h1 := (List.getElem?_eq_some_iff.mp rc).1
              have h3 := aB.1
              exact y (num_yes (by omega))
          · refine ⟨_, rfl, a, _, rfl, .inr (.of ha), rfl, false, rfl, ?_⟩
            refine q1 H (.refl _ _) fun r c er rc => ?_
            obtain ⟨n, _, e0, _⟩ := dat_two er
            exact e (eqv_str.mpr e0)
        · refine ⟨_, rfl, a, _, rfl, .inr (.of ha), rfl, false, ?_, ?_⟩
          · rw [decide_eq_false]
            intro z
            have := V.int.inj z
            omega
          by_cases h4 : xs.length = 4
          · obtain ⟨v0, v1, v2, v3, d0, d1, d2, d3, rfl, rfl, o0, o1, o2, o3⟩ := four_of od h4
            refine ⟨_, rfl, a, _, rfl, .inr (.of ha), rfl, true, rfl, ?_⟩
            have nope : d0 ≠ .str "cut" ∨ numD d1 lvs.length = false ∨ numD d2 lvs.length = false → Q .non H := fun z => q1 H (.refl _ _) fun r c er rc => by
              obtain ⟨i, j, k, rfl, e0, rfl, rfl, _⟩ := dat_four er
              have h1 := rc.parts
              have h3 := aL.1
              rcases z with z | z | z
              · exact z e0
              · rw [num_yes (by omega)] at z
                cases z
              · rw [num_yes (by omega)] at z
                cases z
            refine ⟨_, rfl, a, _, 0, v0, rfl, rfl, .of ha, rfl, d0, .str "cut", o0.dp, .str _, shp d0 (by simp), shaped_cut, _, rfl, ite2 (fun e => ?_) (fun e => ?_)⟩
            · have e0 := eqv_str.mp e
              refine ⟨_, rfl, a, _, 1, v1, rfl, rfl, .of ha, rfl, _, rfl, L, _, rfl, .inl (.of hL), f0, v1, d1, _, rfl, o1, _, rfl, ite2 (fun y1 => ?_) (fun y1 => ?_)⟩
              · refine ⟨_, rfl, a, _, 2, v2, rfl, rfl, .of ha, rfl, _, rfl, L, _, rfl, .inl (.of hL), f0, v2, d2, _, rfl, o2, _, rfl, ite2 (fun y2 => ?_) (fun y2 => ?_)⟩
                · obtain ⟨i, rfl, li⟩ := num_int y1
                  obtain ⟨j, rfl, lj⟩ := num_int y2
                  cases o1
                  cases o2
                  have li : i < lvs.length := by omega
                  have lj : j < lvs.length := by omega
                  obtain ⟨ci, hci, ti⟩ := aL.at (List.getElem?_eq_getElem li)
                  obtain ⟨cj, hcj, tj⟩ := aL.at (List.getElem?_eq_getElem lj)
                  have i1 := ic ci (List.mem_of_getElem? hci)
                  have i2 := ic cj (List.mem_of_getElem? hcj)
                  have z1 := i1.len
                  have z2 := i2.len
                  refine ⟨_, rfl, _, rfl, a, _, 1, .int (i : Nat), rfl, rfl, .of ha, rfl, L, lvs, _, lvs[i], rfl, rfl, .of hL, at_of (j := i) rfl (List.getElem?_eq_getElem li), ?_⟩
                  refine ⟨_, rfl, _, rfl, a, _, 2, .int (j : Nat), rfl, rfl, .of ha, rfl, L, lvs, _, lvs[j], rfl, rfl, .of hL, at_of (j := j) rfl (List.getElem?_eq_getElem lj), ?_⟩
                  refine ⟨_, rfl, a, _, 3, v3, rfl, rfl, .of ha, rfl, ?_⟩
                  cases hw : whD d3 with
                  | false =>
                    refine .inr ⟨f0, lvs[i], lvs[j], v3, d3, rfl, o3, hw, q1 H (.refl _ _) fun r c er rc => ?_⟩
                    obtain ⟨_, _, k, _, _, _, _, rfl⟩ := dat_four er
                    cases hw
                  | true =>
                    obtain ⟨k, rfl⟩ : ∃ k : Int, d3 = .int k := by
                      cases d3 with
                      | int k => exact ⟨k, rfl⟩
                      | _ => cases hw
                    cases o3
                    refine .inl ⟨lvs[i], lvs[j], k, ci, cj, rfl, ti, tj, by omega, by omega, tg, fun H' ke no => ?_, fun ns p H' ke m o up me hp => ?_⟩
                    · refine q1 H' ke fun r c er rc => ?_
                      obtain ⟨i', j', k', rfl, _, e1, e2, e3⟩ := dat_four er
                      have h1 := PyData.int.inj e1
                      have h2 := PyData.int.inj e2
                      have h3 := PyData.int.inj e3
                      obtain ⟨x, y', g1, g2, g3⟩ := rc
                      rw [show i' = i by omega] at g1
                      rw [show j' = j by omega] at g2
                      cases hci.symm.trans g1
                      cases hcj.symm.trans g2
                      rw [← h3] at g3
                      exact g3.no (nocome_of i1 i2 no)
                    · exact q2 (.cut i j k) ns p H' ke (by rw [e0]; rfl) ⟨ci, cj, hci, hcj, comes_of i1 i2 m o up me⟩ hp
                · exact nope (.inr (.inr (Bool.eq_false_iff.mpr y2)))
              · exact nope (.inr (.inl (Bool.eq_false_iff.mpr y1)))
            · exact nope (.inl fun z => e (eqv_str.mpr z))
          · refine ⟨_, rfl, a, _, rfl, .inr (.of ha), rfl, false, ?_, ?_⟩
            · rw [decide_eq_false]
              intro z
              have := V.int.inj z
              omega
            refine q1 H (.refl _ _) fun r c er rc => ?_
            rcases dat_len er with z | z
            · exact h2 (by omega)
            · exact h4 (by omega)
theorem cut_200 (xs : List V) : cutV xs none (some 200) = xs.take 200 := by
  unfold cutV
  rw [show (200 : Int) = ((200 : Nat) : Int) from rfl, HT.sIx_none, HT.sIx_nat, List.drop_zero, Nat.sub_zero]
  by_cases h : 200 ≤ xs.length
  · rw [Nat.min_eq_left h]
  · rw [Nat.min_eq_right (by omega), List.take_length, List.take_of_length_le (by omega)]
/-- claims_ahead_of_fault, of anything -/
def spAhG (Po : Addr) : Sp := fun vs H Q _ => ∃ (f0 : Addr → Prop) (b v : V) (css : List (List Int)) (d : PyData), vs = [b, v] ∧ Bk H b css ∧ (∀ c ∈ css, IsCl c) ∧ OdV f0 H v d ∧ SeqAt.shaped d = true ∧ TabG H Po ∧
  (∀ p H', H p = none → Ke Nof H H' → (∀ ds, d ≠ .list ds) → H' p = some (.lst []) → Q (.ref p) H') ∧
  ∀ ds p rows cls H', H p = none → Ke Nof H H' → d = .list ds → Ahead css ds rows cls → ClL H' p cls → Q (.ref p) H'
theorem ok_ahG {f fR Po : Addr} {fd fdR : FuncData} {k : Nat} {tk : Tok} (F : Fun K "claims_ahead_of_fault" "claims_ahead_of_fault" sAhe f fd) (T : Zp mg) (M2 : mg "MOST_ROWS" = some (.int 200 tk)) (FR : Fun K "claim_of_row" "claim_of_row" sRow fR fdR) (bR : Binds K fdR ["book", "claims", "row"] []) (gR : mg "claim_of_row" = some (.ref fR)) (GR : FnOk P w K mg base CX0 5 fR fdR ["book", "claims", "row"] (spRoG Po)) :
    FnOk P w K mg base CX0 (k + 6) f fd ["book", "thing"] (spAhG Po) := by
  refine F.ok scAhe (fun vs H Q E h => ?_) (fun cdv A outer s H vs Q E hr h => ?_)
  · obtain ⟨f0, b, v, css, d, rfl, _⟩ := h
    rfl
  · obtain ⟨f0, b, v, css, d, rfl, hb, ib, hv, sh, tg, q1, q2⟩ := h
    have hr5 : Room 5 _ := hr.mono (by omega)
    refine ⟨_, (Evl.pss_cut (ps_set (i := 2) scAhe.nd rfl (.inl rfl) (pe_lstN pa_nil))
      (pss_cons (ps_if (pt_not (pt_val (pe_callB call_isi (by rfl) T.z_isinstance (by decide +kernel) (pa_cons (pv 1) (pa_cons (pe_bltn (v := .ty "list") (u := .type "list") (by rfl) T.z_list (by decide +kernel) rfl) pa_nil))))) (pss_one (ps_ret (pv 2))) pss_nil)
      (pss_cons (ps_for PassesOwn.never rfl (pi_list (pe_slice sl_listN (pv 1) po_none (po_some (pe_glob (v := .int 200) rfl M2 ⟨_, rfl⟩)))) (pg_name (i := 3) scAhe.nd rfl (.inl rfl)) (pss_cons (ps_set (i := 4) scAhe.nd rfl (.inl rfl) (pe_call GR hr5 (by rfl) gR FR.kp bR .nil pass0 (pa_cons (pv 0) (pa_cons (pv 2) (pa_cons (pv 3) pa_nil)))))
      (pss_cons (ps_if (pt_cmpR op_isN (pv 4) pe_non (nomark _)) (pss_one (ps_ret (pv 2))) pss_nil)
      (pss_one (ps_expr (pe_bm PySem.F.plainAttrs_list PySem.F.slot_list_append PySem.F.type_list_append mt_append (pv 2) (pa_cons (pv 4) pa_nil)))))))
      (pss_one (ps_ret (pv 2)))))), ?_⟩
    refine Evl.q_cut (M := fun σ' H' => ∃ D : Addr, σ' = [some b, some v, some (.ref D), none, none] ∧ H D = none ∧ Same H H' ∧ H' D = some (.lst [])) ?_ ?_
    · exact ⟨Nat.zero_le _, fun D H1 nD s1 hD _ => ⟨D, rfl, nD, s1, hD⟩⟩
    rintro σ' H1 ⟨D, rfl, nD, s1, hD⟩
    have hv1 : OdV f0 H1 v d := hv.ke (.same s1)
    have t := hv1.ty (K := K)
    have no : (∀ ds, d ≠ .list ds) → Q (.ref D) H1 := fun n => q1 D H1 nD (.same s1) n hD
    cases d with
    | int n => exact ⟨_, rfl, v, .ty "list", .type "int", .type "list", false, rfl, .ty _, t, kit_ty (by decide +kernel), _, rfl, _, rfl, no fun _ => nofun⟩
    | bool n => exact ⟨_, rfl, v, .ty "list", .type "bool", .type "list", false, rfl, .ty _, t, kit_ty (by decide +kernel), _, rfl, _, rfl, no fun _ => nofun⟩
    | none => exact ⟨_, rfl, v, .ty "list", .type "NoneType", .type "list", false, rfl, .ty _, t, kit_ty (by decide +kernel), _, rfl, _, rfl, no fun _ => nofun⟩
    | str x => exact ⟨_, rfl, v, .ty "list", .type "str", .type "list", false, rfl, .ty _, t, kit_ty (by decide +kernel), _, rfl, _, rfl, no fun _ => nofun⟩
    | tuple x => exact ⟨_, rfl, v, .ty "list", .type "tuple", .type "list", false, rfl, .ty _, t, kit_ty (by decide +kernel), _, rfl, _, rfl, no fun _ => nofun⟩
    | dict x => cases hv
    | list ds =>
      cases id hv with
      | lst hL nf od =>
        rename_i L xs
        have lx := od.len
        have shp := shaped_lst sh
        refine ⟨_, rfl, .ref L, .ty "list", .type "list", .type "list", true, rfl, .ty _, t, kit_ty (by decide +kernel), _, rfl, ?_⟩
        refine ⟨_, rfl, _, rfl, L, _, rfl, .of (s1 _ _ hL), fun S H2 nS s2 hS _ => ?_⟩
        rw [cut_200] at hS
        have nSD : S ≠ D := Ne.symm (ne_of_none hD nS)
        have k02 : Ke Nof H H2 := (Ke.same s1).trans (.same s2)
        have lt200 : (xs.take 200).length = min 200 xs.length := List.length_take
        refine ⟨S, rfl, ⟨_, .of hS⟩, for_list (K := K) (a := S) (xs := xs.take 200) (Pv := fun i σ H' => ∃ (y3 y4 : Option V) (rows : List Rw) (cls : List (List Int)), σ = [some b, some (.ref L), some (.ref D), y3, y4] ∧ Ke Nof H H' ∧ H' S = some (.lst (xs.take 200)) ∧ rows.length = i ∧ Lad css rows cls ∧ ds.take i = rows.map dat ∧ ClL H' D cls) ?_ (fun i σ H' _ p => ?_) ?_ ?_⟩
        · exact ⟨none, none, [], [], rfl, k02, hS, rfl, .nil css, rfl, [], s2 _ _ hD, .nil⟩
        · obtain ⟨_, _, _, _, _, _, h, _⟩ := p
          exact .of h
        · rintro i x σ H3 hx ⟨y3, y4, rows, cls, rfl, k3, hS3, lr, ld, tk, hD3⟩
          have li : i < min 200 xs.length := by rw [← lt200]; exact (List.getElem?_eq_some_iff.mp hx).1
          rw [List.getElem?_take, if_pos (by omega)] at hx
          obtain ⟨d, hd, ox⟩ := od.at hx
          obtain ⟨dvs, hD3', aD⟩ := id hD3
          have lcl := ld.1
          have lad := aD.1
          refine ⟨_, rfl, _, rfl, _, rfl, f0, b, x, D, css, cls, d, rfl, hb.ke k3, hD3, ox.ke k3.all, shp d (List.mem_of_getElem? hd), ib, ld.isCl ib, k3.tabs _ tg, fun H4 k4 no => ?_, fun r c p H4 k4 er rc hp => ?_⟩
          · refine ⟨_, rfl, rfl, true, rfl, ?_⟩
            exact ⟨_, rfl, q2 ds D rows cls H4 nD (k3.trans k4) rfl ⟨ld, by rw [lr]; exact tk, by omega, by omega, .inr (.inr ⟨d, by rw [lr]; exact hd, no⟩)⟩ (hD3.ke k4 fun z => z)⟩
          · refine ⟨_, rfl, rfl, false, rfl, ?_⟩
            have hD4 := k4.lst hD3' fun z => z
            have hS4 := k4.lst hS3 fun z => z
            refine ⟨_, rfl, .inl ⟨rfl, _, .of hD4⟩, _, rfl, D, _, _, rfl, rfl, hD4, small1000 (by omega), ?_⟩
            refine ⟨_, _, rows ++ [r], cls ++ [c], rfl, (k3.trans k4).upd nD, by rw [upd_ne nSD]; exact hS4, by rw [List.length_append, lr]; rfl, ld.snoc rc, ?_, cl_snoc hD4 (aD.imp fun _ _ t => t.ke k4) ⟨p, rfl, hp⟩⟩
            rw [take_snoc hd, tk, List.map_append, er]
            rfl
        · rintro σ H3 ⟨y3, y4, rows, cls, rfl, k3, _, lr, ld, tk, hD3⟩
          rw [lt200] at lr tk
          refine ⟨_, rfl, q2 ds D rows cls H3 nD k3 rfl ⟨ld, by rw [lr]; exact tk, by omega, by omega, ?_⟩ hD3⟩
          by_cases z : xs.length ≤ 200
          · exact .inl (by omega)
          · exact .inr (.inl (by omega))
/-- is_ladder, of anything -/
def spIsG (Po : Addr) : Sp := fun vs H Q _ => ∃ (f0 : Addr → Prop) (b v : V) (css : List (List Int)) (d : PyData), vs = [b, v] ∧ Bk H b css ∧ (∀ c ∈ css, IsCl c) ∧ OdV f0 H v d ∧ SeqAt.shaped d = true ∧ TabG H Po ∧
  ∀ t H', (t = true ↔ IsLad css d) → Ke Nof H H' → Q (.bl t) H'
theorem ok_isG {f fA Po : Addr} {fd fdA : FuncData} {k : Nat} (F : Fun K "is_ladder" "is_ladder" sIsl f fd) (T : Zp mg) (FA : Fun K "claims_ahead_of_fault" "claims_ahead_of_fault" sAhe fA fdA) (bA : Binds K fdA ["book", "thing"] []) (gA : mg "claims_ahead_of_fault" = some (.ref fA)) (GA : FnOk P w K mg base CX0 6 fA fdA ["book", "thing"] (spAhG Po)) :
    FnOk P w K mg base CX0 (k + 7) f fd ["book", "thing"] (spIsG Po) := by
  refine F.ok scIsl (fun vs H Q E h => ?_) (fun cdv A outer s H vs Q E hr h => ?_)
  · obtain ⟨f0, b, v, css, d, rfl, _⟩ := h
    rfl
  · obtain ⟨f0, b, v, css, d, rfl, hb, ib, hv, sh, tg, q⟩ := h
    have hr6 : Room 6 _ := hr.mono (by omega)
    refine ⟨_, (pss_cons (ps_set (i := 2) scIsl.nd rfl (.inl rfl) (pe_call GA hr6 (by rfl) gA FA.kp bA .nil pass0 (pa_cons (pv 0) (pa_cons (pv 1) pa_nil))))
      (pss_one (ps_ret (pe_and (pe_cmpR op_gt (pe_callB call_len_seq (by rfl) T.z_len (by decide +kernel) (pa_cons (pv 2) pa_nil)) pe_int (nomark _)) (pe_one (pe_cmpR op_eq (pe_callB call_len_seq (by rfl) T.z_len (by decide +kernel) (pa_cons (pv 2) pa_nil)) (pe_callB call_len_seq (by rfl) T.z_len (by decide +kernel) (pa_cons (pv 1) pa_nil)) (nomark _))))))), ?_⟩
    refine ⟨_, rfl, _, rfl, f0, b, v, css, d, rfl, hb, ib, hv, sh, tg, fun p H1 np k1 no hp => ?_, fun ds p rows cls H1 np k1 ed ah hp => ?_⟩
    · refine ⟨_, rfl, p, _, rfl, .inl (.of hp), _, _, rfl, rfl, false, rfl, ?_⟩
      refine q _ _ ⟨fun z => (nomatch z), fun z => ?_⟩ k1
      obtain ⟨rs, _, e, _⟩ := z
      exact absurd e (no _)
    · subst ed
      cases id hv with
      | lst hL nf od =>
        rename_i L xs
        have lx := od.len
        have al := ahead_lad ah
        obtain ⟨pvs, hp1, aP⟩ := id hp
        have l1 := ah.ld.1
        have l2 := aP.1
        refine ⟨_, rfl, p, _, rfl, .inl (.of hp1), _, _, rfl, rfl, decide ((0 : Int) < (pvs.length : Int)), rfl, ?_⟩
        by_cases h0 : (0 : Int) < (pvs.length : Int)
        · rw [decide_eq_true h0]
          refine ⟨_, rfl, p, _, rfl, .inl (.of hp1), _, rfl, L, _, rfl, .inl (.of (k1.lst hL fun z => z)), rfl, ?_⟩
          refine q _ _ ?_ k1
          rw [← al, decide_eq_true_iff]
          constructor
          · intro z
            have := V.int.inj z
            exact ⟨by omega, by omega⟩
          · rintro ⟨_, z⟩
            rw [show (pvs.length : Int) = (xs.length : Int) by omega]
        · rw [decide_eq_false h0]
          refine q _ _ ⟨fun z => (nomatch z), fun z => ?_⟩ k1
          have := (al.mpr z).1
          omega
end
end Wg
namespace Wl
open PySem PySem.Spec PyProof.Rows L2 GxR Nw Dr Kp Se Cl Ct Lr Lp Ll Od Wg
theorem od_is {f : Addr → Prop} {H : Hp} : ∀ {vs : List V} {ns : List Int}, OdAll f H vs (ns.map PyData.int) → vs = ns.map V.int
  | [], [], _ => rfl
  | [], _ :: _, h => by cases h
  | _ :: _, [], h => by cases h
  | v :: vs, n :: ns, h => by
    cases h with
    | cons h1 h2 =>
      cases h1
      rw [od_is h2]
      rfl
theorem ints_of : ∀ {ds : List PyData}, (∀ d ∈ ds, whD d = true) → ∃ ns : List Int, ds = ns.map PyData.int
  | [], _ => ⟨[], rfl⟩
  | d :: r, h => by
    obtain ⟨ns, e⟩ := ints_of (ds := r) fun x hx => h x (List.mem_cons_of_mem _ hx)
    have hd := h d List.mem_cons_self
    cases d with
    | int n => exact ⟨n :: ns, by rw [e]; rfl⟩
    | _ => cases hd
theorem dat_tail {d0 : PyData} {dr : List PyData} {r : Rw} (h : PyData.tuple (d0 :: dr) = dat r) : ∀ d ∈ dr, whD d = true := by
  cases r with
  | book n =>
    obtain ⟨_, e⟩ := List.cons.inj (PyData.tuple.inj h)
    intro d hd
    rw [e] at hd
    rw [List.mem_singleton.mp hd]
    rfl
  | cut i j k =>
    obtain ⟨_, e⟩ := List.cons.inj (PyData.tuple.inj h)
    intro d hd
    rw [e] at hd
    simp only [List.mem_cons, List.not_mem_nil, or_false] at hd
    rcases hd with rfl | rfl | rfl <;> rfl
section
variable {P : Program} {w : World} {K : PySem.W.Frag} {mg : Str → Option Value} {base : Heap}
theorem ok_swG {f : Addr} {fd : FuncData} {k : Nat} (F : Fun K "_law_swhole" "_law_swhole" sSwh f fd) (T : Zy mg) : FnOk P w K mg base CX0 (k + 1) f fd ["thing"] spWhG := by
  refine F.ok scSwh (fun vs H Q E h => ?_) (fun cdv A outer s H vs Q E hr h => ?_)
  · obtain ⟨f0, v, d, rfl, _⟩ := h
    rfl
  · obtain ⟨f0, v, d, rfl, hv, q⟩ := h
    refine ⟨_, (pss_one (ps_ret (pe_and (pe_callB call_isi (by rfl) T.z_isinstance (by decide +kernel) (pa_cons (pv 0) (pa_cons (pe_bltn (v := .ty "int") (u := .type "int") (by rfl) T.z_int (by decide +kernel) rfl) pa_nil))) (pe_one (pe_not (pe_callB call_isi (by rfl) T.z_isinstance (by decide +kernel) (pa_cons (pv 0) (pa_cons (pe_bltn (v := .ty "bool") (u := .type "bool") (by rfl) T.z_bool (by decide +kernel) rfl) pa_nil)))))))), ?_⟩
    have t := hv.ty (K := K)
    cases d with
    | int n => exact ⟨_, rfl, v, .ty "int", .type "int", .type "int", true, rfl, .ty _, t, kit_ty (by decide +kernel), _, rfl, _, rfl, v, .ty "bool", .type "int", .type "bool", false, rfl, .ty _, t, kit_ty (by decide +kernel), _, rfl, q⟩
    | bool b => exact ⟨_, rfl, v, .ty "int", .type "bool", .type "int", true, rfl, .ty _, t, kit_ty (by decide +kernel), _, rfl, _, rfl, v, .ty "bool", .type "bool", .type "bool", true, rfl, .ty _, t, kit_ty (by decide +kernel), _, rfl, q⟩
    | none => exact ⟨_, rfl, v, .ty "int", .type "NoneType", .type "int", false, rfl, .ty _, t, kit_ty (by decide +kernel), _, rfl, q⟩
    | str x => exact ⟨_, rfl, v, .ty "int", .type "str", .type "int", false, rfl, .ty _, t, kit_ty (by decide +kernel), _, rfl, q⟩
    | list x => exact ⟨_, rfl, v, .ty "int", .type "list", .type "int", false, rfl, .ty _, t, kit_ty (by decide +kernel), _, rfl, q⟩
    | tuple x => exact ⟨_, rfl, v, .ty "int", .type "tuple", .type "int", false, rfl, .ty _, t, kit_ty (by decide +kernel), _, rfl, q⟩
    | dict x => cases hv
/-- srow, of anything -/
def spSrG : Sp := fun vs H Q _ => ∃ (f0 : Addr → Prop) (b v : V) (L : Addr) (css cls : List (List Int)) (d : PyData), vs = [b, .ref L, v] ∧ Bk H b css ∧ ClL H L cls ∧ OdV f0 H v d ∧ SeqAt.shaped d = true ∧ (∀ ds, d = .tuple ds → ds.length ≤ 60) ∧ (∀ c ∈ css, IsCl c) ∧ (∀ c ∈ cls, IsCl c) ∧
  (∀ H', Same H H' → NoRow css cls d → Q .non H') ∧ ∀ (r : Rw) (c : List Int) (p : Addr) (H' : Hp), Same H H' → d = dat r → RowCl css cls r c → H' p = some (.tup (c.map V.int)) → Q (.ref p) H'
theorem ok_srG {f fW fC : Addr} {fd fdW fdC : FuncData} {k : Nat} (F : Fun K "_law_srow" "_law_srow" sSrw f fd) (T : Zy mg) (FW : Fun K "_law_swhole" "_law_swhole" sSwh fW fdW) (bW : Binds K fdW ["thing"] []) (gW : mg "_law_swhole" = some (.ref fW)) (GW : FnOk P w K mg base CX0 1 fW fdW ["thing"] spWhG)
    (FC : Fun K "_law_scut" "_law_scut" sSct fC fdC) (bC : Binds K fdC ["one", "other", "k"] []) (gC : mg "_law_scut" = some (.ref fC)) (GC : FnOk P w K mg base CX0 1 fC fdC ["one", "other", "k"] spSct) :
    FnOk P w K mg base CX0 (k + 2) f fd ["book", "claims", "row"] spSrG := by
  refine F.ok scSrw (fun vs H Q E h => ?_) (fun cdv A outer s H vs Q E hr h => ?_)
  · obtain ⟨f0, b, v, L, css, cls, d, rfl, _⟩ := h
    rfl
  · obtain ⟨f0, b, v, L, css, cls, d, rfl, hb, ⟨lvs, hL, aL⟩, hv, sh, l60, ib, ic, q1, q2⟩ := h
    have hr1 : Room 1 _ := hr.mono (by omega)
    have hu : (A.deeper (envOfC "_law_srow" (defScope sSrw) s.heap.objs.size f cdv)).units + 70 < cLine := by
      have := hr.un
      omega
    refine ⟨_, (Evl.pss_cut (ps_if (PW.pt (pw_or (pt_not (pt_val (pe_callB call_isi (by rfl) T.z_isinstance (by decide +kernel) (pa_cons (pv 2) (pa_cons (pe_bltn (v := .ty "tuple") (u := .type "tuple") (by rfl) T.z_tuple (by decide +kernel) rfl) pa_nil))))) (pw_or1 (pt_cmpR op_lt (pe_callB call_len_seq (by rfl) T.z_len (by decide +kernel) (pa_cons (pv 2) pa_nil)) pe_int (nomark _))))) (pss_one (ps_ret pe_non)) pss_nil)
      (Evl.pss_cut (ps_if (pt_not (pt_val (pe_callB (cr_all rfl) (by rfl) T.z_all (by decide +kernel) (pa_cons (pe_lc (own := [("part", 3)]) (g := (gName 3)) (tt := tYes) rfl scSrw.nd (pi_tup (pe_slice sl_tupN (pv 2) (po_some pe_int) po_none)) (blkOk_by (N := nSrw) (sc := defScope sSrw) (by decide +kernel)) (fun _ _ _ _ _ => (pg_name (i := 3) scSrw.nd rfl (.inl rfl))) (fun _ _ _ _ _ => pts_nil) (fun _ _ _ _ _ => (pe_call GW hr1 (by rfl) gW FW.kp bW .nil pass0 (pa_cons (pv 3) pa_nil)))) pa_nil)))) (pss_one (ps_ret pe_non)) pss_nil)
      (Evl.pss_cut (ps_if (PW.pt (pw_and (pt_cmpR (op_eqD hr.units) (pe_ix ix_tup (pv 2) pe_int (fun _ _ => rfl)) pe_str (nomark _)) (pw_and (pt_cmpR op_eq (pe_callB call_len_seq (by rfl) T.z_len (by decide +kernel) (pa_cons (pv 2) pa_nil)) pe_int (nomark _)) (pw_and1 (pt_chain op_le op_lt pe_int (pe_ix ix_tup (pv 2) pe_int (fun _ _ => rfl)) (pe_callB call_len_seq (by rfl) T.z_len (by decide +kernel) (pa_cons (pv 0) pa_nil))))))) (pss_one (ps_ret (pe_ix ix_tup (pv 0) (pe_ix ix_tup (pv 2) pe_int (fun _ _ => rfl)) (fun _ _ => rfl)))) pss_nil)
      (Evl.pss_cut (ps_if (PW.pt (pw_or (pt_cmpR (op_neD hr.units) (pe_ix ix_tup (pv 2) pe_int (fun _ _ => rfl)) pe_str (nomark _)) (pw_or (pt_cmpR op_ne (pe_callB call_len_seq (by rfl) T.z_len (by decide +kernel) (pa_cons (pv 2) pa_nil)) pe_int (nomark _)) (pw_or (pt_cmpR op_lt (pe_callB (Lr.cr_minT rfl hu) (by rfl) T.z_min (by decide +kernel) (pa_cons (pe_slice sl_tupN (pv 2) (po_some pe_int) (po_some pe_int)) pa_nil)) pe_int (nomark _)) (pw_or1 (pt_cmpR op_ge (pe_callB (Lr.cr_maxT rfl hu) (by rfl) T.z_max (by decide +kernel) (pa_cons (pe_slice sl_tupN (pv 2) (po_some pe_int) (po_some pe_int)) pa_nil)) (pe_callB call_len_seq (by rfl) T.z_len (by decide +kernel) (pa_cons (pv 1) pa_nil)) (nomark _))))))) (pss_one (ps_ret pe_non)) pss_nil)
      (pss_one (ps_ret (pe_call GC hr1 (by rfl) gC FC.kp bC .nil pass0 (pa_cons (pe_ix ix_list (pv 1) (pe_ix ix_tup (pv 2) pe_int (fun _ _ => rfl)) (fun _ _ => rfl)) (pa_cons (pe_ix ix_list (pv 1) (pe_ix ix_tup (pv 2) pe_int (fun _ _ => rfl)) (fun _ _ => rfl)) (pa_cons (pe_ix ix_tup (pv 2) pe_int (fun _ _ => rfl)) pa_nil)))))))))), ?_⟩
    obtain ⟨b, bvs, rfl, hbt, aB⟩ := bk_all hb
    have no : (∀ ds, d ≠ .tuple ds) → Q .non H := fun n => q1 H (Same.refl H) fun r c e => absurd (dat_tup e) fun ⟨ds, z⟩ => n ds z
    have t := hv.ty (K := K)
    -- a tuple of two at least
    refine Evl.q_cut (M := fun σ' H' => ∃ (a : Addr) (v0 : V) (xr : List V) (d0 : PyData) (dr : List PyData), v = .ref a ∧ σ' = [some (.ref b), some (.ref L), some (.ref a), none] ∧ H' = H ∧ d = .tuple (d0 :: dr) ∧ H a = some (.tup (v0 :: xr)) ∧ OdV f0 H v0 d0 ∧ OdAll f0 H xr dr) ?_ ?_
    · cases d with
      | int n => exact ⟨_, rfl, v, .ty "tuple", .type "int", .type "tuple", false, rfl, .ty _, t, kit_ty (by decide +kernel), _, rfl, no fun _ => nofun⟩
      | bool n => exact ⟨_, rfl, v, .ty "tuple", .type "bool", .type "tuple", false, rfl, .ty _, t, kit_ty (by decide +kernel), _, rfl, no fun _ => nofun⟩
      | none => exact ⟨_, rfl, v, .ty "tuple", .type "NoneType", .type "tuple", false, rfl, .ty _, t, kit_ty (by decide +kernel), _, rfl, no fun _ => nofun⟩
      | str x => exact ⟨_, rfl, v, .ty "tuple", .type "str", .type "tuple", false, rfl, .ty _, t, kit_ty (by decide +kernel), _, rfl, no fun _ => nofun⟩
      | list x => exact ⟨_, rfl, v, .ty "tuple", .type "list", .type "tuple", false, rfl, .ty _, t, kit_ty (by decide +kernel), _, rfl, no fun _ => nofun⟩
      | dict x => cases hv
      | tuple ds =>
        cases id hv with
        | tup ha od =>
          rename_i a xs
          have lx := od.len
          refine ⟨_, rfl, .ref a, .ty "tuple", .type "tuple", .type "tuple", true, rfl, .ty _, t, kit_ty (by decide +kernel), _, rfl, ?_⟩
          refine ⟨_, rfl, a, _, rfl, .inr (.of ha), _, _, rfl, rfl, _, rfl, ite2 (fun e => ?_) (fun e => ?_)⟩
          · have e : (xs.length : Int) < 2 := of_decide_eq_true e
            refine q1 H (Same.refl H) fun r c er rc => ?_
            rcases dat_len er with z | z <;> omega
          · have e : ¬ (xs.length : Int) < 2 := of_decide_eq_false (Bool.eq_false_iff.mpr e)
            match xs, ds, od, ha with
            | [], _, _, _ => exact absurd (show (0 : Int) < 2 by decide) e
            | v0 :: xr, _ :: _, .cons o1 o2, ha => exact ⟨a, v0, xr, _, _, rfl, rfl, rfl, rfl, ha, o1, o2⟩
    rintro σ' H0 ⟨a, v0, xr, d0, dr, rfl, rfl, rfl, rfl, ha, o0, od⟩
    have lx := od.len
    have l6 := l60 _ rfl
    rw [List.length_cons] at l6
    -- whole numbers
    refine Evl.q_cut (M := fun σ' H' => ∃ ns : List Int, σ' = [some (.ref b), some (.ref L), some (.ref a), none] ∧ Same H0 H' ∧ dr = ns.map PyData.int ∧ xr = ns.map V.int) ?_ ?_
    · refine ⟨_, rfl, _, rfl, a, _, rfl, ha, fun p H1 s1 hp => ?_⟩
      rw [cut_1] at hp
      refine ⟨p, rfl, ⟨_, .of hp⟩, fun D nD => ?_⟩
      refine lc_tup (xs := xr) (Pv := fun i H' => Same H1 H' ∧ H' D = some (.lst (((dr.take i).map whD).map V.bl))) ⟨same_new nD, upd_same⟩ (fun i H' _ z => .of (z.1 _ _ hp)) ?_ ?_
      · rintro i x H2 hx ⟨s2, hD⟩
        obtain ⟨d, hd, ox⟩ := od.at hx
        have lz := (List.getElem?_eq_some_iff.mp hd).1
        refine ⟨rfl, _, rfl, f0, x, d, rfl, ox.ke (.same (s1.trans s2)), _, hD, ?_, fun c o y => ?_, ?_⟩
        · rw [List.length_map, List.length_map, List.length_take]
          exact small1000 (by omega)
        · rw [upd_ne (ne_of_none y nD)]
          exact s2 _ _ y
        · rw [upd_same, take_snoc hd, List.map_append, List.map_append]
          rfl
      · rintro H2 ⟨s2, hD⟩
        refine ⟨D, _, rfl, .of hD, _, rfl, ?_⟩
        rw [lx, List.take_length]
        cases e : (dr.map whD).all id with
        | false =>
          refine q1 H2 (s1.trans s2) fun r c er rc => ?_
          rw [List.all_eq_true.mpr fun x hx => ?_] at e
          · cases e
          · obtain ⟨y, hy, rfl⟩ := List.mem_map.mp hx
            exact dat_tail er y hy
        | true =>
          rw [List.all_eq_true] at e
          obtain ⟨ns, en⟩ := ints_of (ds := dr) fun d hd => e _ (List.mem_map.mpr ⟨d, hd, rfl⟩)
          refine ⟨ns, rfl, s1.trans s2, en, ?_⟩
          rw [en] at od
          exact od_is od
    rintro σ' H1 ⟨ns, rfl, s1, rfl, rfl⟩
    have ha1 := s1 _ _ ha
    have hb1 := s1 _ _ hbt
    have hL1 := s1 _ _ hL
    have o1 := o0.ke (Ke.same s1)
    have sh0 := shaped_tup sh d0 (by simp)
    -- a row of the book
    refine Evl.q_cut (M := fun σ' H' => σ' = [some (.ref b), some (.ref L), some (.ref a), none] ∧ H' = H1 ∧ ∀ n : Nat, d0 = .str "book" → ns = [(n : Int)] → css.length ≤ n) ?_ ?_
    · refine ⟨_, rfl, a, _, 0, v0, rfl, rfl, .of ha1, at_of (j := 0) rfl rfl, d0, .str "book", o1.dp, .str _, sh0, shaped_book, _, rfl, ite2 (fun e => ?_) (fun e => ?_)⟩
      · have e0 := eqv_str.mp e
        refine ⟨_, rfl, a, _, rfl, .inr (.of ha1), rfl, _, rfl, ite2 (fun e2 => ?_) (fun e2 => ?_)⟩
        · have l2 : ns.length = 1 := by
            have := V.int.inj (of_decide_eq_true e2)
            rw [List.length_cons, List.length_map] at this
            omega
          obtain ⟨m, rfl⟩ := List.length_eq_one_iff.mp l2
          refine ⟨_, rfl, a, _, 1, .int m, rfl, rfl, .of ha1, rfl, 0, _, rfl, rfl, decide ((0 : Int) ≤ m), rfl, ?_⟩
          by_cases m0 : 0 ≤ m
          · rw [decide_eq_true m0]
            refine ⟨_, rfl, b, _, rfl, .inr (.of hb1), _, _, rfl, rfl, _, rfl, ite2 (fun y => ?_) (fun y => ?_)⟩
            · have lt : m < (bvs.length : Int) := of_decide_eq_true y
              obtain ⟨n, rfl⟩ : ∃ n : Nat, m = (n : Int) := ⟨m.toNat, (Int.toNat_of_nonneg m0).symm⟩
              have lt : n < bvs.length := by omega
              obtain ⟨c, hc, p, e, hp⟩ := aB.at (List.getElem?_eq_getElem lt)
              refine ⟨_, rfl, _, rfl, a, _, 1, .int (n : Nat), rfl, rfl, .of ha1, rfl, b, bvs, _, .ref p, rfl, rfl, .of hb1, at_of (j := n) rfl (by rw [List.getElem?_eq_getElem lt, e]), ?_⟩
              exact q2 (.book n) c p H1 s1 (by rw [e0]; rfl) hc (s1 _ _ hp)
            · have nlt : ¬ m < (bvs.length : Int) := of_decide_eq_false (Bool.eq_false_iff.mpr y)
              refine ⟨rfl, rfl, fun n _ en => ?_⟩
              have := (List.cons.inj en).1
              have := aB.1
              omega
          · rw [decide_eq_false m0]
            refine ⟨false, rfl, rfl, rfl, fun n _ en => ?_⟩
            have := (List.cons.inj en).1
            omega
        · refine ⟨rfl, rfl, fun n _ en => ?_⟩
          subst en
          exact absurd (decide_eq_true rfl) e2
      · exact ⟨rfl, rfl, fun n z _ => absurd (eqv_str.mpr z) e⟩
    rintro σ' H2 ⟨rfl, rfl, nob⟩
    -- no cut of two rows ahead
    refine Evl.q_cut (M := fun σ' H' => ∃ (i j : Nat) (k : Int), σ' = [some (.ref b), some (.ref L), some (.ref a), none] ∧ Same H2 H' ∧ d0 = .str "cut" ∧ ns = [(i : Int), (j : Int), k] ∧ i < lvs.length ∧ j < lvs.length) ?_ ?_
    · have nope : ∀ {H' : Hp}, Same H2 H' → (∀ (i j : Nat) (k : Int), d0 = .str "cut" → ns = [(i : Int), (j : Int), k] → i < lvs.length → j < lvs.length → False) → Q .non H' := fun {H'} s' z => q1 H' (s1.trans s') fun r c er rc => by
        cases r with
        | book n =>
          have er := PyData.tuple.inj er
          obtain ⟨e0, e1⟩ := List.cons.inj er
          have en : ns = [(n : Int)] := by
            cases ns with
            | nil => cases e1
            | cons x r =>
              obtain ⟨z1, z2⟩ := List.cons.inj e1
              cases r with
              | nil => rw [PyData.int.inj z1]
              | cons _ _ => cases z2
          have := nob n e0 en
          have := (List.getElem?_eq_some_iff.mp rc).1
          omega
        | cut i j k =>
          have er := PyData.tuple.inj er
          obtain ⟨e0, e1⟩ := List.cons.inj er
          have en : ns = [(i : Int), (j : Int), k] := by
            have e1 : ns.map PyData.int = [(i : Int), (j : Int), k].map PyData.int := e1
            have inj : ∀ {l m : List Int}, l.map PyData.int = m.map PyData.int → l = m := fun {l} => by
              induction l with
              | nil => intro m h; cases m with | nil => rfl | cons _ _ => cases h
              | cons x r ih =>
                intro m h
                cases m with
                | nil => cases h
                | cons y t =>
                  obtain ⟨z1, z2⟩ := List.cons.inj h
                  rw [PyData.int.inj z1, ih z2]
            exact inj e1
          have h1 := rc.parts
          have h2 := aL.1
          exact z i j k e0 en (by omega) (by omega)
      refine ⟨_, rfl, a, _, 0, v0, rfl, rfl, .of ha1, at_of (j := 0) rfl rfl, d0, .str "cut", o1.dp, .str _, sh0, shaped_cut, _, rfl, ite2 (fun e => ?_) (fun e => ?_)⟩
      · have e : (!PyData.eqv d0 (.str "cut")) = true := e
        refine nope (Same.refl _) fun i j k z _ _ _ => ?_
        rw [eqv_str.mpr z] at e
        cases e
      · have e0 : d0 = .str "cut" := by
          have e : ¬ (!PyData.eqv d0 (.str "cut")) = true := e
          refine eqv_str.mp ?_
          cases q : PyData.eqv d0 (.str "cut") with
          | true => rfl
          | false => exact absurd (by rw [q]; rfl) e
        refine ⟨_, rfl, a, _, rfl, .inr (.of ha1), rfl, _, rfl, ite2 (fun e2 => ?_) (fun e2 => ?_)⟩
        · refine nope (Same.refl _) fun i j k _ en _ _ => ?_
          subst en
          have e2 : (!decide (V.int ((4 : Nat) : Int) = V.int 4)) = true := e2
          exact absurd e2 (by decide)
        · have l3 : ns.length = 3 := by
            have e2 : ¬ (!decide (V.int ((v0 :: ns.map V.int).length : Int) = V.int 4)) = true := e2
            have : V.int ((v0 :: ns.map V.int).length : Int) = V.int 4 := by
              apply Classical.byContradiction
              intro z
              exact e2 (by rw [decide_eq_false z]; rfl)
            have := V.int.inj this
            rw [List.length_cons, List.length_map] at this
            omega
          match ns, l3 with
          | [i, j, k], _ =>
            refine ⟨_, rfl, _, rfl, _, rfl, a, _, rfl, ha1, fun p1 H3 s3 hp1 => ?_⟩
            rw [show cutV (v0 :: [i, j, k].map V.int) (some 1) (some 3) = [.int i, .int j] from cut_13 _ _ _ _] at hp1
            refine ⟨p1, _, _, rfl, .of hp1, _, _, rfl, rfl, _, rfl, ite2 (fun y1 => ?_) (fun y1 => ?_)⟩
            · have y1 : (if j < i then j else i) < 0 := of_decide_eq_true y1
              refine nope s3 fun i' j' k' _ en _ _ => ?_
              simp only [List.cons.injEq] at en
              split at y1 <;> omega
            · have y1 : ¬ (if j < i then j else i) < 0 := of_decide_eq_false (Bool.eq_false_iff.mpr y1)
              have ij : 0 ≤ i ∧ 0 ≤ j := by split at y1 <;> omega
              have ha3 := s3 _ _ ha1
              refine ⟨_, rfl, _, rfl, _, rfl, a, _, rfl, ha3, fun p2 H4 s4 hp2 => ?_⟩
              rw [show cutV (v0 :: [i, j, k].map V.int) (some 1) (some 3) = [.int i, .int j] from cut_13 _ _ _ _] at hp2
              refine ⟨p2, _, _, rfl, .of hp2, _, rfl, L, _, rfl, .inl (.of (s4 _ _ (s3 _ _ hL1))), _, _, rfl, rfl, _, rfl, ite2 (fun y => ?_) (fun y => ?_)⟩
              · have y : (lvs.length : Int) ≤ (if i < j then j else i) := of_decide_eq_true y
                refine nope (s3.trans s4) fun i' j' k' _ en h1 h2 => ?_
                simp only [List.cons.injEq] at en
                split at y <;> omega
              · have y : ¬ (lvs.length : Int) ≤ (if i < j then j else i) := of_decide_eq_false (Bool.eq_false_iff.mpr y)
                refine ⟨i.toNat, j.toNat, k, rfl, s3.trans s4, e0, ?_, ?_, ?_⟩
                · rw [Int.toNat_of_nonneg ij.1, Int.toNat_of_nonneg ij.2]
                · split at y <;> omega
                · split at y <;> omega
    rintro σ' H3 ⟨i, j, k, rfl, s3, e0, rfl, li, lj⟩
    have ha3 := s3 _ _ ha1
    have hL3 := s3 _ _ hL1
    have s13 := s1.trans s3
    obtain ⟨ci, hci, ti⟩ := aL.at (List.getElem?_eq_getElem li)
    obtain ⟨cj, hcj, tj⟩ := aL.at (List.getElem?_eq_getElem lj)
    have z1 := (ic ci (List.mem_of_getElem? hci)).len
    have z2 := (ic cj (List.mem_of_getElem? hcj)).len
    have k13 : Ke Nof H0 H3 := .same s13
    refine ⟨_, rfl, _, rfl, a, _, 1, .int (i : Nat), rfl, rfl, .of ha3, rfl, L, lvs, _, lvs[i], rfl, rfl, .of hL3, at_of (j := i) rfl (List.getElem?_eq_getElem li), ?_⟩
    refine ⟨_, rfl, _, rfl, a, _, 2, .int (j : Nat), rfl, rfl, .of ha3, rfl, L, lvs, _, lvs[j], rfl, rfl, .of hL3, at_of (j := j) rfl (List.getElem?_eq_getElem lj), ?_⟩
    refine ⟨_, rfl, a, _, 3, .int k, rfl, rfl, .of ha3, rfl, lvs[i], lvs[j], k, ci, cj, rfl, ti.ke k13, tj.ke k13, by omega, by omega, fun H' s' no => ?_, fun ns p H' s' a1 a2 a3 a4 up me hp => ?_⟩
    · refine q1 H' (s13.trans s') fun r c er rc => ?_
      obtain ⟨i', j', k', rfl, _, e1, e2, e3⟩ := dat_four er
      have h1 := PyData.int.inj e1
      have h2 := PyData.int.inj e2
      have h3 := PyData.int.inj e3
      obtain ⟨x, y', g1, g2, g3⟩ := rc
      rw [show i' = i by omega] at g1
      rw [show j' = j by omega] at g2
      cases hci.symm.trans g1
      cases hcj.symm.trans g2
      rw [← h3] at g3
      exact g3.no no
    · exact q2 (.cut i j k) ns p H' (s13.trans s') (by rw [e0]; rfl) ⟨ci, cj, hci, hcj, a1, a2, a3, a4, up, me⟩ hp
theorem RowAt.od {f : Addr → Prop} {H : Hp} {v : V} {r : Rw} (h : RowAt H v r) : OdV f H v (dat r) := by
  obtain ⟨a, rfl, ha⟩ := h
  cases r with
  | book n => exact .tup ha (.cons (.str _) (.cons (.int _) .nil))
  | cut i j k => exact .tup ha (.cons (.str _) (.cons (.int _) (.cons (.int _) (.cons (.int _) .nil))))
theorem shaped_dat (r : Rw) : SeqAt.shaped (dat r) = true := by
  have b1 : PyData.strOk "book" = true := by decide +kernel
  have b2 : PyData.strOk "cut" = true := by decide +kernel
  cases r <;> simp [dat, SeqAt.shaped, PyData.canLay0, PyData.canLayAll0, b1, b2, PyData.depth, PyData.depthAll]
theorem sr_weak {f : Addr} {fd : FuncData} {k : Nat} (F : FnOk P w K mg base CX0 k f fd ["book", "claims", "row"] spSrG) : FnOk P w K mg base CX0 k f fd ["book", "claims", "row"] spSrw :=
  ok_weak F fun vs H Q E ⟨b, v, L, css, cls, r, e, hb, hL, hv, ib, ic, q1, q2⟩ => ⟨Nof, b, v, L, css, cls, dat r, e, hb, hL, RowAt.od hv, shaped_dat r, fun ds e => by rcases dat_len e.symm with z | z <;> omega, ib, ic, fun H' s no => q1 H' s fun c => no r c rfl, fun r' c p H' s er rc hp => by
    have := dat_inj er
    subst this
    exact q2 c p H' s rc hp⟩
end
end Wl
namespace Gd
open PySem PySem.Spec PyProof.Rows L2
/-! ### a law that shows lists (repr): run where nothing is being shown -/
/-- a promise for calls made while nothing is being shown -/
structure FnG (P : Program) (w : World) (K : PySem.W.Frag) (mg : Str → Option Value) (base : Heap) (k : Nat) (f : Addr) (fd : FuncData) (ps : List Str) (sp : Sp) : Prop where
  len : ∀ us H Q E, sp us H Q E → us.length = ps.length
  run : ∀ (A : Around) (outer : List Env) (s : Shared) (H : Hp) (args : Args) (us : List Value) (vs : List V) (Q : VK) (E : XK), A.guards = some [] → Room k A → Env0 P w K mg base A outer s H → BindsTo s fd args (ps.zip us) → Vals vs us → sp vs H Q E → codeAny (model P w) A (.call (.ref f) args) (CR CX0 outer P w H s Q E) s
section
variable {P : Program} {w : World} {K : PySem.W.Frag} {mg : Str → Option Value} {base : Heap}
theorem okG {x qual : Str} {st : Stmt} {f : Addr} {fd : FuncData} {N ps : List Str} {k : Nat} {sp : Sp} (F : Fun K x qual st f fd) (S : FnScope N ps (defScope st)) (ln : ∀ us H Q E, sp us H Q E → us.length = ps.length)
    (body : ∀ (cdv : Value) (A : Around) (outer : List Env) (s : Shared) (H : Hp) (vs : List V) (Q : VK) (E : XK), A.guards = some [] → Room k (A.deeper (envOfC qual (defScope st) s.heap.objs.size f cdv)) → sp vs H Q E →
      ∃ t, PSs (cxOf CX0 P w K mg base N qual (defScope st) f cdv A outer s H E).nox (defBody st) t ∧ t { nx := fun _ H' => Q .non H', rt := Q } (start N vs) H) : FnG P w K mg base (k + 1) f fd ps sp := by
  obtain ⟨oc, od, kV, doc, pm, an, cdv, ct, osl, rfl, lk, hcd⟩ := F.ex
  refine ⟨ln, fun A outer s H args us vs Q E gd room env bind rel ask => ?_⟩
  have inS : K.In s.heap := env.mod.kin.keeps fun b o e => (env.bs b o e).1
  have noL : s.heap.NoLimit := env.mod.nolimit.keeps fun b o e => (env.bs b o e).1
  refine codeAny_call_function room.depth (inS _ _ lk) rfl S.co S.gen rfl (PySem.W.codeRec_of inS hcd) (bind _ _ _ _ (wpAny_newFunctionEnv_cells S.kind (fun y hy => ?_) fun env' he s1 z => ?_))
  · rcases S.par y.1 (List.of_mem_zip (a := y.1) (b := y.2) hy).1 with q | q
    · exact Or.inl q
    · exact Or.inr ⟨q, PySem.W.cellsFrom_some _ _ _ (Or.inl q)⟩
  · subst he
    obtain ⟨t, h1, h2⟩ := body cdv A outer s H vs Q E gd (room.deeper _) ask
    have J := inv_start (CX := CX0) (E := E) S room.hd env (ln _ _ _ _ ask) rel z
    refine ⟨noL.keeps z.toInCall.keep, codeAny_func (wpAny_mono (h1.nox.run [] s1 _ H _ J h2) (fun fl s' r => ?_) fun _ _ r => r)⟩
    match fl, r with
    | .ret u, r =>
      obtain ⟨v, σ', H', I, rv, q⟩ := r
      exact ⟨v, H', I.os, I.bare, I.base, I.hok, rv, q⟩
    | .next, r =>
      obtain ⟨σ', H', I, q⟩ := r
      exact ⟨.non, H', I.os, I.bare, I.base, I.hok, rfl, q⟩
    | .brk, r =>
      obtain ⟨_, _, _, q⟩ := r
      exact q.elim
    | .cont, r =>
      obtain ⟨_, _, _, q⟩ := r
      exact q.elim
/-- what the abstract heap knows at the law's call: the tables T, the script at a unless K holds it -/
def at0 (K : PySem.W.Frag) (T : List Addr) (a : Addr) (o : HO) : Hp := fun b => if b ∈ T then some (.tbl #[]) else if b = a ∧ (K.lookup a).isNone = true then some o else none
theorem at0_cases {T : List Addr} {a b : Addr} {o u : HO} (h : at0 K T a o b = some u) : (b ∈ T ∧ u = .tbl #[]) ∨ (b ∉ T ∧ b = a ∧ K.lookup a = none ∧ u = o) := by
  unfold at0 at h
  by_cases h1 : b ∈ T
  · rw [if_pos h1] at h
    exact .inl ⟨h1, (Option.some.inj h).symm⟩
  · rw [if_neg h1] at h
    by_cases h2 : b = a ∧ (K.lookup a).isNone = true
    · rw [if_pos h2] at h
      exact .inr ⟨h1, h2.1, Option.isNone_iff_eq_none.mp h2.2, (Option.some.inj h).symm⟩
    · rw [if_neg h2] at h
      cases h
theorem law_at {mb : Str → Option Value} {k : Nat} {fa a : Addr} {cs : List (Addr × Addr)} {fd : FuncData} {x : Str} {sp : Sp} {s1 : Shared} {us : List Value} {ns : List Int} (inK : K.In s1.heap) (ng : s1.heap.Ns mainGlobals mg) (nb : s1.heap.Ns builtinsNs mb)
    (bb : ∀ y : Str, y ≠ "__name__" → mb y = bootBuiltins y) (lim : s1.heap.NoLimit) (gens : s1.gens = #[]) (te : ∀ p ∈ cs, s1.heap.get? p.2 = some (PySem.W.tabObj #[])) (tk : ∀ p ∈ cs, K.lookup p.2 = none) (tc : ∀ p ∈ cs, PySem.W.CodeHd s1.heap p.1 p.2)
    (bm : ∃ (bm : Addr) (ob : Obj), mg "__builtins__" = some (.ref bm) ∧ bm ≠ builtinsNs ∧ s1.heap.get? bm = some ob ∧ ob.cls = .type "module" ∧ ob.dict = some builtinsNs ∧ ob.data = .plain) (la : s1.heap.get? a = some { cls := .type "list", data := .seq us.toArray }) (iu : IntsAre us ns) (lu : ns.length ≤ sizeLine) (room : Room k callerA)
    (F : ∀ base : Heap, K.In base → base.Ns mainGlobals mg → (∀ p ∈ cs, LamX.TabB base mg p.1 p.2) → FnG P w K mg base k fa fd [x] sp) (bind : ∀ (s : Shared) (u : Value), BindsTo s fd ⟨[u], []⟩ [(x, u)])
    (ask : ∀ H : Hp, (∀ p ∈ cs, H p.2 = some (.tbl #[])) → SqL K H a (ns.map V.int) → sp [.ref a] H (fun v _ => v = .bl true) fun _ _ _ => False) :
    codeAny (model P w) callerA (.call (.ref fa) ⟨[.ref a], []⟩) (fun r s' => r = .ok (.ret (.bool true)) ∧ OldK s1.heap s'.heap ∧ s'.os = s1.os ∧ AllBare s'.gens) s1 := by
  have lv := iu.length
  let T := cs.map (·.2)
  let O : HO := .frz { cls := .type "list", data := .seq us.toArray } (.lst (ns.map V.int))
  have tT : ∀ b ∈ T, s1.heap.get? b = some (PySem.W.tabObj #[]) := fun b hb => by
    obtain ⟨p, hp, rfl⟩ := List.mem_map.mp hb
    exact te p hp
  have inT : ∀ p ∈ cs, p.2 ∈ T := fun p hp => List.mem_map.mpr ⟨p, hp, rfl⟩
  have naT : a ∉ T := fun z => by
    have q := tT a z
    rw [la] at q
    cases congrArg Obj.data (Option.some.inj q)
  -- an object that is neither a list nor an empty table is not tracked
  have un0 : ∀ {b : Addr} {o : Obj}, s1.heap.get? b = some o → (∀ v n, o.data ≠ .seq v n) → o.data ≠ .fields #[] → at0 K T a O b = none := fun {b o} e d1 d2 => by
    cases q : at0 K T a O b with
    | none => rfl
    | some u =>
      rcases at0_cases q with ⟨h1, _⟩ | ⟨_, h1, _⟩
      · rw [tT b h1] at e
        cases e
        exact absurd rfl d2
      · rw [h1, la] at e
        cases e
        exact absurd rfl (d1 _ _)
  have ns0 : ∀ {b : Addr} {m : Str → Option Value}, s1.heap.Ns b m → (hidT s1.heap (at0 K T a O)).Ns b m := fun ⟨o, es, ep, e, d, r⟩ =>
    ⟨o, es, ep, hidT_get e (un0 e (fun _ _ z => by rw [d] at z; cases z) fun z => by rw [d] at z; cases z), d, r⟩
  have in0 : K.In (hidT s1.heap (at0 K T a O)) := fun b o e => by
    refine hidT_get (inK b o e) ?_
    cases q : at0 K T a O b with
    | none => rfl
    | some u =>
      rcases at0_cases q with ⟨h1, _⟩ | ⟨_, h1, h2, _⟩
      · obtain ⟨p, hp, rfl⟩ := List.mem_map.mp h1
        rw [tk p hp] at e
        cases e
      · rw [h1, h2] at e
        cases e
  have mod0 : L2.Mod K mg (hidT s1.heap (at0 K T a O)) := ⟨in0, ns0 ng, ⟨mb, ns0 nb, bb⟩, let ⟨mc, h1, h2⟩ := lim; ⟨mc, ns0 h1, h2⟩⟩
  have tab0 : ∀ p ∈ cs, LamX.TabB (hidT s1.heap (at0 K T a O)) mg p.1 p.2 := fun p hp => by
    obtain ⟨bmA, ob, b1, b2, b3, b4, b5, b6⟩ := bm
    obtain ⟨oc, oes, oep, oe, od, _⟩ := ng
    obtain ⟨c0, v0, f0, t0, g0, u0, i0, x0, y0, e1, r1, r2, r3, rest⟩ := tc p hp
    refine ⟨⟨c0, v0, f0, t0, g0, u0, i0, x0, y0, hidT_get e1 (un0 e1 (fun _ _ z => by rw [r2] at z; cases z) fun z => ?_), r1, r2, r3, rest⟩, ⟨bmA, ob, b1, b2, fun z => ?_, fun z => ?_, hidT_get b3 (un0 b3 (fun _ _ z => by rw [b6] at z; cases z) fun z => by rw [b6] at z; cases z), b4, b5, b6⟩, fun z => ?_⟩
    · rw [r2] at z
      cases z
      simp at r3
    · rw [z, oe] at b3
      cases b3
      rw [od] at b6
      cases b6
    · rw [z, te p hp] at b3
      cases b3
      cases b6
    · rw [z, te p hp] at oe
      cases oe
      cases od
  have hok0 : HOk P w (at0 K T a O) s1.heap := fun b u q => by
    rcases at0_cases q with ⟨h1, rfl⟩ | ⟨_, rfl, _, rfl⟩
    · exact tT b h1
    · exact ⟨la, by rw [List.length_map]; exact lu, us, _, vals_ints iu, la⟩
  have sq0 : SqL K (at0 K T a O) a (ns.map V.int) := by
    cases q : K.lookup a with
    | some o =>
      have e := inK a o q
      rw [la] at e
      cases e
      exact .inr ⟨_, us.toArray, _, q, rfl, rfl, rfl, by rw [List.size_toArray, lv]; exact lu, by simpa using vals_ints iu⟩
    | none => exact .inl (.inr ⟨_, (if_neg naT).trans (if_pos ⟨rfl, by rw [q]; rfl⟩)⟩)
  have env0 : Env0 P w K mg (hidT s1.heap (at0 K T a O)) callerA [] s1 (at0 K T a O) := ⟨rfl, mod0, fun b o e => of_hidT e, Nat.le_of_eq (hidT_size _ _), trivial, fun b z => absurd (show b ∈ ([] : List Addr) from z) (by simp), hok0, .of_eq gens⟩
  refine codeAny_mono ((F _ in0 (ns0 ng) tab0).run callerA [] s1 (at0 K T a O) ⟨[.ref a], []⟩ [.ref a] [.ref a] _ _ rfl room env0 (bind s1 (.ref a)) (.cons rfl .nil) (ask _ (fun p hp => if_pos (inT p hp)) sq0)) fun r s' h => ?_
  match r, h with
  | .error e, h => exact False.elim h
  | .ok .next, h => exact False.elim h
  | .ok .brk, h => exact False.elim h
  | .ok .cont, h => exact False.elim h
  | .ok (.ret u), h =>
    obtain ⟨v, H', os, bare, un, hok', rv, q⟩ := h
    obtain rfl : v = .bl true := q
    obtain rfl : u = Value.bool true := rv
    have kept : ∀ b o, b ∉ T → s1.heap.get? b = some o → s'.heap.get? b = some o := fun b o nt e => by
      cases z : at0 K T a O b with
      | none => exact un.keep b o e z (fun y => absurd (show b ∈ ([] : List Addr) from y) (by simp)) (by simp)
      | some u =>
        rcases at0_cases z with ⟨h1, _⟩ | ⟨_, rfl, _, rfl⟩
        · exact absurd h1 nt
        · obtain ⟨e2, _⟩ := hok' b _ (un.frzs b _ _ z)
          rw [la] at e
          cases e
          exact e2
    have tabs : ∀ b ∈ T, ∃ more : Array Value, s'.heap.get? b = some (PySem.W.tabObj more) := fun b hb => by
      obtain ⟨more, z⟩ := un.tbls b #[] (if_pos hb)
      exact ⟨_, hok' b _ z⟩
    refine ⟨rfl, ⟨fun b o e => ?_, fun b o e => ?_⟩, os, bare⟩
    · by_cases hb : b ∈ T
      · obtain ⟨more, z⟩ := tabs b hb
        obtain ⟨p, hp, rfl⟩ := List.mem_map.mp hb
        have e3 := te p hp
        rw [e] at e3
        cases e3
        exact .inr (.inl ⟨((tc p hp).tab (te p hp)).isCodeTable, rfl, #[], more, rfl, by rw [Array.empty_append]; exact z⟩)
      · exact .inl (kept b o hb e)
    · by_cases hb : b ∈ T
      · obtain ⟨more, z⟩ := tabs b hb
        exact ⟨_, z⟩
      · exact ⟨o, kept b o hb e⟩
end
end Gd
namespace Gx2
open PySem PySem.Spec PyProof.Rows L2
/-! ### promises for calls made while nothing is being shown, with refusals: for defs that show lists or tuples and are called by others -/
structure FnX (P : Program) (w : World) (K : PySem.W.Frag) (mg : Str → Option Value) (base : Heap) (CX : CXT) (k : Nat) (f : Addr) (fd : FuncData) (ps : List Str) (sp : Sp) : Prop where
  len : ∀ us H Q E, sp us H Q E → us.length = ps.length
  run : ∀ (A : Around) (outer : List Env) (s : Shared) (H : Hp) (args : Args) (us : List Value) (vs : List V) (Q : VK) (E : XK), A.guards = some [] → Room k A → Env0 P w K mg base A outer s H → BindsTo s fd args (ps.zip us) → Vals vs us → sp vs H Q E → codeAny (model P w) A (.call (.ref f) args) (CR CX outer P w H s Q E) s
section
variable {P : Program} {w : World} {K : PySem.W.Frag} {mg : Str → Option Value} {base : Heap} {CX : CXT}
theorem of_ok {k : Nat} {f : Addr} {fd : FuncData} {ps : List Str} {sp : Sp} (F : FnOk P w K mg base CX k f fd ps sp) : FnX P w K mg base CX k f fd ps sp := ⟨F.len, fun A outer s H args us vs Q E _ => F.run A outer s H args us vs Q E⟩
theorem okX {x qual : Str} {st : Stmt} {f : Addr} {fd : FuncData} {N ps : List Str} {k : Nat} {sp : Sp} (F : Fun K x qual st f fd) (S : FnScope N ps (defScope st)) (ln : ∀ us H Q E, sp us H Q E → us.length = ps.length)
    (body : ∀ (cdv : Value) (A : Around) (outer : List Env) (s : Shared) (H : Hp) (vs : List V) (Q : VK) (E : XK), A.guards = some [] → Room k (A.deeper (envOfC qual (defScope st) s.heap.objs.size f cdv)) → sp vs H Q E →
      ∃ t, PSs (cxOf CX P w K mg base N qual (defScope st) f cdv A outer s H E) (defBody st) t ∧ t { nx := fun _ H' => Q .non H', rt := Q } (start N vs) H) : FnX P w K mg base CX (k + 1) f fd ps sp := by
  obtain ⟨oc, od, kV, doc, pm, an, cdv, ct, osl, rfl, lk, hcd⟩ := F.ex
  refine ⟨ln, fun A outer s H args us vs Q E gd room env bind rel ask => ?_⟩
  have inS : K.In s.heap := env.mod.kin.keeps fun b o e => (env.bs b o e).1
  have noL : s.heap.NoLimit := env.mod.nolimit.keeps fun b o e => (env.bs b o e).1
  refine codeAny_call_function room.depth (inS _ _ lk) rfl S.co S.gen rfl (PySem.W.codeRec_of inS hcd) (bind _ _ _ _ (wpAny_newFunctionEnv_cells S.kind (fun y hy => ?_) fun env' he s1 z => ?_))
  · rcases S.par y.1 (List.of_mem_zip (a := y.1) (b := y.2) hy).1 with q | q
    · exact Or.inl q
    · exact Or.inr ⟨q, PySem.W.cellsFrom_some _ _ _ (Or.inl q)⟩
  · subst he
    obtain ⟨t, h1, h2⟩ := body cdv A outer s H vs Q E gd (room.deeper _) ask
    have J := inv_start (CX := CX) (E := E) S room.hd env (ln _ _ _ _ ask) rel z
    refine ⟨noL.keeps z.toInCall.keep, codeAny_func (wpAny_mono (h1.run [] s1 _ H _ J h2) (fun fl s' r => ?_) fun _ _ r => r)⟩
    match fl, r with
    | .ret u, r =>
      obtain ⟨v, σ', H', I, rv, q⟩ := r
      exact ⟨v, H', I.os, I.bare, I.base, I.hok, rv, q⟩
    | .next, r =>
      obtain ⟨σ', H', I, q⟩ := r
      exact ⟨.non, H', I.os, I.bare, I.base, I.hok, rfl, q⟩
    | .brk, r =>
      obtain ⟨_, _, _, q⟩ := r
      exact q.elim
    | .cont, r =>
      obtain ⟨_, _, _, q⟩ := r
      exact q.elim
end
section
variable {X : Cx} {CX : CXT} {k : Nat} {f : Addr} {fd : FuncData} {ps : List Str} {sp : Sp} {dvs : List V} {ds : List Value} {E : XK}
theorem runX {pins : List (Addr × Obj)} {σ : L2.St} {H : Hp} {s : Shared} {Q : VK} {us : List Value} {vs : List V} (F : FnX X.prog X.w X.K X.mg X.base CX k f fd ps sp) (gd : X.A.guards = some []) (room : Room k X.A) (bind : Binds X.K fd ps ds) (dv : Vals dvs ds) (pass : Passes CX X E)
    (I : Inv X pins σ H s) (rel : Vals vs us) (ask : sp (vs ++ dvs) H Q E) : wpAny (model X.prog X.w) X.A (call (.ref f) us) (EP X pins σ Q) X.xe s := by
  have r2 : Vals (vs ++ dvs) (us ++ ds) := rel.append dv
  have ll : (us ++ ds).length = ps.length := r2.length.symm.trans (F.len _ _ _ _ ask)
  refine wpAny_call (codeAny_mono (F.run X.A X.stack s H ⟨us, []⟩ _ _ Q E gd room I.env0 (bind s us I.kIn ll) r2 ask) fun r s' z => ?_)
  match r, z with
  | .error e, z => exact pass pins σ H s e s' I z
  | .ok (.ret u), z => exact I.after z
  | .ok .next, z => exact z.elim
  | .ok .brk, z => exact z.elim
  | .ok .cont, z => exact z.elim
/-- f(..) where nothing is being shown -/
theorem pe_callX {x : Str} {p pos : Pos} {e : Expr} {es : List Expr} {t : TA} (F : FnX X.prog X.w X.K X.mg X.base CX k f fd ps sp) (gd : X.A.guards = some []) (room : Room k X.A) (gl : Gl X x) (at_ : X.mg x = some (.ref f)) (kp : PySem.W.keepIn X.K (.ref f) = true) (bind : Binds X.K fd ps ds) (dv : Vals dvs ds) (pass : Passes CX X E)
    (ha : PA X (e :: es) t) (hdb : (x == ("__debug__" : Str)) = false := by decide) (he : starEach (e :: es) X.env = (false, eval e X.env) :: starEach es X.env := by rfl) (hpl : (backTo pos (starEach es X.env)).any (·.1) = false := by rfl) :
    PE X (.Call (.Name x p) (e :: es) [] pos) (tCall sp dvs E t) :=
  ⟨fun pins s σ H Q I h => wpAny_Call_Name_kw (ld_glob I gl at_ (PySem.W.callWith_K (h₀ := X.base) I.ok.mod.kin kp (thn (ha.run pos pins s σ H _ I h) fun us s1 ⟨vs, H1, I1, r, q⟩ => ⟨I1.kIn, runX F gd room bind dv pass I1 r q⟩) he hpl) hdb)⟩
end
end Gx2
namespace Rk
open PySem PySem.Spec PyProof.Rows L2 Nw Ev1 Gx2
/-! ### a call of a value that an expression tells; a caught error kept as a value; count of truths -/
theorem takes0 {X : Cx} : Takes X (fun _ _ _ _ => False) := fun _ _ x => by
  obtain ⟨_, _, _, _, _, _, _, _, _, _, _, _, _, _, _, _, z⟩ := x
  exact z.elim
section
variable {X : Cx} {CX : CXT} {k : Nat} {f : Addr} {fd : FuncData} {ps : List Str} {sp : Sp} {E : L2.St → XK}
theorem runS {pins : List (Addr × Obj)} {σ : L2.St} {H : Hp} {s : Shared} {Q : VK} {us : List Value} {vs : List V} (F : FnX X.prog X.w X.K X.mg X.base CX k f fd ps sp) (gd : X.A.guards = some []) (room : Room k X.A) (bind : Binds X.K fd ps []) (pass : PassesAt CX X σ (E σ))
    (I : Inv X pins σ H s) (rel : Vals vs us) (ask : sp vs H Q (E σ)) : wpAny (model X.prog X.w) X.A (call (.ref f) us) (EP X pins σ Q) X.xe s := by
  have ll : us.length = ps.length := rel.length.symm.trans (F.len _ _ _ _ ask)
  have b := bind s us I.kIn (by rw [List.append_nil]; exact ll)
  rw [List.append_nil] at b
  refine wpAny_call (codeAny_mono (F.run X.A X.stack s H ⟨us, []⟩ us vs Q (E σ) gd room I.env0 b rel ask) fun r s' z => ?_)
  match r, z with
  | .error e, z => exact pass pins H s e s' I z
  | .ok (.ret u), z => exact I.after z
  | .ok .next, z => exact z.elim
  | .ok .brk, z => exact z.elim
  | .ok .cont, z => exact z.elim
/-- g(e, ..), g an expression that tells the def f -/
def tCallV (f : Addr) (tf : TE) (sp : Sp) (E : L2.St → XK) (t : TA) : TE := fun σ H Q => tf σ H fun v H1 => v = .ref f ∧ t σ H1 fun vs H2 => sp vs H2 Q (E σ)
theorem pe_callV {fe e : Expr} {es : List Expr} {tf : TE} {t : TA} {pos : Pos} (F : FnX X.prog X.w X.K X.mg X.base CX k f fd ps sp) (gd : X.A.guards = some []) (room : Room k X.A) (kp : PySem.W.keepIn X.K (.ref f) = true) (bind : Binds X.K fd ps []) (pass : ∀ σ, PassesAt CX X σ (E σ)) (hf : PE X fe tf)
    (ha : PA X (e :: es) t) (hc : eval (.Call fe (e :: es) [] pos) X.env = (do callWith pos (← eval fe X.env) [] (backTo pos (starEach (e :: es) X.env)) (backToKw pos (keywordEach [] X.env))) := by rfl)
    (he : starEach (e :: es) X.env = (false, eval e X.env) :: starEach es X.env := by rfl) (hpl : (backTo pos (starEach es X.env)).any (·.1) = false := by rfl) :
    PE X (.Call fe (e :: es) [] pos) (tCallV f tf sp E t) := by
  refine ⟨fun pins s σ H Q I h => ?_⟩
  rw [hc]
  refine wpAny_bind (thn (hf.run pins s σ H _ I h) fun u s1 ⟨v, H1, I1, r1, e1, q1⟩ => ?_)
  subst e1
  cases r1
  exact PySem.W.callWith_K (h₀ := X.base) I1.ok.mod.kin kp (thn (ha.run pos pins s1 σ H1 _ I1 q1) fun us s2 ⟨vs, H2, I2, r, q⟩ => ⟨I2.kIn, runS F gd room bind (pass σ) I2 r q⟩) he hpl
end
section
variable {X : Cx} {pins : List (Addr × Obj)} {σ : L2.St} {H : Hp} {s : Shared} {a : Addr} {oe : Obj} {cls : Value} {d : Option Addr}
/-- an exception that stands in the heap comes to be known -/
theorem track {vs : Array Value} (I : Inv X pins σ H s) (ha : s.heap.get? a = some oe) (hz : Zc cls d oe) (hd : oe.data = .fields vs) (na : H a = none) (nL : a ≠ X.env.locals) (n0 : X.s_0.heap.get? a = none) (np : ∀ p ∈ X.pn ++ pins, p.1 ≠ a) :
    Inv X pins σ (upd H a (ExV cls d a)) s := by
  have new : ObjOk X.prog X.w (upd H a (ExV cls d a)) s.heap a (ExV cls d a) := ⟨⟨oe, vs, ha, hz, hd⟩, ⟨oe, ha⟩, fun h1 h2 ⟨o, v, y, r⟩ i => ⟨o, v, i o y, r⟩⟩
  have b := I.base
  refine ⟨I.ok, I.os, I.bare, ⟨b.keep, b.slot, fun x o e n m => ?_, b.there, fun x xs e => ?_, fun x o u e => ?_, fun x ps e => ?_⟩, I.loc, I.cell, ?_, fun x c e => ?_, fun p hp => ?_, I.hok.laidN (fun _ _ z => z) na new, I.len⟩
  · rw [upd_ne (fun z => by rw [z, n0] at e; cases e)]
    exact b.free x o e n m
  · rw [upd_ne (ne_of_none (b.tups x xs e) na)]
    exact b.tups x xs e
  · rw [upd_ne (ne_of_none (b.frzs x o u e) na)]
    exact b.frzs x o u e
  · obtain ⟨more, z⟩ := b.tbls x ps e
    exact ⟨more, by rw [upd_ne (ne_of_none z na)]; exact z⟩
  · rw [upd_ne (Ne.symm nL)]
    exact I.free
  · obtain ⟨w, z⟩ := I.cell x c e
    rw [upd_ne (fun y => ?_)]
    · exact I.freeC x c e
    · rw [y] at z
      obtain ⟨o, z1, z2⟩ := z
      rw [ha] at z1
      cases z1
      simp_all
  · obtain ⟨e, n, ne, nf, c⟩ := I.pin p hp
    exact ⟨e, by rw [upd_ne (np p hp)]; exact n, ne, nf, c⟩
end
/-- what «except x as n: suite» wishes of an exception of the body, where the suite ends and the exception is known behind it -/
def wKeep (K : PySem.W.Frag) (c : Value) (i : Nat) (ts : Addr → Value → Option Addr → TS) (Wout : WX) (D : Ends) : WX := fun cls d σ H =>
  ∃ b, PySem.W.exmOne K cls c = some b ∧ (b = true → ∀ a, H a = none → ts a cls d { nx := fun σ' H' => H' a = none → D.nx (σ'.set i none) (upd H' a (ExV cls d a)), rt := fun _ _ => False, bk := fun _ _ => False, ct := fun _ _ => False } (σ.set i (some (.ref a))) H) ∧
    (b = false → Wout cls d σ H)
section
variable {X : Cx} {x n : Str} {c : Value} {i : Nat} {body suite : List Stmt} {b₀ : Stmt} {np pos pos' : Pos} {tb : WX → TS} {ts : Addr → Value → Option Addr → TS} {Wout : WX}
theorem ps_try_keep (hs : X.stack = X.env :: X.outer) (hf : X.env.frame = some X.env.locals) (hex : X.ex = []) (hN : X.N.Nodup) (hi : X.N[i]? = some n) (hln : X.env.kindOf n = some .local) (hc : Names X x c) (tk : Takes X Wout)
    (hb : ∀ (W : WX) (pn : List (Addr × Obj)) (xe : Value → Shared → Prop), Takes (X.tr pn xe) W → PassesOwn (model X.prog X.w) X.A X.env xe → PSs (X.tr pn xe) body (tb W))
    (hsu : ∀ (a : Addr) (oe : Obj) (cls : Value) (d : Option Addr) (pn : List (Addr × Obj)), Zc cls d oe → (∃ vs, oe.data = .fields vs) → PSs (X.suite a ((a, oe) :: pn)) (b₀ :: suite) (ts a cls d)) :
    PS X (.Try body [.ExceptHandler (some (.Name x np)) (some n) (b₀ :: suite) pos'] [] [] pos) (fun D σ H => tb (wKeep X.K c i ts Wout D) D σ H) := by
  refine ⟨fun pins s σ H D I h => ?_⟩
  have ok := I.ok
  have hfr : X.A.frames = some (X.env :: X.outer) := by rw [ok.frames, hs]
  have hloc : Loc X.env.scope n := .inl hln
  refine wpAny_Try_except ?_
  refine wpAny_mono ((hb (wKeep X.K c i ts Wout D) (X.pn ++ pins) (fun e s₁ => wpAny (model X.prog X.w) X.A (noteFrame e X.env) (fun _ s₂ => wpAny (model X.prog X.w) X.A (setFlight e none) (fun _ s₃ =>
    wpAny (model X.prog X.w) X.A (handleBy e X.env [.ExceptHandler (some (.Name x np)) (some n) (b₀ :: suite) pos']) (SP X pins D) X.xe s₃) X.xe s₂) X.xe s₁) (fun u s' xx => ?_) PassesOwn.looking).run [] s σ H D (I.toTry _) h) (fun f s1 hsp => ?_) (fun e s1 he => he)
  · obtain ⟨a, B, sI, pins', σ', H', cls, d, rfl, J', nb, up, sky, na, os, ag, b, hb1, hyes, hno⟩ := xx
    have J : Inv X pins σ' H' sI := J'.ofTry ok
    have sky' : Sky B (X.env :: X.outer) a (Zc cls d) X.env.locals s'.heap := by rw [← hs]; exact sky
    have Ba : B.get? a = none := by
      rcases sky with z | z | z
      · exact z.2.1
      · exact z.2.1
      · exact z.2.1
    show wpAny (model X.prog X.w) X.A (noteFrame (.ref a) X.env) _ _ _
    refine Sky.land Zc.steady hfr hf sky' fun h3 fl3 up3 => ?_
    have J3 : Inv X pins σ' H' { s' with heap := h3 } := J.landed nb fl3.1 (up.trans up3) os ag
    obtain ⟨oe3, vs3, he3, hz3, hd3⟩ := fl3.there
    have notFr : ∀ {h : Heap} {o : Obj} {vs : Array Value}, h.FunFrames B (X.env :: X.outer) → h.get? a = some o → o.data = .fields vs → a ∉ frs (X.env :: X.outer) := fun {h o vs} ff e dd hm => by
      obtain ⟨_, o', e', hnf⟩ := ff.mem hm
      rw [e] at e'; cases e'
      exact hnf _ dd
    have nfr := notFr fl3.2.2.1 he3 hd3
    have nL : a ≠ X.env.locals := fun z => nfr (List.mem_filterMap.mpr ⟨X.env, List.mem_cons_self, by rw [hf, z]⟩)
    have nF : a ∉ X.fs := fun hm => by
      obtain ⟨e, he, q⟩ := List.mem_filterMap.mp hm
      exact nfr (List.mem_filterMap.mpr ⟨e, List.mem_cons_of_mem _ he, q⟩)
    have n0 : X.s_0.heap.get? a = none := by
      cases z : X.s_0.heap.get? a with
      | none => rfl
      | some o =>
        obtain ⟨o', z2⟩ := J.base.there a o z (by rw [hex]; simp)
        rw [nb a o' z2 (by show a ∉ frs X.stack; rw [hs]; exact nfr)] at Ba
        cases Ba
    have npin : ∀ p ∈ X.pn ++ pins, p.1 ≠ a := fun p hp z => by
      have y := (J.pin p hp).1
      rw [z] at y
      rw [nb a _ y (by show a ∉ frs X.stack; rw [hs]; exact nfr)] at Ba
      cases Ba
    have S3 := J3.suite he3 hd3 na nL nF
    refine wpAny_handleBy_cons (codeAny_handlers_test ?_) (by intro q; cases q)
    have LT : PySem.W.Looks (model X.prog X.w) h3 (typeOf (.ref a)) cls := fun A Q E s k q => wpAny_typeOf_ref (k _ _ he3) (by rw [hz3.1]; exact q)
    have LM := PySem.W.exm_one (M := model X.prog X.w) (J3.kIn) LT hb1
    have test : ∀ {Q : Value → Shared → Prop} {E : Value → Shared → Prop}, Q c { s' with heap := h3 } → wpAny (model X.prog X.w) (X.A.mark (some (.ref a))) (eval (.Name x np) X.env) Q E { s' with heap := h3 } := fun {Q E} q => by
      obtain ⟨hg, hdbg, hm | ⟨hm, hv, hnn⟩⟩ := hc
      · exact ld_glob (X := X.suite a ((a, oe3) :: (X.pn ++ pins))) S3 hg hm q hdbg
      · exact ld_blt (X := X.suite a ((a, oe3) :: (X.pn ++ pins))) S3 hg hm hv q hnn hdbg
    refine test (LM.here ?_)
    cases b with
    | true =>
      refine codeAny_handlers_suite_as ?_
      refine HandSPX.lands_againZ fl3 fun h4 fl4 up4 => ?_
      have J4 : Inv X pins σ' H' { s' with heap := h4 } := J.landed nb fl4.1 ((up.trans up3).trans up4) os ag
      obtain ⟨oe4, vs4, he4, hz4, hd4⟩ := fl4.there
      have S4 := J4.suite he4 hd4 na nL nF
      refine store_ok (X := X.suite a ((a, oe4) :: (X.pn ++ pins))) (v := .ref a) S4 hN hi hloc rfl (fun s5 S5 => ?_) (.inr hln)
      refine wpAny_mono ((hsu a oe4 cls d (X.pn ++ pins) hz4 ⟨_, hd4⟩).run [] s5 _ H' _ S5 (hyes rfl a na)) (fun f s6 hsp => ?_) (fun _ _ z => False.elim z)
      cases f with
      | next =>
        obtain ⟨σ6, H6, S6, q6⟩ := hsp
        obtain ⟨p1, p2, _⟩ := S6.pin (a, oe4) (List.mem_append_left _ List.mem_cons_self)
        have J6 : Inv X pins σ6 H6 s6 := S6.unsuite ok
        have J7 : Inv X pins σ6 (upd H6 a (ExV cls d a)) s6 := track J6 p1 hz4 hd4 p2 nL n0 npin
        exact gone_ok J7 hN hi hln fun s7 J8 => ⟨_, _, J8, q6 p2⟩
      | brk =>
        obtain ⟨σ6, H6, S6, q6⟩ := hsp
        exact q6.elim
      | cont =>
        obtain ⟨σ6, H6, S6, q6⟩ := hsp
        exact q6.elim
      | ret u =>
        obtain ⟨v6, σ6, H6, S6, r6, q6⟩ := hsp
        exact q6.elim
    | false =>
      show wpAny _ X.A (handleBy (.ref a) X.env []) _ _ _
      refine wpAny_handleBy_nil ?_
      obtain ⟨k1, k2, k3, oe, vs, T, oT, ts', he, hz, hd, h1, hr⟩ := id fl3
      unfold PySem.passOn
      refine wpAny_bind (wpAny_field he hd h1 ?_)
      rw [if_neg (show ¬ ((Value.ref T == Value.none) = true) from by simp)]
      have fin : wpAny (model X.prog X.w) X.A (setFlight (.ref a) X.env.frame) (fun _ s4 => wpAny (model X.prog X.w) X.A (throw (.ref a) : Sem Flow) (SP X pins D) X.xe s4) X.xe { s' with heap := h3 } := by
        rw [hf]
        refine HandSPX.setFlight_upZ fl3 fun h4 hh4 up4 => wpAny_throw (tk _ _ ?_)
        exact ⟨a, B, sI, pins, σ', H', cls, d, rfl, J, nb, (up.trans up3).trans up4, .inr (.inr (by rw [hs]; exact hh4)), na, os, ag, hno rfl⟩
      first
        | exact wpAny_bind (wpAny_pure (wpAny_bind fin))
        | exact wpAny_bind fin
  · cases f with
    | next =>
      obtain ⟨σ', H', J', q⟩ := hsp
      exact wpAny_execs_nil ⟨σ', H', J'.ofTry ok, q⟩
    | brk =>
      obtain ⟨σ', H', J', q⟩ := hsp
      exact ⟨σ', H', J'.ofTry ok, q⟩
    | cont =>
      obtain ⟨σ', H', J', q⟩ := hsp
      exact ⟨σ', H', J'.ofTry ok, q⟩
    | ret u =>
      obtain ⟨v, σ', H', J', r, q⟩ := hsp
      exact ⟨v, σ', H', J'.ofTry ok, r, q⟩
end
/-- at a a caught exception of the class D -/
def ExW (H : Hp) (a D : Addr) : Prop := H a = some (ExV (.ref D) none a) ∨ ∃ y, ExF H a D y
theorem ExW.same {H H' : Hp} {a D : Addr} (h : ExW H a D) (s : Same H H') : ExW H' a D := by
  rcases h with h | ⟨y, h⟩
  · exact .inl (s _ _ h)
  · exact .inr ⟨y, h.same s⟩
theorem ExW.inst {X : Cx} {pins : List (Addr × Obj)} {σ : L2.St} {H : Hp} {s : Shared} {a D : Addr} (I : Inv X pins σ H s) (h : ExW H a D) : ∃ ox od, PySem.W.InstAt s.heap a ox D od := by
  rcases h with h | ⟨y, h⟩
  · have z1 : ObjOk X.prog X.w H s.heap a (.ext fun h => ∃ (oe : Obj) (vs : Array Value), h.get? a = some oe ∧ Zc (.ref D) none oe ∧ oe.data = .fields vs) := I.hok a _ h
    obtain ⟨⟨oe, vs, ha, ⟨hc, hd⟩, hv⟩, _⟩ := z1
    exact ⟨oe, none, ⟨ha, hc, notCls_of hv, by rw [hd]; exact trivial⟩⟩
  · obtain ⟨ox, od, _, J, _⟩ := h.inst I
    exact ⟨ox, some od, J⟩
/-- isinstance(e, c) of a caught exception -/
def rIsW (K : PySem.W.Frag) : List V → Hp → VK → Prop := fun xs H Q => ∃ (a D : Addr) (c : V) (cv : Value) (b : Bool), xs = [.ref a, c] ∧ ExW H a D ∧ ExcC K D ∧ (∀ u, RelV c u → u = cv) ∧ PySem.W.kitOne K (.ref D) cv = some b ∧ Q (.bl b) H
theorem call_isW {X : Cx} : CallR X (.builtin "isinstance") (rIsW X.K) := by
  intro pins s σ H xs us Q I r h
  obtain ⟨a, D, c, cv, b, rfl, hE, C, hcv, e, q⟩ := h
  cases r with
  | cons rx rr =>
    cases rr with
    | cons rt rr =>
      cases rr
      cases rx
      have ec := hcv _ rt
      subst ec
      obtain ⟨ox, od, J⟩ := hE.inst I
      have cl : (PySem.W.clsIn X.K D).isSome = true := by
        obtain ⟨cd, hc, _⟩ := PySem.W.any_some C.hd
        rw [hc]
        rfl
      exact PySem.W.kia_one (PySem.W.kitx_exc cl C.hg C.hk C.hs C.ha C.hn C.ht C.hm) I.kIn J e (fun z => nomatch z) fun tk => ⟨.bl b, H, I.kept (t' := tk) fun _ _ z => z, rfl, q⟩
theorem count_vals {y : V} : ∀ {ys : List V} {us : List Value}, Vals ys us → ys.all flatV = true → us.countP (eqU y) = ys.countP fun z => eqV z y
  | [], _, .nil, _ => rfl
  | z :: r, u :: us, .cons r1 t, f => by
    rw [List.all_cons, Bool.and_eq_true] at f
    rw [List.countP_cons, List.countP_cons, count_vals t f.2, eqU_of r1 f.1]
/-- xs.count(y), flat items -/
def rCountV (K : PySem.W.Frag) : V → List V → Hp → VK → Prop := fun x xs H Q => ∃ (p : Addr) (ys : List V) (y : V), x = .ref p ∧ xs = [y] ∧ SqL K H p ys ∧ flatV y = true ∧ ys.all flatV = true ∧ Q (.int ((ys.countP fun z => eqV z y : Nat) : Int)) H
theorem mt_countV {X : Cx} : MtR X "list.count" (rCountV X.K) := by
  intro pins s σ H x xs v us Q I rx rxs h
  obtain ⟨p, ys, y, rfl, rfl, hs, fy, fys, q⟩ := h
  cases rx
  obtain ⟨u, rfl, ru⟩ := rxs.one
  obtain ⟨its, rv, ⟨⟨cls, dd, data, sl⟩, n, ho, hc, hdn, hd⟩, hlen⟩ := I.list hs
  simp only at hc hd
  subst hc hd
  refine call_meets PySem.F.slot_list_count ⟨_, ho, rfl⟩ PySem.F.entry_list_count (PySem.F.args_list_count_2 _ _)
    (SeqAt.list_countAt p its.toArray n dd sl u (eqU y)) ⟨ho, fun z hz => mem_eqAt ru fy rv fys z (by simpa using hz), ?_⟩
  have ec : its.toArray.toList.countP (eqU y) = ys.countP fun z => eqV z y := count_vals rv fys
  refine ⟨.int ((ys.countP fun z => eqV z y : Nat) : Int), H, I.tok _, ⟨s.toks, ?_⟩, q⟩
  show Value.int ((its.toArray.toList.countP (eqU y) : Nat) : Int) s.toks = _
  rw [ec]
end Rk
namespace Rf
open PySem PySem.Spec PyProof.Rows L2 GxR Nw Dr Kp Se Ev1 Rk Ct
abbrev sRef : Stmt := topS 77
abbrev nRef : List Str := ["act", "caught", "e", "kinds", "words"]
theorem scRef : FnScope nRef ["act"] (defScope sRef) := ⟨rfl, rfl, rfl, by decide +kernel, rfl, by decide +kernel, by decide +kernel⟩
/-- the nine names -/
abbrev nm9 : List Str := ["NoCut", "NoLadder", "NoInstead", "TooGreat", "TooMany", "NoTelling", "NoText", "NoRow", "NoBack"]
/-- what the top has written of the classes -/
structure Txt (K : PySem.W.Frag) (mg : Str → Option Value) (cs : Nat → Addr) (S : Addr) : Prop where
  g : ∀ i x, nm9[i]? = some x → mg x = some (.ref (cs i))
  gS : mg "SpareError" = some (.ref S)
  ec : ∀ i, i < 9 → ExcC K (cs i)
  ap : ∀ i j, i < 9 → j < 9 → PySem.W.kitOne K (.ref (cs i)) (.ref (cs j)) = some (decide (j = i))
  kv : ∀ i, i < 9 → PySem.W.kitOne K (.ref (cs i)) (.type "ValueError") = some true
  xm : ∀ i, i < 9 → PySem.W.exmOne K (.ref (cs i)) (.ref S) = some true
  z_isinstance : mg "isinstance" = none
  z_ValueError : mg "ValueError" = none
  z_len : mg "len" = none
/-- the nine words -/
def wd9 : List Str := ["cut", "ladder", "instead", "great", "many", "telling", "text", "row", "back"]
def tru9 (i : Nat) : List V := (List.range 9).map fun j => V.bl (decide (j = i))
theorem cnt9 : ∀ i : Fin 9, ((tru9 i.val).countP fun z => eqV z (.bl true)) = 1 := by decide +kernel
theorem flat9 : ∀ i : Fin 9, (tru9 i.val).all flatV = true := by decide +kernel
theorem ix9 : ∀ i : Fin 9, (tru9 i.val)[i.val]? = some (V.bl true) := by decide +kernel
theorem no9 {i m : Nat} {z : V} (hm : m < i) (hi : i < 9) (h : (tru9 i)[m]? = some z) : eqV z (.bl true) = false := by
  unfold tru9 at h
  rw [List.getElem?_map, List.getElem?_range (by omega)] at h
  obtain rfl : V.bl (decide (m = i)) = z := Option.some.inj h
  rw [decide_eq_false (by omega)]
  rfl
section
variable {P : Program} {w : World} {K : PySem.W.Frag} {mg : Str → Option Value} {base : Heap}
/-- what refusing tells: a call with these three things; it may be refused by the class i, or not -/
def spRef (fa : Addr) (cs : Nat → Addr) (sp : Sp) : Sp := fun vs H Q _ => ∃ (t : Addr) (x y z : V), vs = [.ref t] ∧ H t = some (.tup [.ref fa, x, y, z]) ∧
  sp [x, y, z] H (fun _ H1 => ∀ H', Same H1 H' → Q (.str "") H') fun cls d H1 => ∃ i, i < 9 ∧ cls = .ref (cs i) ∧ (d = none ∨ ∃ dx v, d = some dx ∧ H1 dx = some (.xd [(("at" : Str), v)])) ∧ ∀ (wd : Str) (H' : Hp), wd9[i]? = some wd → Same H1 H' → Q (.str wd) H'
theorem ok_ref {f fa S : Addr} {cs : Nat → Addr} {fd fda : FuncData} {ps : List Str} {sp : Sp} (F : Fun K "_law_srefused" "_law_srefused" sRef f fd) (T : Txt K mg cs S) (kpA : PySem.W.keepIn K (.ref fa) = true) (bA : Binds K fda ps []) (GA : Gx2.FnX P w K mg base (L2.CX P w) 5 fa fda ps sp)
    (mono : ∀ (vs : List V) (H : Hp) (Q Q' : VK) (E E' : XK), sp vs H Q E → (∀ v H', Q v H' → Q' v H') → (∀ c d H', E c d H' → E' c d H') → sp vs H Q' E') :
    Gx2.FnX P w K mg base CX0 6 f fd ["act"] (spRef fa cs sp) := by
  refine Gx2.okX F scRef (fun vs H Q E h => ?_) (fun cdv A outer s H vs Q E gd0 hr h => ?_)
  · obtain ⟨t, x, y, z, rfl, _⟩ := h
    rfl
  · obtain ⟨t, x, y, z, rfl, ht, q⟩ := h
    have hr5 : Room 5 _ := hr
    have gd : (A.deeper (envOfC "_law_srefused" (defScope sRef) s.heap.objs.size f cdv)).guards = some [] := gd0
    refine ⟨_, (Evl.pss_cut (ps_set (i := 1) scRef.nd rfl (.inl rfl) pe_non)
      (Evl.pss_cut (Rk.ps_try_keep (i := 2) rfl rfl rfl scRef.nd rfl rfl ⟨rfl, by decide, .inl T.gS⟩ Rk.takes0 (fun W pn xe tk _ => (pss_one (ps_if (pt_cmpR op_eq (pe_callB (call_len_seqB (K := K) rfl) (by rfl) T.z_len (by decide +kernel) (pa_cons (pv 0) pa_nil)) pe_int (nomark _)) pss_never (pss_one (ps_if (pt_cmpR op_eq (pe_callB (call_len_seqB (K := K) rfl) (by rfl) T.z_len (by decide +kernel) (pa_cons (pv 0) pa_nil)) pe_int (nomark _)) pss_never (pss_one (ps_if (pt_cmpR op_eq (pe_callB (call_len_seqB (K := K) rfl) (by rfl) T.z_len (by decide +kernel) (pa_cons (pv 0) pa_nil)) pe_int (nomark _)) (pss_one (ps_expr (Rk.pe_callV GA gd hr5 kpA bA (fun σ => passAt tk σ) (pe_ix (ix_tupB (K := K) rfl) (pv 0) pe_int (fun _ _ => rfl)) (pa_cons (pe_ix (ix_tupB (K := K) rfl) (pv 0) pe_int (fun _ _ => rfl)) (pa_cons (pe_ix (ix_tupB (K := K) rfl) (pv 0) pe_int (fun _ _ => rfl)) (pa_cons (pe_ix (ix_tupB (K := K) rfl) (pv 0) pe_int (fun _ _ => rfl)) pa_nil)))))) pss_never))))))) (fun a oe cls d pn hz hf => (pss_one (ps_set (i := 1) scRef.nd rfl (.inl rfl) (pv 2)))))
      (pss_cons (ps_if (pt_cmpR op_isN (pv 1) pe_non (nomark _)) (pss_one (ps_ret pe_str)) pss_nil)
      (pss_cons (ps_set (i := 3) scRef.nd rfl (.inl rfl) (pe_lstN (pa_cons (pe_callB Rk.call_isW (by rfl) T.z_isinstance (by decide +kernel) (pa_cons (pv 1) (pa_cons (pe_glob (v := .ref (cs 0)) rfl (T.g 0 _ rfl) rfl) pa_nil))) (pa_cons (pe_callB Rk.call_isW (by rfl) T.z_isinstance (by decide +kernel) (pa_cons (pv 1) (pa_cons (pe_glob (v := .ref (cs 1)) rfl (T.g 1 _ rfl) rfl) pa_nil))) pa_nil))))
      (pss_cons (ps_set (i := 3) scRef.nd rfl (.inl rfl) (pe_op op_catN (pv 3) (pe_lstN (pa_cons (pe_callB Rk.call_isW (by rfl) T.z_isinstance (by decide +kernel) (pa_cons (pv 1) (pa_cons (pe_glob (v := .ref (cs 2)) rfl (T.g 2 _ rfl) rfl) pa_nil))) (pa_cons (pe_callB Rk.call_isW (by rfl) T.z_isinstance (by decide +kernel) (pa_cons (pv 1) (pa_cons (pe_glob (v := .ref (cs 3)) rfl (T.g 3 _ rfl) rfl) pa_nil))) pa_nil)))))
      (pss_cons (ps_set (i := 3) scRef.nd rfl (.inl rfl) (pe_op op_catN (pv 3) (pe_lstN (pa_cons (pe_callB Rk.call_isW (by rfl) T.z_isinstance (by decide +kernel) (pa_cons (pv 1) (pa_cons (pe_glob (v := .ref (cs 4)) rfl (T.g 4 _ rfl) rfl) pa_nil))) (pa_cons (pe_callB Rk.call_isW (by rfl) T.z_isinstance (by decide +kernel) (pa_cons (pv 1) (pa_cons (pe_glob (v := .ref (cs 5)) rfl (T.g 5 _ rfl) rfl) pa_nil))) pa_nil)))))
      (Evl.pss_cut (ps_set (i := 3) scRef.nd rfl (.inl rfl) (pe_op op_catN (pv 3) (pe_lstN (pa_cons (pe_callB Rk.call_isW (by rfl) T.z_isinstance (by decide +kernel) (pa_cons (pv 1) (pa_cons (pe_glob (v := .ref (cs 6)) rfl (T.g 6 _ rfl) rfl) pa_nil))) (pa_cons (pe_callB Rk.call_isW (by rfl) T.z_isinstance (by decide +kernel) (pa_cons (pv 1) (pa_cons (pe_glob (v := .ref (cs 7)) rfl (T.g 7 _ rfl) rfl) pa_nil))) pa_nil)))))
      (Evl.pss_cut (ps_expr (pe_bm PySem.F.plainAttrs_list PySem.F.slot_list_append PySem.F.type_list_append mt_append (pv 3) (pa_cons (pe_callB Rk.call_isW (by rfl) T.z_isinstance (by decide +kernel) (pa_cons (pv 1) (pa_cons (pe_glob (v := .ref (cs 8)) rfl (T.g 8 _ rfl) rfl) pa_nil))) pa_nil)))
      (pss_cons (ps_if (PW.pt (pw_or (pt_cmpR op_ne (pe_bm PySem.F.plainAttrs_list PySem.F.slot_list_count PySem.F.type_list_count Rk.mt_countV (pv 3) (pa_cons pe_bl pa_nil)) pe_int (nomark _)) (pw_or1 (pt_not (pt_val (pe_callB Rk.call_isW (by rfl) T.z_isinstance (by decide +kernel) (pa_cons (pv 1) (pa_cons (pe_bltn (v := .ty "ValueError") (by rfl) T.z_ValueError PyProof.Rows.Boot.«ValueError» rfl) pa_nil)))))))) (pss_one (ps_ret pe_str)) pss_nil)
      (pss_cons (ps_set (i := 4) scRef.nd rfl (.inl rfl) (pe_lstN (pa_cons pe_str (pa_cons pe_str (pa_cons pe_str (pa_cons pe_str (pa_cons pe_str (pa_cons pe_str (pa_cons pe_str (pa_cons pe_str (pa_cons pe_str pa_nil)))))))))))
      (pss_one (ps_ret (pe_ix ix_list (pv 4) (pe_bm PySem.F.plainAttrs_list PySem.F.slot_list_index PySem.F.type_list_index mt_index (pv 3) (pa_cons pe_bl pa_nil)) (fun _ _ => rfl)))))))))))))), ?_⟩
    refine Evl.q_cut (M := fun σ' H' => σ' = [some (.ref t), some .non, none, none, none] ∧ H' = H) ⟨rfl, rfl⟩ ?_
    rintro σ' H' ⟨rfl, rfl⟩
    refine Evl.q_cut (M := fun σ' H' => (σ' = [some (.ref t), some .non, none, none, none] ∧ (∀ H'', Same H' H'' → Q (.str "") H'')) ∨ ∃ (a : Addr) (i : Nat), σ' = [some (.ref t), some (.ref a), none, none, none] ∧ i < 9 ∧ ExW H' a (cs i) ∧ (∀ (wd : Str) (H'' : Hp), wd9[i]? = some wd → Same H' H'' → Q (.str wd) H'')) ?_ ?_
    · refine ⟨_, rfl, t, _, rfl, .inr (.of ht), rfl, false, rfl, ?_⟩
      refine ⟨_, rfl, t, _, rfl, .inr (.of ht), rfl, false, rfl, ?_⟩
      refine ⟨_, rfl, t, _, rfl, .inr (.of ht), rfl, true, rfl, ?_⟩
      refine ⟨_, rfl, t, _, 0, .ref fa, rfl, rfl, .of ht, rfl, rfl, ?_⟩
      refine ⟨_, rfl, t, _, 1, x, rfl, rfl, .of ht, rfl, ?_⟩
      refine ⟨_, rfl, t, _, 2, y, rfl, rfl, .of ht, rfl, ?_⟩
      refine ⟨_, rfl, t, _, 3, z, rfl, rfl, .of ht, rfl, ?_⟩
      refine mono _ _ _ _ _ _ q (fun v H1 h1 => .inl ⟨rfl, h1⟩) fun c d H1 h1 => ?_
      obtain ⟨i, hi, rfl, hd, h2⟩ := h1
      refine ⟨true, T.xm i hi, fun _ a na => ?_, fun z => nomatch z⟩
      refine ⟨.ref a, rfl, fun nb => .inr ⟨a, i, rfl, hi, ?_, fun wd H'' e s2 => h2 wd H'' e ((same_new na).trans s2)⟩⟩
      rcases hd with rfl | ⟨dx, v, rfl, hx⟩
      · exact .inl upd_same
      · exact .inr ⟨v, dx, upd_same, by rw [upd_ne (ne_of_none hx na)]; exact hx⟩
    · rintro σ' H1 (⟨rfl, q1⟩ | ⟨a, i, rfl, hi, hE, q1⟩)
      · refine ⟨_, rfl, rfl, true, rfl, ?_⟩
        exact q1 _ (Same.refl _)
      · refine ⟨_, rfl, rfl, false, rfl, ?_⟩
        refine ⟨_, rfl, a, cs i, .ref (cs 0), .ref (cs 0), decide (0 = i), rfl, hE, T.ec i hi, fun u r => r, T.ap i 0 hi (by decide), ?_⟩
        refine ⟨_, rfl, a, cs i, .ref (cs 1), .ref (cs 1), decide (1 = i), rfl, hE, T.ec i hi, fun u r => r, T.ap i 1 hi (by decide), ?_⟩
        refine ⟨by show 2 ≤ sizeLine; decide, fun q1' J1 nq1 u1 k1 _ => ?_⟩
        refine ⟨_, rfl, _, rfl, a, cs i, .ref (cs 2), .ref (cs 2), decide (2 = i), rfl, hE.same u1, T.ec i hi, fun u r => r, T.ap i 2 hi (by decide), ?_⟩
        refine ⟨_, rfl, a, cs i, .ref (cs 3), .ref (cs 3), decide (3 = i), rfl, hE.same u1, T.ec i hi, fun u r => r, T.ap i 3 hi (by decide), ?_⟩
        refine ⟨by show 2 ≤ sizeLine; decide, fun q2 J2 nq2 u2 k2 _ => ?_⟩
        refine ⟨q1', q2, _, _, rfl, rfl, u2 _ _ k1, k2, by show 4 ≤ sizeLine; decide, fun q3 J3 nq3 u3 k3 _ => ?_⟩
        have v3 := u1.trans (u2.trans u3)
        refine ⟨_, rfl, _, rfl, a, cs i, .ref (cs 4), .ref (cs 4), decide (4 = i), rfl, hE.same v3, T.ec i hi, fun u r => r, T.ap i 4 hi (by decide), ?_⟩
        refine ⟨_, rfl, a, cs i, .ref (cs 5), .ref (cs 5), decide (5 = i), rfl, hE.same v3, T.ec i hi, fun u r => r, T.ap i 5 hi (by decide), ?_⟩
        refine ⟨by show 2 ≤ sizeLine; decide, fun q4 J4 nq4 u4 k4 _ => ?_⟩
        refine ⟨q3, q4, _, _, rfl, rfl, u4 _ _ k3, k4, by show 6 ≤ sizeLine; decide, fun q5 J5 nq5 u5 k5 _ => ?_⟩
        have v5 := v3.trans (u4.trans u5)
        refine Evl.q_cut (M := fun σ' H2 => ∃ p : Addr, σ' = [some (.ref t), some (.ref a), none, some (.ref p), none] ∧ Same H1 H2 ∧ H1 p = none ∧ H2 p = some (.lst ((List.range 8).map fun j => V.bl (decide (j = i))))) ?_ ?_
        · refine ⟨_, rfl, _, rfl, a, cs i, .ref (cs 6), .ref (cs 6), decide (6 = i), rfl, hE.same v5, T.ec i hi, fun u r => r, T.ap i 6 hi (by decide), ?_⟩
          refine ⟨_, rfl, a, cs i, .ref (cs 7), .ref (cs 7), decide (7 = i), rfl, hE.same v5, T.ec i hi, fun u r => r, T.ap i 7 hi (by decide), ?_⟩
          refine ⟨by show 2 ≤ sizeLine; decide, fun q6 J6 nq6 u6 k6 _ => ?_⟩
          refine ⟨q5, q6, _, _, rfl, rfl, u6 _ _ k5, k6, by show 8 ≤ sizeLine; decide, fun q7 J7 nq7 u7 k7 _ => ?_⟩
          exact ⟨q7, rfl, v5.trans (u6.trans u7), (v5.trans u6).free nq7, k7⟩
        rintro σ' H2 ⟨p, rfl, s2, np, hp⟩
        refine Evl.q_cut (M := fun σ' H3 => σ' = [some (.ref t), some (.ref a), none, some (.ref p), none] ∧ Same H1 H3 ∧ H3 p = some (.lst (tru9 i))) ?_ ?_
        · refine ⟨_, rfl, .inl ⟨rfl, _, .of hp⟩, _, rfl, a, cs i, .ref (cs 8), .ref (cs 8), decide (8 = i), rfl, hE.same s2, T.ec i hi, fun u r => r, T.ap i 8 hi (by decide), ?_⟩
          refine ⟨p, _, _, rfl, rfl, hp, by show 8 < sizeLine; decide, rfl, fun b o e => ?_, upd_same⟩
          rw [upd_ne (ne_of_none e np)]
          exact s2 _ _ e
        rintro σ' H3 ⟨rfl, s3, hp3⟩
        refine ⟨_, rfl, .inl ⟨rfl, _, .of hp3⟩, p, _, .bl true, rfl, rfl, .of hp3, rfl, flat9 ⟨i, hi⟩, ?_⟩
        rw [cnt9 ⟨i, hi⟩]
        refine ⟨rfl, false, by simp, ?_⟩
        refine ⟨_, rfl, a, cs i, .ty "ValueError", .type "ValueError", true, rfl, hE.same s3, T.ec i hi, fun u r => r, T.kv i hi, _, rfl, ?_⟩
        refine ⟨by show 9 ≤ sizeLine; decide, fun pw H4 npw u4 kw _ => ?_⟩
        have lw : i < wd9.length := hi
        have ew : (wd9.map V.str)[i]? = some (V.str wd9[i]) := by rw [List.getElem?_map, List.getElem?_eq_getElem lw]; rfl
        refine ⟨_, rfl, _, rfl, .inl ⟨rfl, _, .of (u4 _ _ hp3)⟩, p, _, .bl true, i, .bl true, rfl, rfl, .of (u4 _ _ hp3), rfl, flat9 ⟨i, hi⟩, ix9 ⟨i, hi⟩, rfl, fun m z hm hz => no9 hm hi hz, ?_⟩
        refine ⟨pw, _, _, .str wd9[i], rfl, rfl, .of kw, at_of (j := i) rfl ew, ?_⟩
        exact q1 _ _ (List.getElem?_eq_getElem lw) (s3.trans u4)
end
end Rf
namespace Sg
open PySem PySem.Spec PyProof.Rows L2 Nw
/-! ### sorted(a set), sorted(a dict): whole numbers, any number of them; set(xs) of many -/
theorem cr_setLB {X : Cx} (hc : X.calm = true) : CallR X (.type "set") (fun xs H Q => ∃ (a : Addr) (ns : List Int), xs = [.ref a] ∧ SqL X.K H a (ns.map V.int) ∧ ns.length ≤ 2000 ∧ ∀ p H2 n, H p = none → Same H H2 → H2 p = some (SetO X.w p (fun j => decide (j ∈ ns)) n) → n ≤ ns.length → Q (.ref p) H2) := by
  intro pins s σ H xs us Q I r ask
  obtain ⟨a, ns, rfl, hs, hl, q⟩ := ask
  obtain ⟨u, rfl, ru⟩ := Vals.one r
  cases ru
  obtain ⟨its, ri, pl, _⟩ := I.list hs
  have hn : H s.heap.objs.size = none := I.hok.fresh (Nat.le_refl _)
  refine St.set_of_list ns (I.ok.hd hc) (PlainL.isList pl) (by rw [List.toList_toArray]; exact Vals.ints ri) (by unfold scanBound; omega) fun h' tk c R lc k => ?_
  exact ⟨.ref s.heap.objs.size, upd H s.heap.objs.size (SetO X.w s.heap.objs.size (fun j => decide (j ∈ ns)) c), I.laid (t' := tk) k (Nat.le_refl _) (setO_new R), rfl, q _ _ c hn (same_new hn) upd_same lc⟩
theorem cr_sortedSA {X : Cx} (hc : X.calm = true) : CallR X (.builtin "sorted") (fun vs H Q => ∃ (a : Addr) (S : Int → Bool) (n : Nat), vs = [V.ref a] ∧ H a = some (SetO X.w a S n) ∧ ∀ ns : List Int, ns.Pairwise (· < ·) → (∀ k : Int, k ∈ ns ↔ S k = true) → ns.length = n → New H (.lst (ns.map V.int)) Q) := by
  intro pins s σ H vs us Q I r ask
  obtain ⟨a, S, n, rfl, ha, q⟩ := ask
  have R := setO_get I ha
  rw [Vals.ref1 r]
  obtain ⟨o, es, ep, t, ho, hex, hd, g, nd, hm, hb, hf, hn, hr, hl⟩ := R
  refine Calls.call_function_entry kind_sorted plain_sorted entry_sorted (args_sorted1 _) ?_
  unfold Builtin.«sorted»
  refine wpAny_bind (m := checkCount "sorted" 1 1 _) (wpAny_pure (wpAny_bind (collect_set (A := X.A.in1) (I.ok.hd hc) ⟨o, ho, hex.1, hd⟩ hf hb hr hl fun s1 ws k1 hz g1 o1 pm => ?_)))
  have lw : ws.length = n := by
    rw [pm.length_eq, List.length_map, Array.length_toList]
    exact hn
  have lz : ws.length ≤ sizeLine := by
    rw [lw, ← hn]
    unfold scanBound at hb
    exact Nat.le_trans (by omega : es.size ≤ 4096) (by decide)
  have hI : IntsAre ws (ws.map Builtin.Re.reRawOf) := ints_of ws fun v hv => by
    obtain ⟨e, he, z⟩ := List.mem_map.mp (pm.mem_iff.mp hv)
    obtain ⟨k, tk, h1, _⟩ := g e he
    exact ⟨k, tk, z ▸ h1⟩
  have pk : (ws.map Builtin.Re.reRawOf).Perm (es.toList.map keyOf) := by
    have z := pm.map Builtin.Re.reRawOf
    rw [List.map_map] at z
    exact z
  refine wpAny_bind (wpAny_newList ?_ lz)
  have at1 : (s1.heap.push (seqObj "list" ws.toArray 0)).get? s1.heap.objs.size = some (seqObj "list" ws.toArray 0) := Heap.get?_push_size _ rfl
  refine wpAny_bind (wpAny_holding (wpAny_call_entry slot_list_sort ⟨_, at1, rfl⟩ entry_list_sort (SrtO.list_sort_ord SrtO.swo_int at1 lz (fun h2 => SrtO.ints_sortable hI h2) fun out c1 c2 => ⟨_, rfl, ?_⟩) (args_list_sort _)))
  obtain ⟨d1, d2, d3⟩ := SrtO.ints_out hI c1 c2
  obtain ⟨c, hcc⟩ := sortedHeap_at (vs := ws) (out := out.toArray) at1
  have pn : (out.map SrtO.iv).Perm (es.toList.map keyOf) := d2.trans pk
  have up : (out.map SrtO.iv).Pairwise (· < ·) := lt_of_le_nodup _ d3 (pn.nodup_iff.mpr nd)
  have ll : (out.map SrtO.iv).length = n := by
    rw [pn.length_eq, List.length_map, Array.length_toList]
    exact hn
  have hlen : ((out.map SrtO.iv).map V.int).length ≤ sizeLine := by
    rw [List.length_map, ll, ← lw]
    exact lz
  have gone : s.heap.get? s1.heap.objs.size = none := by
    cases e : s.heap.get? s1.heap.objs.size with
    | none => rfl
    | some ob => exact absurd (Heap.lt_size (k1 _ ob e)) (Nat.lt_irrefl _)
  have hn' : H s1.heap.objs.size = none := I.hok.gone gone
  have kept : ∀ b u, s.heap.get? b = some u → (sortedHeap (s1.heap.push (seqObj "list" ws.toArray 0)) s1.heap.objs.size ws out.toArray).get? b = some u := fun b u e => by
    have z := k1 b u e
    have hlt := Heap.lt_size z
    rw [sortedHeap_old (Nat.ne_of_lt hlt) (by rw [size_push']; exact Nat.lt_succ_of_lt hlt)]
    exact Heap.get?_push_of_some _ z
  have J : Inv X pins σ (upd H s1.heap.objs.size (.lst ((out.map SrtO.iv).map V.int))) { s with heap := sortedHeap (s1.heap.push (seqObj "list" ws.toArray 0)) s1.heap.objs.size ws out.toArray, gens := s1.gens, drawn := s1.drawn, toks := s1.toks } :=
    I.call (ch := []) (Un.laid kept hz hn') (I.hok.laid kept hz ⟨hlen, out, c, vals_of_ints d1, hcc⟩) (by rw [g1]; exact I.bare) (fun _ z => nomatch z)
  have e : ({ s1 with heap := sortedHeap (s1.heap.push (seqObj "list" ws.toArray 0)) s1.heap.objs.size ws out.toArray } : Shared) = { s with heap := sortedHeap (s1.heap.push (seqObj "list" ws.toArray 0)) s1.heap.objs.size ws out.toArray, gens := s1.gens, drawn := s1.drawn, toks := s1.toks } := by
    cases s1
    cases s
    cases o1
    rfl
  show wpAny _ _ _ _ _ ({ s1 with heap := sortedHeap (s1.heap.push (seqObj "list" ws.toArray 0)) s1.heap.objs.size ws out.toArray } : Shared)
  rw [e]
  exact wpAny_pure ⟨_, rfl, .ref _, _, J, rfl, (q _ up (fun k => by rw [pn.mem_iff, ← hm k]) ll).to _ hn'⟩
theorem cr_sortedDA {X : Cx} (hc : X.calm = true) : CallR X (.builtin "sorted") (fun xs H Q => ∃ (a : Addr) (kvs : List (Key × V)) (ks : List Int), xs = [.ref a] ∧ H a = some (.dK kvs) ∧ kvs.map (·.1) = ks.map Sum.inl ∧ ∀ ys : List Int, ys.Perm ks → ys.Pairwise (· ≤ ·) → New H (.lst (ys.map V.int)) Q) := by
  intro pins s σ H xs us Q I r ask
  obtain ⟨a, kvs, ks, rfl, ha, hks, q⟩ := ask
  rw [Vals.ref1 r]
  obtain ⟨z, lo, vs, rel, dd⟩ := dk_of I.hok ha
  obtain ⟨ep, hat⟩ := dd.dictAt
  have hkeys : vs.map (·.1) = ks.map Sum.inl := rel.keys.symm.trans hks
  have hl : vs.length = ks.length := by
    have e := congrArg List.length hkeys
    rw [List.length_map, List.length_map] at e
    exact e
  have lv : vs.length ≤ sizeLine := by
    rw [← rel.length]
    exact z
  refine Calls.call_function_entry kind_sorted plain_sorted entry_sorted (args_sorted1 _) ?_
  unfold Builtin.«sorted»
  refine wpAny_bind (m := checkCount "sorted" 1 1 _) (wpAny_pure (wpAny_bind (PySem.W.kdu_collect (A := X.A.in1) (PySem.W.kdl_dict (knd := mixKind X.prog X.w) (kvs := vs) (ep := ep) lo) (I.ok.hd hc) hat lv fun h' tk acc hk hacc => ?_)))
  have hal : acc.toList.length = ks.length := by rw [Array.length_toList, hacc.1, hl]
  have hS : IntsAre acc.toList ks := ints_each hal fun j v e => by
    obtain ⟨k, x, e1, e2⟩ := hacc.2 j v (by rw [← Array.getElem?_toList]; exact e)
    have e3 : (vs.map (·.1))[j]? = some k := by rw [List.getElem?_map, e1]; rfl
    rw [hkeys, List.getElem?_map] at e3
    cases e4 : ks[j]? with
    | none =>
      rw [e4] at e3
      cases e3
    | some y =>
      rw [e4] at e3
      obtain rfl : Sum.inl y = k := Option.some.inj e3
      rcases keyIs_shape (show keyIs (Sum.inl y) v = true from e2) with ⟨i, t, ek, ev⟩ | ⟨z, t, ek, ev⟩
      · cases ek
        exact ⟨y, t, rfl, ev⟩
      · cases ek
  have lz : acc.toList.length ≤ sizeLine := by
    rw [hal, ← hl]
    exact lv
  have I1 : Inv X pins σ H { s with heap := h', toks := tk } := I.kept hk
  refine wpAny_bind (wpAny_newList ?_ lz)
  have at1 : (h'.push (seqObj "list" acc.toList.toArray 0)).get? h'.objs.size = some (seqObj "list" acc.toList.toArray 0) := Heap.get?_push_size _ rfl
  show wpAny _ _ _ _ _ { s with heap := h'.push (seqObj "list" acc.toList.toArray 0), toks := tk }
  refine wpAny_bind (wpAny_holding (wpAny_call_entry slot_list_sort ⟨_, at1, rfl⟩ entry_list_sort (SrtO.list_sort_ord (s := { s with heap := h'.push (seqObj "list" acc.toList.toArray 0), toks := tk }) SrtO.swo_int at1 lz (fun h2 => SrtO.ints_sortable hS h2) fun out c1 c2 => ⟨_, rfl, ?_⟩) (args_list_sort _)))
  obtain ⟨d1, d2, d3⟩ := SrtO.ints_out hS c1 c2
  obtain ⟨c, hcc⟩ := sortedHeap_at (vs := acc.toList) (out := out.toArray) at1
  have hlen : ((out.map SrtO.iv).map V.int).length ≤ sizeLine := by
    rw [List.length_map, d2.length_eq, ← hal]
    exact lz
  refine wpAny_pure ⟨_, rfl, .ref h'.objs.size, upd H h'.objs.size (.lst ((out.map SrtO.iv).map V.int)), I1.laid (t' := tk) (fun b u e => ?_) (Nat.le_refl _) (show ObjOk X.prog X.w _ _ _ (.lst ((out.map SrtO.iv).map V.int)) from ⟨hlen, out, c, vals_of_ints d1, hcc⟩), rfl, (q _ d2 d3).to _ (I1.hok.fresh (Nat.le_refl _))⟩
  have hlt : b < h'.objs.size := Heap.lt_size e
  rw [sortedHeap_old (Nat.ne_of_lt hlt) (by rw [size_push']; exact Nat.lt_succ_of_lt hlt)]
  exact Heap.get?_push_of_some _ e
end Sg
namespace Un
open PySem PySem.Spec PyProof.Rows L2 GxR Nw Dr Kp Se Cl Ct Lr Lp Ll
/-! ### what a row stands on -/
theorem in_ints (k : Int) : ∀ cs : List Int, inV (.int k) (cs.map V.int) = true ↔ k ∈ cs
  | [] => by simp [inV]
  | c :: r => by
    have ih := in_ints k r
    unfold inV at ih ⊢
    rw [List.map_cons, List.any_cons, Bool.or_eq_true, ih, List.mem_cons]
    constructor
    · rintro (h | h)
      · exact .inl (of_decide_eq_true h).symm
      · exact .inr h
    · rintro (h | h)
      · exact .inl (decide_eq_true h.symm)
      · exact .inr h
theorem lt1 {n : Nat} (h : n + 64 < cLine) : n + 1 < cLine := by omega
theorem lad_parts {css cls : List (List Int)} {rows : List Rw} (h : Lad css rows cls) {n i j : Nat} {k : Int} (e : rows[n]? = some (.cut i j k)) : i < n ∧ j < n := by
  have l := (List.getElem?_eq_some_iff.mp e).1
  have l2 : n < cls.length := by rw [← h.1]; exact l
  have := (h.2 n _ _ e (List.getElem?_eq_getElem l2)).parts
  rw [List.length_take] at this
  omega
def Dn (rows : List Rw) : Prop := ∀ (n i j : Nat) (k : Int), rows[n]? = some (.cut i j k) → i < n ∧ j < n ∧ i ≠ j
theorem dn_lad {css cls : List (List Int)} {rows : List Rw} (h : Lad css rows cls) (ib : ∀ c ∈ css, IsCl c) : Dn rows := fun n i j k e => by
  have p := lad_parts h e
  refine ⟨p.1, p.2, fun z => ?_⟩
  subst z
  have l := (List.getElem?_eq_some_iff.mp e).1
  have l2 : n < cls.length := by rw [← h.1]; exact l
  obtain ⟨x, y, h1, h2, h3⟩ := h.2 n _ _ e (List.getElem?_eq_getElem l2)
  cases h1.symm.trans h2
  have ic := h.isCl ib x (List.mem_of_mem_take (List.mem_of_getElem? h1))
  exact ic.opp k h3.2.1 h3.2.2.1
inductive Und (rows : List Rw) (last : Nat) : Nat → Prop
  | self : Und rows last last
  | l {n i j : Nat} {k : Int} : Und rows last n → rows[n]? = some (.cut i j k) → Und rows last i
  | r {n i j : Nat} {k : Int} : Und rows last n → rows[n]? = some (.cut i j k) → Und rows last j
variable {rows : List Rw} {last : Nat}
theorem Und.le (d : Dn rows) {x : Nat} (h : Und rows last x) : x ≤ last := by
  induction h with
  | self => exact Nat.le_refl _
  | l _ e ih => have := d _ _ _ _ e; omega
  | r _ e ih => have := d _ _ _ _ e; omega
theorem Und.closed {S : Nat → Prop} (h0 : S last) (hc : ∀ n i j k, S n → rows[n]? = some (.cut i j k) → S i ∧ S j) {x : Nat} (h : Und rows last x) : S x := by
  induction h with
  | self => exact h0
  | l _ e ih => exact (hc _ _ _ _ ih e).1
  | r _ e ih => exact (hc _ _ _ _ ih e).2
theorem Und.trans {a b x : Nat} (h : Und rows a b) (g : Und rows b x) : Und rows a x := by
  induction g with
  | self => exact h
  | l _ e ih => exact .l ih e
  | r _ e ih => exact .r ih e
theorem und_book {n b x : Nat} (e : rows[n]? = some (.book b)) (h : Und rows n x) : x = n := by
  refine Und.closed (S := fun x => x = n) rfl (fun m i j k z e' => ?_) h
  rw [z, e] at e'
  cases e'
theorem und_cut {n i j x : Nat} {k : Int} (e : rows[n]? = some (.cut i j k)) : Und rows n x ↔ x = n ∨ Und rows i x ∨ Und rows j x := by
  constructor
  · refine Und.closed (S := fun x => x = n ∨ Und rows i x ∨ Und rows j x) (.inl rfl) fun m a b k' z e' => ?_
    rcases z with z | z | z
    · rw [z, e] at e'
      cases e'
      exact ⟨.inr (.inl .self), .inr (.inr .self)⟩
    · exact ⟨.inr (.inl (.l z e')), .inr (.inl (.r z e'))⟩
    · exact ⟨.inr (.inr (.l z e')), .inr (.inr (.r z e'))⟩
  · rintro (z | z | z)
    · exact z ▸ .self
    · exact Und.trans (.l .self e) z
    · exact Und.trans (.r .self e) z
/-- the numbers of a row and all on which it stands -/
structure UL (rows : List Rw) (last : Nat) (ns : List Int) : Prop where
  up : ns.Pairwise (· < ·)
  me : ∀ x : Int, x ∈ ns ↔ ∃ n : Nat, x = n ∧ Und rows last n
theorem UL.one {ns ms : List Int} (a : UL rows last ns) (b : UL rows last ms) : ns = ms := up_unique a.up b.up fun j => (a.me j).trans (b.me j).symm
/-- the book's numbers on which a row stands -/
structure BN (rows : List Rw) (last : Nat) (ns : List Int) : Prop where
  up : ns.Pairwise (· < ·)
  me : ∀ x : Int, x ∈ ns ↔ ∃ n b : Nat, x = b ∧ Und rows last n ∧ rows[n]? = some (.book b)
theorem BN.one {ns ms : List Int} (a : BN rows last ns) (b : BN rows last ms) : ns = ms := up_unique a.up b.up fun j => (a.me j).trans (b.me j).symm
theorem up_nodup : ∀ {ns : List Int}, ns.Pairwise (· < ·) → ns.Nodup := fun h => h.imp fun z => Int.ne_of_lt z
theorem up_of : ∀ {ns : List Int}, ns.Pairwise (· ≤ ·) → ns.Nodup → ns.Pairwise (· < ·)
  | [], _, _ => .nil
  | x :: t, h, n => by
    rw [List.pairwise_cons] at h ⊢
    rw [List.nodup_cons] at n
    exact ⟨fun y hy => by
      have := h.1 y hy
      have : x ≠ y := fun z => n.1 (z ▸ hy)
      omega, up_of h.2 n.2⟩
/-- a list of numbers below a bound, each once -/
theorem nd_len {ns : List Int} {m : Nat} (n : ns.Nodup) (h : ∀ x ∈ ns, 0 ≤ x ∧ x < m) : ns.length ≤ m := by
  have := Lr.len_sub ns ((List.range m).map fun i : Nat => (i : Int)) n fun x hx => by
    obtain ⟨h0, h1⟩ := h x hx
    exact List.mem_map.mpr ⟨x.toNat, List.mem_range.mpr (by omega), by omega⟩
  rwa [List.length_map, List.length_range] at this
theorem UL.len (d : Dn rows) {ns : List Int} (u : UL rows last ns) : ns.length ≤ last + 1 := nd_len (up_nodup u.up) fun x hx => by
  obtain ⟨n, rfl, h⟩ := (u.me x).mp hx
  have := h.le d
  omega
/-! ### a dict's keys -/
theorem keys_in {kvs : List (Key × V)} {ks : List Int} (h : kvs.map (·.1) = ks.map Sum.inl) (n : Int) : (valV kvs (Sum.inl n)).isSome = true ↔ n ∈ ks := by
  rw [← valV_any, List.any_eq_true]
  constructor
  · rintro ⟨kv, hm, hk⟩
    have hk := of_decide_eq_true hk
    have : kv.1 ∈ kvs.map (·.1) := List.mem_map.mpr ⟨kv, hm, rfl⟩
    rw [h, hk] at this
    obtain ⟨m, hm', e⟩ := List.mem_map.mp this
    cases e
    exact hm'
  · intro hn
    have : (Sum.inl n : Key) ∈ kvs.map (·.1) := by
      rw [h]
      exact List.mem_map.mpr ⟨n, hn, rfl⟩
    obtain ⟨kv, hm, e⟩ := List.mem_map.mp this
    exact ⟨kv, hm, decide_eq_true e⟩
theorem keys_put {kvs : List (Key × V)} {ks : List Int} (h : kvs.map (·.1) = ks.map Sum.inl) (nd : ks.Nodup) (n : Int) (v : V) : ∃ ks' : List Int, (putK kvs (Sum.inl n) v).map (·.1) = ks'.map Sum.inl ∧ ks'.Nodup ∧ ∀ x, x ∈ ks' ↔ x ∈ ks ∨ x = n := by
  have ki := keys_in h n
  rw [← valV_any] at ki
  unfold putK
  by_cases z : (kvs.any fun kv => decide (kv.1 = (Sum.inl n : Key))) = true
  · rw [if_pos z]
    refine ⟨ks, ?_, nd, fun x => ⟨.inl, fun y => y.elim id fun e => e ▸ ki.mp z⟩⟩
    rw [List.map_map, ← h]
    refine List.map_congr_left fun kv _ => ?_
    show (if kv.1 = Sum.inl n then (kv.1, v) else kv).1 = kv.1
    split <;> rfl
  · rw [if_neg z]
    refine ⟨ks ++ [n], by rw [List.map_append, List.map_append, h]; rfl, ?_, fun x => by rw [List.mem_append, List.mem_singleton]⟩
    rw [List.nodup_append]
    refine ⟨nd, by simp, fun a ha b hb e => ?_⟩
    rw [List.mem_singleton.mp hb] at e
    exact z (ki.mpr (e ▸ ha))
structure Zn (mg : Str → Option Value) : Prop where
  z_len : mg "len" = none
  z_range : mg "range" = none
  z_reversed : mg "reversed" = none
  z_sorted : mg "sorted" = none
  z_set : mg "set" = none
section
variable {P : Program} {w : World} {K : PySem.W.Frag} {mg : Str → Option Value} {base : Heap}
abbrev sRun : Stmt := topS 61
theorem scRun : FnScope ["ladder", "last", "found", "number", "row"] ["ladder", "last"] (defScope sRun) := ⟨rfl, rfl, rfl, by decide +kernel, rfl, by decide +kernel, by decide +kernel⟩
def spRun : Sp := fun vs H Q _ => ∃ (L : Addr) (rows : List Rw) (last : Nat), vs = [.ref L, .int (last : Nat)] ∧ RwL H L rows ∧ Dn rows ∧ last < rows.length ∧ rows.length ≤ 500 ∧ ∀ ns p H', UL rows last ns → H p = none → Same H H' → H' p = some (.lst (ns.map V.int)) → Q (.ref p) H'
/-- the keys found so far, behind the rows from m on -/
structure Fn (rows : List Rw) (last m : Nat) (ks : List Int) : Prop where
  nd : ks.Nodup
  la : (last : Int) ∈ ks
  so : ∀ x ∈ ks, ∃ n : Nat, x = n ∧ Und rows last n
  cl : ∀ (n i j : Nat) (k : Int), m ≤ n → (n : Int) ∈ ks → rows[n]? = some (.cut i j k) → (i : Int) ∈ ks ∧ (j : Int) ∈ ks
theorem Fn.len (d : Dn rows) {m : Nat} {ks : List Int} (f : Fn rows last m ks) : ks.length ≤ last + 1 := nd_len f.nd fun x hx => by
  obtain ⟨n, rfl, h⟩ := f.so x hx
  have := h.le d
  omega
theorem Fn.ul {ks ns : List Int} (f : Fn rows last 0 ks) (p : ns.Perm ks) (h : ns.Pairwise (· ≤ ·)) : UL rows last ns := ⟨up_of h (p.nodup_iff.mpr f.nd), fun x => by
  rw [p.mem_iff]
  refine ⟨f.so x, fun ⟨n, e, u⟩ => ?_⟩
  rw [e]
  exact Und.closed (S := fun n => (n : Int) ∈ ks) f.la (fun n i j k s e => f.cl n i j k (Nat.zero_le _) s e) u⟩
theorem ok_run {f : Addr} {fd : FuncData} {k : Nat} (F : Fun K "rows_under" "rows_under" sRun f fd) (T : Zn mg) : FnOk P w K mg base CX0 (k + 1) f fd ["ladder", "last"] spRun := by
  refine F.ok scRun (fun vs H Q E h => ?_) (fun cdv A outer s H vs Q E hr h => ?_)
  · obtain ⟨L, rows, last, rfl, _⟩ := h
    rfl
  · obtain ⟨L, rows, last, rfl, ⟨rvs, hL, aR⟩, dn, ll, l5, q⟩ := h
    refine ⟨_, (Evl.pss_cut (ps_set (i := 2) scRun.nd rfl (.inl rfl) (pe_disp (pps_cons (pv 1) pe_bl pps_nil) rfl rfl (by simp) (by decide)))
      (Evl.pss_cut (ps_for PassesOwn.never rfl (pi_revR (by rfl) T.z_reversed (prg_1 (by rfl) T.z_range (pe_op op_add (pv 1) pe_int))) (pg_name (i := 3) scRun.nd rfl (.inl rfl)) (Evl.pss_cut (ps_set (i := 4) scRun.nd rfl (.inl rfl) (pe_ix ix_list (pv 0) (pv 3) (fun _ _ => rfl)))
      (pss_one (ps_if (PW.pt (pw_and (pt_cmp (pc_din (lt1 hr.units) (pv 3) (pv 2))) (pw_and1 (pt_cmpR op_eq (pe_ix ix_tup (pv 4) pe_int (fun _ _ => rfl)) pe_str (nomark _))))) (pss_cons (ps_dput (lt1 hr.units) (pv 2) (pe_ix ix_tup (pv 4) pe_int (fun _ _ => rfl)) pe_bl rfl)
      (pss_one (ps_dput (lt1 hr.units) (pv 2) (pe_ix ix_tup (pv 4) pe_int (fun _ _ => rfl)) pe_bl rfl))) pss_nil))))
      (pss_one (ps_ret (pe_callB (Sg.cr_sortedDA rfl) (by rfl) T.z_sorted (by decide +kernel) (pa_cons (pv 2) pa_nil)))))), ?_⟩
    have lr := aR.1
    refine Evl.q_cut (M := fun σ' H' => ∃ D : Addr, σ' = [some (.ref L), some (.int (last : Nat)), some (.ref D), none, none] ∧ H D = none ∧ Same H H' ∧ H' D = some (.dK [(Sum.inl (last : Int), .bl true)])) ?_ ?_
    · refine fun D nD => ⟨_, rfl, upd_same, [(Sum.inl (last : Int), .bl true)], rfl, by show 1 ≤ 15; decide, D, rfl, nD, fun b o e => ?_, ?_⟩
      · rw [upd_ne (ne_of_none e nD), upd_ne (ne_of_none e nD)]
        exact e
      · rw [upd_same]
        rfl
    rintro σ' H1 ⟨D, rfl, nD, s1, hD⟩
    have nLD : L ≠ D := ne_of_none hL nD
    refine Evl.q_cut (M := fun σ' H' => ∃ (y3 y4 : Option V) (kvs : List (Key × V)) (ks : List Int), σ' = [some (.ref L), some (.int (last : Nat)), some (.ref D), y3, y4] ∧ Same H H' ∧ H' D = some (.dK kvs) ∧ kvs.map (·.1) = ks.map Sum.inl ∧ Fn rows last 0 ks) ?_ ?_
    · refine ⟨_, rfl, _, _, rfl, rfl, _, rfl, by omega, by omega, by omega, by omega, ?_⟩
      have en : ((((last : Nat) : Int) + 1) - 0).toNat = last + 1 := by omega
      rw [en]
      refine for_rangeC (n := last + 1) (Pv := fun i σ H' => ∃ (y3 y4 : Option V) (kvs : List (Key × V)) (ks : List Int), σ = [some (.ref L), some (.int (last : Nat)), some (.ref D), y3, y4] ∧ Same H H' ∧ H' D = some (.dK kvs) ∧ kvs.map (·.1) = ks.map Sum.inl ∧ Fn rows last (last + 1 - i) ks) ?_ ?_ ?_
      · refine ⟨none, none, _, [(last : Int)], rfl, s1, hD, rfl, by simp, List.mem_singleton_self _, fun x hx => ⟨last, List.mem_singleton.mp hx, .self⟩, fun n i j k hn hm e => ?_⟩
        have := List.mem_singleton.mp hm
        omega
      · rintro i σ H2 hi ⟨y3, y4, kvs, ks, rfl, s2, hD2, hk, fn⟩
        obtain ⟨n, hn⟩ : ∃ n, last = i + n := ⟨last - i, by omega⟩
        have e1 : last + 1 - i = n + 1 := by omega
        have e2 : last + 1 - (i + 1) = n := by omega
        have ei : (0 : Int) + ((last + 1 : Nat) : Int) - 1 + (i : Nat) * (-1) = (n : Nat) := by omega
        rw [e1] at fn
        rw [ei, e2]
        have ln : n < rows.length := by omega
        obtain ⟨rv, hrv, a, rfl, ha⟩ := aR.atR (List.getElem?_eq_getElem ln)
        generalize hg : rows[n] = r at ha
        have her : rows[n]? = some r := by rw [← hg]; exact List.getElem?_eq_getElem ln
        have ha2 := s2 _ _ ha
        refine Evl.q_cut (M := fun σ' H' => σ' = [some (.ref L), some (.int (last : Nat)), some (.ref D), some (.int (n : Nat)), some (.ref a)] ∧ H' = H2) ?_ ?_
        · exact ⟨_, rfl, _, rfl, L, _, (n : Nat), _, rfl, rfl, .of (s2 _ _ hL), at_of (j := n) rfl hrv, rfl, rfl⟩
        rintro σ' H' ⟨rfl, rfl⟩
        refine ⟨_, rfl, _, rfl, D, _, rfl, DGet.k (k := Sum.inl (n : Int)) hD2, _, rfl, ?_⟩
        have nDa : a ≠ D := ne_of_none ha nD
        have lk : kvs.length ≤ last + 1 := by
          have e := congrArg List.length hk
          rw [List.length_map, List.length_map] at e
          rw [e]
          exact fn.len dn
        refine ite2 (fun c1 => ?_) (fun c1 => ?_)
        · have inn : (n : Int) ∈ ks := (keys_in hk n).mp c1
          cases r with
          | book b =>
            refine ⟨_, rfl, a, _, 0, .str "book", rfl, rfl, .of ha2, rfl, rfl, false, by simp; decide, ?_⟩
            refine ⟨_, _, kvs, ks, rfl, s2, hD2, hk, fn.nd, fn.la, fn.so, fun m i' j' k' hm hi' e => ?_⟩
            by_cases z : m = n
            · rw [z, her] at e
              cases e
            · exact fn.cl m i' j' k' (by omega) hi' e
          | cut i' j' k' =>
            refine ⟨_, rfl, a, _, 0, .str "cut", rfl, rfl, .of ha2, rfl, rfl, true, by simp, ?_⟩
            obtain ⟨ks1, hk1, nd1, me1⟩ := keys_put hk fn.nd (i' : Int) (.bl true)
            obtain ⟨ks2, hk2, nd2, me2⟩ := keys_put hk1 nd1 (j' : Int) (.bl true)
            obtain ⟨u, e0, hu⟩ := fn.so _ inn
            obtain rfl : n = u := by omega
            refine ⟨_, rfl, _, rfl, a, _, 1, .int (i' : Nat), rfl, rfl, .of ha2, rfl, D, _, rfl, DPut.k (k := Sum.inl (i' : Int)) hD2 (small1000 (by omega)), ?_⟩
            have l1 := length_putK kvs (Sum.inl (i' : Int)) (.bl true)
            refine ⟨_, rfl, _, rfl, a, _, 2, .int (j' : Nat), rfl, rfl, .of (by rw [upd_ne nDa]; exact ha2), rfl, D, _, rfl, DPut.k (k := Sum.inl (j' : Int)) upd_same (small1000 (by omega)), ?_⟩
            have mem : ∀ x : Int, x ∈ ks2 ↔ x ∈ ks ∨ x = i' ∨ x = j' := fun x => by rw [me2, me1, or_assoc]
            refine ⟨_, _, _, ks2, rfl, fun b o e => ?_, upd_same, hk2, nd2, (mem _).mpr (.inl fn.la), fun x hx => ?_, fun m i2 j2 k2 hm hi2 e => ?_⟩
            · rw [upd_ne (ne_of_none e nD), upd_ne (ne_of_none e nD)]
              exact s2 _ _ e
            · rcases (mem x).mp hx with z | z | z
              · exact fn.so x z
              · exact ⟨i', z, .l hu her⟩
              · exact ⟨j', z, .r hu her⟩
            · by_cases z : m = n
              · rw [z, her] at e
                cases e
                exact ⟨(mem _).mpr (.inr (.inl rfl)), (mem _).mpr (.inr (.inr rfl))⟩
              · have lt := dn n i' j' k' her
                rcases (mem m).mp hi2 with y | y | y
                · obtain ⟨h1, h2⟩ := fn.cl m i2 j2 k2 (by omega) y e
                  exact ⟨(mem _).mpr (.inl h1), (mem _).mpr (.inl h2)⟩
                · omega
                · omega
        · have nin : (n : Int) ∉ ks := fun z => c1 ((keys_in hk n).mpr z)
          refine ⟨_, _, kvs, ks, rfl, s2, hD2, hk, fn.nd, fn.la, fn.so, fun m i' j' k' hm hi' e => ?_⟩
          by_cases z : m = n
          · rw [z] at hi'
            exact absurd hi' nin
          · exact fn.cl m i' j' k' (by omega) hi' e
      · rintro σ H2 ⟨y3, y4, kvs, ks, rfl, s2, hD2, hk, fn⟩
        rw [Nat.sub_self] at fn
        exact ⟨y3, y4, kvs, ks, rfl, s2, hD2, hk, fn⟩
    rintro σ' H2 ⟨y3, y4, kvs, ks, rfl, s2, hD2, hk, fn⟩
    exact ⟨_, rfl, D, kvs, ks, rfl, hD2, hk, fun ys pm le p H3 np s3 hp _ => q ys p H3 (fn.ul pm le) (s2.free np) (s2.trans s3) hp⟩
end
end Un
namespace Ub
open PySem PySem.Spec PyProof.Rows L2 GxR Nw Dr Kp Se Cl Ct Lr Lp Ll Un
section
variable {P : Program} {w : World} {K : PySem.W.Frag} {mg : Str → Option Value} {base : Heap}
abbrev sNed : Stmt := topS 64
theorem scNed : FnScope ["book", "ladder"] ["book", "ladder"] (defScope sNed) := ⟨rfl, rfl, rfl, by decide +kernel, rfl, by decide +kernel, by decide +kernel⟩
def spNed (Po : Addr) : Sp := fun vs H Q _ => ∃ (b : V) (L : Addr) (css cls : List (List Int)) (rows : List Rw), vs = [b, .ref L] ∧ BL H b L css rows cls ∧ 0 < rows.length ∧ TabG H Po ∧ ∀ ns p H', UL rows (rows.length - 1) ns → Frs H p → Ke Nof H H' → H' p = some (.lst (ns.map V.int)) → Q (.ref p) H'
theorem ok_ned {f fK fU Po : Addr} {fd fdK fdU : FuncData} {k : Nat} (F : Fun K "needed" "needed" sNed f fd) (T : Zn mg) (FK : Fun K "check_ladder" "check_ladder" sChk fK fdK) (bK : Binds K fdK ["book", "ladder"] []) (gK : mg "check_ladder" = some (.ref fK)) (GK : FnOk P w K mg base CX0 8 fK fdK ["book", "ladder"] (spChk Po))
    (FU : Fun K "rows_under" "rows_under" sRun fU fdU) (bU : Binds K fdU ["ladder", "last"] []) (gU : mg "rows_under" = some (.ref fU)) (GU : FnOk P w K mg base CX0 1 fU fdU ["ladder", "last"] spRun) :
    FnOk P w K mg base CX0 (k + 9) f fd ["book", "ladder"] (spNed Po) := by
  refine F.ok scNed (fun vs H Q E h => ?_) (fun cdv A outer s H vs Q E hr h => ?_)
  · obtain ⟨b, L, css, cls, rows, rfl, _⟩ := h
    rfl
  · obtain ⟨b, L, css, cls, rows, rfl, x, l0, tg, q⟩ := h
    have hr8 : Room 8 _ := hr.mono (by omega)
    have hr1 : Room 1 _ := hr.mono (by omega)
    refine ⟨_, (Evl.pss_cut (ps_expr (pe_call GK hr8 (by rfl) gK FK.kp bK .nil pass0 (pa_cons (pv 0) (pa_cons (pv 1) pa_nil))))
      (pss_one (ps_ret (pe_call GU hr1 (by rfl) gU FU.kp bU .nil pass0 (pa_cons (pv 1) (pa_cons (pe_op op_sub (pe_callB call_len_seq (by rfl) T.z_len (by decide +kernel) (pa_cons (pv 1) pa_nil)) pe_int) pa_nil)))))), ?_⟩
    refine Evl.q_cut (M := fun σ' H' => σ' = [some b, some (.ref L)] ∧ Ke Nof H H') ?_ ?_
    · exact ⟨_, rfl, _, rfl, b, L, css, cls, rows, rfl, x, l0, tg, fun H1 k1 => ⟨rfl, k1⟩⟩
    rintro σ' H1 ⟨rfl, k1⟩
    have x1 := x.ke k1 fun z => z
    obtain ⟨rvs, hL, aR⟩ := id x1.rw
    have ll := aR.1
    have le := x.le
    refine ⟨_, rfl, _, rfl, L, _, rfl, .inl (.of hL), _, _, rfl, rfl, L, rows, rows.length - 1, ?_, x1.rw, dn_lad x.ld x.ib, by omega, by omega, fun ns p H2 ul np s2 hp => q ns p H2 ul (.ke0 k1 (.of np)) (k1.trans (.same s2)) hp⟩
    show [V.ref L, V.int (((rvs.length : Nat) : Int) - 1)] = _
    rw [show ((rvs.length : Nat) : Int) - 1 = ((rows.length - 1 : Nat) : Int) by omega]
end
end Ub
namespace Um
open PySem PySem.Spec PyProof.Rows L2 GxR Nw Dr Kp Se Cl Ct Lr Lp Ll Un
/-! ### a ladder trimmed -/
/-- a row with the numbers of its rows turned into their places among ns -/
def Mv (ns : List Int) : Rw → Rw → Prop
  | .book b, r => r = .book b
  | .cut i j k, r => ∃ p q : Nat, ns[p]? = some (i : Int) ∧ ns[q]? = some (j : Int) ∧ r = .cut p q k
theorem nd_at {ns : List Int} (n : ns.Nodup) {p q : Nat} {x : Int} (a : ns[p]? = some x) (b : ns[q]? = some x) : p = q :=
  (List.getElem?_inj (List.getElem?_eq_some_iff.mp a).1 n).mp (a.trans b.symm)
theorem Mv.one {ns : List Int} (n : ns.Nodup) {r a b : Rw} (h : Mv ns r a) (g : Mv ns r b) : a = b := by
  cases r with
  | book m => exact Eq.trans h (Eq.symm g)
  | cut i j k =>
    obtain ⟨p, q, h1, h2, rfl⟩ := h
    obtain ⟨p', q', g1, g2, rfl⟩ := g
    rw [nd_at n h1 g1, nd_at n h2 g2]
/-- the rows at ns, the first of them, told anew -/
def Tr (rows : List Rw) (ns : List Int) (rs : List Rw) : Prop := ∀ (t : Nat) (r' : Rw), rs[t]? = some r' → ∃ (n : Nat) (r : Rw), ns[t]? = some (n : Int) ∧ rows[n]? = some r ∧ Mv ns r r'
theorem Tr.snoc {rows rs : List Rw} {ns : List Int} {n : Nat} {r r' : Rw} (h : Tr rows ns rs) (e : ns[rs.length]? = some (n : Int)) (er : rows[n]? = some r) (m : Mv ns r r') : Tr rows ns (rs ++ [r']) := fun t x hx => by
  by_cases lt : t < rs.length
  · rw [List.getElem?_append_left lt] at hx
    exact h t x hx
  · have := (List.getElem?_eq_some_iff.mp hx).1
    rw [List.length_append, List.length_singleton] at this
    obtain rfl : t = rs.length := by omega
    rw [List.getElem?_append_right (Nat.le_refl _), Nat.sub_self] at hx
    cases hx
    exact ⟨n, r, e, er, m⟩
theorem Tr.one {rows rs rs' : List Rw} {ns : List Int} (n : ns.Nodup) (h : Tr rows ns rs) (g : Tr rows ns rs') (l : rs.length = rs'.length) : rs = rs' := by
  refine List.ext_getElem? fun t => ?_
  by_cases lt : t < rs.length
  · have lt' : t < rs'.length := by omega
    obtain ⟨m, r, e1, e2, e3⟩ := h t _ (List.getElem?_eq_getElem lt)
    obtain ⟨m', r', e1', e2', e3'⟩ := g t _ (List.getElem?_eq_getElem lt')
    rw [e1] at e1'
    have e := Option.some.inj e1'
    obtain rfl : m = m' := by omega
    rw [e2] at e2'
    cases e2'
    rw [List.getElem?_eq_getElem lt, List.getElem?_eq_getElem lt', e3.one n e3']
  · rw [List.getElem?_eq_none (by omega), List.getElem?_eq_none (by omega)]
theorem up_at {ns : List Int} (u : ns.Pairwise (· < ·)) {p q : Nat} {x y : Int} (a : ns[p]? = some x) (b : ns[q]? = some y) (h : x < y) : p < q := by
  obtain ⟨lp, ep⟩ := List.getElem?_eq_some_iff.mp a
  obtain ⟨lq, eq⟩ := List.getElem?_eq_some_iff.mp b
  rcases Nat.lt_trichotomy p q with z | z | z
  · exact z
  · subst z
    omega
  · have := List.pairwise_iff_getElem.mp u q p lq lp z
    omega
theorem up_at' {ns : List Int} (u : ns.Pairwise (· < ·)) {p q : Nat} {x y : Int} (a : ns[p]? = some x) (b : ns[q]? = some y) (h : p < q) : x < y := by
  obtain ⟨lp, ep⟩ := List.getElem?_eq_some_iff.mp a
  obtain ⟨lq, eq⟩ := List.getElem?_eq_some_iff.mp b
  have := List.pairwise_iff_getElem.mp u p q lp lq h
  omega
/-- the claims at ns -/
def clsAt (cls : List (List Int)) (ns : List Int) : List (List Int) := ns.map fun x => cls.getD x.toNat []
theorem clsAt_at {cls : List (List Int)} {ns : List Int} {t n : Nat} (e : ns[t]? = some (n : Int)) (l : n < cls.length) : (clsAt cls ns)[t]? = cls[n]? := by
  unfold clsAt
  rw [List.getElem?_map, e]
  show some (cls.getD ((n : Int)).toNat []) = _
  rw [Int.toNat_natCast, List.getD_eq_getElem?_getD, List.getElem?_eq_getElem l]
  rfl
theorem take_at {α : Type} {l : List α} {n t : Nat} (h : t < n) : (l.take n)[t]? = l[t]? := by
  rw [List.getElem?_take, if_pos h]
section
variable {rows rs : List Rw} {last : Nat} {ns : List Int} {css cls : List (List Int)}
theorem lad_trim (ld : Lad css rows cls) (ib : ∀ c ∈ css, IsCl c) (u : UL rows last ns) (t : Tr rows ns rs) (l : rs.length = ns.length) : Lad css rs (clsAt cls ns) := by
  have dn := dn_lad ld ib
  refine ⟨by rw [l]; exact (List.length_map ..).symm, fun k r' c hr hc => ?_⟩
  obtain ⟨n, r, e1, e2, m⟩ := t k r' hr
  have ln := (List.getElem?_eq_some_iff.mp e2).1
  have lc : n < cls.length := by rw [← ld.1]; exact ln
  rw [clsAt_at e1 lc] at hc
  have rc := ld.2 n r c e2 hc
  cases r with
  | book b =>
    obtain rfl : r' = .book b := m
    exact rc
  | cut i j k' =>
    obtain ⟨p, q, hp, hq, rfl⟩ := m
    obtain ⟨li, lj, _⟩ := dn n i j k' e2
    have pk : p < k := up_at u.up hp e1 (by omega)
    have qk : q < k := up_at u.up hq e1 (by omega)
    obtain ⟨x, y, h1, h2, h3⟩ := rc
    rw [take_at li] at h1
    rw [take_at lj] at h2
    exact ⟨x, y, by rw [take_at pk, clsAt_at hp (by omega)]; exact h1, by rw [take_at qk, clsAt_at hq (by omega)]; exact h2, h3⟩
def iota (n : Nat) : List Int := (List.range n).map fun i : Nat => (i : Int)
theorem iota_at {n t : Nat} : (iota n)[t]? = if t < n then some (t : Int) else none := by
  unfold iota
  rw [List.getElem?_map]
  by_cases h : t < n
  · rw [List.getElem?_eq_getElem (by rw [List.length_range]; exact h), if_pos h, List.getElem_range]
    rfl
  · rw [List.getElem?_eq_none (by rw [List.length_range]; omega), if_neg h]
    rfl
theorem iota_len (n : Nat) : (iota n).length = n := by
  unfold iota
  rw [List.length_map, List.length_range]
theorem iota_up (n : Nat) : (iota n).Pairwise (· < ·) := by
  unfold iota
  rw [List.pairwise_map]
  exact List.pairwise_lt_range.imp fun h => by omega
/-- all rows of a trimmed ladder are needed -/
theorem ul_trim (dn : Dn rows) (ll : last < rows.length) (u : UL rows last ns) (t : Tr rows ns rs) (l : rs.length = ns.length) : 0 < rs.length ∧ UL rs (rs.length - 1) (iota rs.length) := by
  obtain ⟨z, hz⟩ := List.getElem?_of_mem ((u.me (last : Int)).mpr ⟨last, rfl, .self⟩)
  have lz := (List.getElem?_eq_some_iff.mp hz).1
  have ez : z = rs.length - 1 := by
    rcases Nat.lt_or_ge z (rs.length - 1) with y | y
    · have hy := List.getElem?_eq_getElem (show rs.length - 1 < ns.length by omega)
      have := up_at' u.up hz hy y
      obtain ⟨m, em, um⟩ := (u.me _).mp (List.mem_of_getElem? hy)
      have := um.le dn
      omega
    · omega
  have all : ∀ n, Und rows last n → ∃ k : Nat, ns[k]? = some (n : Int) ∧ Und rs (rs.length - 1) k := fun n un => by
    have step : ∀ {m i j : Nat} {k' : Int} {k : Nat}, rows[m]? = some (.cut i j k') → ns[k]? = some (m : Int) → ∃ p q : Nat, ns[p]? = some (i : Int) ∧ ns[q]? = some (j : Int) ∧ rs[k]? = some (.cut p q k') := fun {m i j k' k} e ek => by
      have lk : k < rs.length := by
        have := (List.getElem?_eq_some_iff.mp ek).1
        omega
      obtain ⟨m', r, e1, e2, mv⟩ := t k _ (List.getElem?_eq_getElem lk)
      rw [ek] at e1
      have := Option.some.inj e1
      obtain rfl : m = m' := by omega
      rw [e] at e2
      cases e2
      obtain ⟨p, q, hp, hq, er⟩ := mv
      exact ⟨p, q, hp, hq, by rw [List.getElem?_eq_getElem lk, er]⟩
    induction un with
    | self => exact ⟨z, hz, ez ▸ .self⟩
    | l _ e ih =>
      obtain ⟨k, ek, uk⟩ := ih
      obtain ⟨p, q, hp, hq, er⟩ := step e ek
      exact ⟨p, hp, .l uk er⟩
    | r _ e ih =>
      obtain ⟨k, ek, uk⟩ := ih
      obtain ⟨p, q, hp, hq, er⟩ := step e ek
      exact ⟨q, hq, .r uk er⟩
  have dr : Dn rs := fun k i j k' e => by
    obtain ⟨n, r, e1, e2, m⟩ := t k _ e
    cases r with
    | book b =>
      have m : Rw.cut i j k' = Rw.book b := m
      cases m
    | cut i0 j0 k0 =>
      obtain ⟨p, q, hp, hq, er⟩ := m
      cases er
      obtain ⟨l1, l2, l3⟩ := dn n i0 j0 k' e2
      refine ⟨up_at u.up hp e1 (by omega), up_at u.up hq e1 (by omega), fun y => ?_⟩
      subst y
      rw [hp] at hq
      have := Option.some.inj hq
      omega
  refine ⟨by omega, iota_up _, fun x => ?_⟩
  constructor
  · intro hx
    obtain ⟨k, hk⟩ := List.getElem?_of_mem hx
    rw [iota_at] at hk
    split at hk
    · rename_i lk
      cases hk
      refine ⟨k, rfl, ?_⟩
      have hk := List.getElem?_eq_getElem (show k < ns.length by omega)
      obtain ⟨n, en, un⟩ := (u.me _).mp (List.mem_of_getElem? hk)
      rw [en] at hk
      obtain ⟨k2, e2, u2⟩ := all n un
      rw [nd_at (up_nodup u.up) hk e2]
      exact u2
    · cases hk
  · rintro ⟨k, rfl, uk⟩
    have := uk.le dr
    exact List.mem_of_getElem? (i := k) (by rw [iota_at, if_pos (by omega)])
/-- and a trimmed ladder stays -/
theorem tr_trim (t : Tr rows ns rs) (l : rs.length = ns.length) : Tr rs (iota rs.length) rs := fun k r' e => by
  have lk := (List.getElem?_eq_some_iff.mp e).1
  refine ⟨k, r', by rw [iota_at, if_pos lk], e, ?_⟩
  cases r' with
  | book b => exact rfl
  | cut p q k' =>
    obtain ⟨n, r, e1, e2, m⟩ := t k _ e
    cases r with
    | book b =>
      have m : Rw.cut p q k' = Rw.book b := m
      cases m
    | cut i j k0 =>
      obtain ⟨p', q', hp, hq, er⟩ := m
      cases er
      have := (List.getElem?_eq_some_iff.mp hp).1
      have := (List.getElem?_eq_some_iff.mp hq).1
      exact ⟨p, q, by rw [iota_at, if_pos (by omega)], by rw [iota_at, if_pos (by omega)], rfl⟩
end
theorem parts_at {rows : List Rw} {last : Nat} {ns : List Int} (dn : Dn rows) (u : UL rows last ns) {t n i j : Nat} {k : Int} (e : ns[t]? = some (n : Int)) (er : rows[n]? = some (.cut i j k)) : ∃ p q : Nat, p < t ∧ q < t ∧ ns[p]? = some (i : Int) ∧ ns[q]? = some (j : Int) := by
  obtain ⟨m, em, um⟩ := (u.me _).mp (List.mem_of_getElem? e)
  obtain rfl : n = m := by omega
  obtain ⟨l1, l2, _⟩ := dn n i j k er
  obtain ⟨p, hp⟩ := List.getElem?_of_mem ((u.me (i : Int)).mpr ⟨i, rfl, .l um er⟩)
  obtain ⟨q, hq⟩ := List.getElem?_of_mem ((u.me (j : Int)).mpr ⟨j, rfl, .r um er⟩)
  exact ⟨p, q, up_at u.up hp e (by omega), up_at u.up hq e (by omega), hp, hq⟩
section
variable {P : Program} {w : World} {K : PySem.W.Frag} {mg : Str → Option Value} {base : Heap}
abbrev sMov : Stmt := topS 62
theorem scMov : FnScope ["row", "places"] ["row", "places"] (defScope sMov) := ⟨rfl, rfl, rfl, by decide +kernel, rfl, by decide +kernel, by decide +kernel⟩
/-- the places of the first i of ns -/
def Pl (ns : List Int) (i : Nat) (kvs : List (Key × V)) : Prop := ∀ (t : Nat) (x : Int), t < i → ns[t]? = some x → valV kvs (Sum.inl x) = some (.int (t : Nat))
def spMov : Sp := fun vs H Q _ => ∃ (v : V) (D : Addr) (r : Rw) (ns : List Int) (i : Nat) (kvs : List (Key × V)), vs = [v, .ref D] ∧ RowAt H v r ∧ H D = some (.dK kvs) ∧ Pl ns i kvs ∧ (∀ a b k, r = .cut a b k → ∃ p q : Nat, p < i ∧ q < i ∧ ns[p]? = some (a : Int) ∧ ns[q]? = some (b : Int)) ∧ ∀ v' r' H', Same H H' → RowAt H' v' r' → Mv ns r r' → Q v' H'
theorem ok_mov {f : Addr} {fd : FuncData} {k : Nat} (F : Fun K "moved_row" "moved_row" sMov f fd) : FnOk P w K mg base CX0 (k + 1) f fd ["row", "places"] spMov := by
  refine F.ok scMov (fun vs H Q E h => ?_) (fun cdv A outer s H vs Q E hr h => ?_)
  · obtain ⟨v, D, r, ns, i, kvs, rfl, _⟩ := h
    rfl
  · obtain ⟨v, D, r, ns, i, kvs, rfl, ⟨a, rfl, ha⟩, hD, pl, pr, q⟩ := h
    refine ⟨_, (pss_cons (ps_if (pt_cmpR op_eq (pe_ix ix_tup (pv 0) pe_int (fun _ _ => rfl)) pe_str (nomark _)) (pss_one (ps_ret (pv 0))) pss_nil)
      (pss_one (ps_ret (pe_tupN (pa_cons pe_str (pa_cons (pe_dget (lt1 hr.units) (pv 1) (pe_ix ix_tup (pv 0) pe_int (fun _ _ => rfl)) (fun _ _ => rfl)) (pa_cons (pe_dget (lt1 hr.units) (pv 1) (pe_ix ix_tup (pv 0) pe_int (fun _ _ => rfl)) (fun _ _ => rfl)) (pa_cons (pe_ix ix_tup (pv 0) pe_int (fun _ _ => rfl)) pa_nil)))))))), ?_⟩
    cases r with
    | book b =>
      exact ⟨_, rfl, a, _, 0, .str "book", rfl, rfl, .of ha, rfl, rfl, true, by simp, _, rfl, q _ (.book b) H (Same.refl _) ⟨a, rfl, ha⟩ rfl⟩
    | cut i' j' k' =>
      obtain ⟨p, q', lp, lq, hp, hq⟩ := pr i' j' k' rfl
      refine ⟨_, rfl, a, _, 0, .str "cut", rfl, rfl, .of ha, rfl, rfl, false, by simp; decide, ?_⟩
      have d1 := DGet.k (k := Sum.inl (i' : Int)) hD
      have d2 := DGet.k (k := Sum.inl (j' : Int)) hD
      rw [pl p _ lp hp] at d1
      rw [pl q' _ lq hq] at d2
      refine ⟨_, rfl, _, rfl, a, _, 1, .int (i' : Nat), rfl, rfl, .of ha, rfl, D, _, rfl, d1, ?_⟩
      refine ⟨_, rfl, _, rfl, a, _, 2, .int (j' : Nat), rfl, rfl, .of ha, rfl, D, _, rfl, d2, ?_⟩
      refine ⟨_, rfl, a, _, 3, .int k', rfl, rfl, .of ha, rfl, by show 4 ≤ sizeLine; decide, fun t H1 nt s1 ht _ => ?_⟩
      exact q (.ref t) (.cut p q' k') H1 s1 ⟨t, rfl, ht⟩ ⟨p, q', hp, hq, rfl⟩
abbrev sTrt : Stmt := topS 63
theorem scTrt : FnScope ["ladder", "last", "rows", "places", "number"] ["ladder", "last"] (defScope sTrt) := ⟨rfl, rfl, rfl, by decide +kernel, rfl, by decide +kernel, by decide +kernel⟩
def spTrt : Sp := fun vs H Q _ => ∃ (L : Addr) (rows : List Rw) (last : Nat), vs = [.ref L, .int (last : Nat)] ∧ RwL H L rows ∧ Dn rows ∧ last < rows.length ∧ rows.length ≤ 500 ∧ ∀ ns rs p H', UL rows last ns → Tr rows ns rs → rs.length = ns.length → H p = none → Same H H' → RwL H' p rs → Q (.ref p) H'
structure Zt (mg : Str → Option Value) : Prop where
  z_len : mg "len" = none
theorem ok_trt {f fU fV : Addr} {fd fdU fdV : FuncData} {k : Nat} (F : Fun K "trimmed_to" "trimmed_to" sTrt f fd) (T : Zt mg)
    (FU : Fun K "rows_under" "rows_under" sRun fU fdU) (bU : Binds K fdU ["ladder", "last"] []) (gU : mg "rows_under" = some (.ref fU)) (GU : FnOk P w K mg base CX0 1 fU fdU ["ladder", "last"] spRun)
    (FV : Fun K "moved_row" "moved_row" sMov fV fdV) (bV : Binds K fdV ["row", "places"] []) (gV : mg "moved_row" = some (.ref fV)) (GV : FnOk P w K mg base CX0 1 fV fdV ["row", "places"] spMov) :
    FnOk P w K mg base CX0 (k + 2) f fd ["ladder", "last"] spTrt := by
  refine F.ok scTrt (fun vs H Q E h => ?_) (fun cdv A outer s H vs Q E hr h => ?_)
  · obtain ⟨L, rows, last, rfl, _⟩ := h
    rfl
  · obtain ⟨L, rows, last, rfl, ⟨rvs, hL, aR⟩, dn, ll, l5, q⟩ := h
    have hr1 : Room 1 _ := hr.mono (by omega)
    refine ⟨_, (Evl.pss_cut (ps_set (i := 2) scTrt.nd rfl (.inl rfl) (pe_lstN pa_nil))
      (Evl.pss_cut (ps_set (i := 3) scTrt.nd rfl (.inl rfl) pe_dnewK)
      (Evl.pss_cut (ps_for PassesOwn.never rfl (pi_list (pe_call GU hr1 (by rfl) gU FU.kp bU .nil pass0 (pa_cons (pv 0) (pa_cons (pv 1) pa_nil)))) (pg_name (i := 4) scTrt.nd rfl (.inl rfl)) (Evl.pss_cut (ps_dput (lt1 hr.units) (pv 3) (pv 4) (pe_callB call_len_seq (by rfl) T.z_len (by decide +kernel) (pa_cons (pv 2) pa_nil)) rfl)
      (pss_one (ps_expr (pe_bm PySem.F.plainAttrs_list PySem.F.slot_list_append PySem.F.type_list_append mt_append (pv 2) (pa_cons (pe_call GV hr1 (by rfl) gV FV.kp bV .nil pass0 (pa_cons (pe_ix ix_list (pv 0) (pv 4) (fun _ _ => rfl)) (pa_cons (pv 3) pa_nil))) pa_nil))))))
      (pss_one (ps_ret (pv 2)))))), ?_⟩
    refine Evl.q_cut (M := fun σ' H' => ∃ R : Addr, σ' = [some (.ref L), some (.int (last : Nat)), some (.ref R), none, none] ∧ H R = none ∧ Same H H' ∧ H' R = some (.lst [])) ?_ ?_
    · exact ⟨Nat.zero_le _, fun R H1 nR s1 hR _ => ⟨R, rfl, nR, s1, hR⟩⟩
    rintro σ' H1 ⟨R, rfl, nR, s1, hR⟩
    refine Evl.q_cut (M := fun σ' H' => ∃ D : Addr, σ' = [some (.ref L), some (.int (last : Nat)), some (.ref R), some (.ref D), none] ∧ H D = none ∧ D ≠ R ∧ Same H H' ∧ H' R = some (.lst []) ∧ H' D = some (.dK [])) ?_ ?_
    · refine fun D nD => ⟨D, rfl, s1.free nD, Ne.symm (ne_of_none hR nD), fun b o e => ?_, ?_, upd_same⟩
      · rw [upd_ne (ne_of_none (s1 _ _ e) nD)]
        exact s1 _ _ e
      · rw [upd_ne (ne_of_none hR nD)]
        exact hR
    clear hR s1 H1
    rintro σ' H1 ⟨D, rfl, nD, nDR, s1, hR, hD⟩
    refine Evl.q_cut (M := fun σ' H' => ∃ (y4 : Option V) (ns : List Int) (rs : List Rw), σ' = [some (.ref L), some (.int (last : Nat)), some (.ref R), some (.ref D), y4] ∧ Same H H' ∧ UL rows last ns ∧ Tr rows ns rs ∧ rs.length = ns.length ∧ RwL H' R rs) ?_ ?_
    · refine ⟨_, rfl, _, rfl, L, rows, last, rfl, ⟨rvs, s1 _ _ hL, aR.imp fun _ _ r => r.ke (Ke.same (F := Nof) s1)⟩, dn, ll, l5, fun ns N H2 ul nN s2 hN => ?_⟩
      have lns := ul.len dn
      have nND : N ≠ D := Ne.symm (ne_of_none hD nN)
      have nNR : N ≠ R := Ne.symm (ne_of_none hR nN)
      have nup := up_nodup ul.up
      refine ⟨N, rfl, ⟨_, .of hN⟩, for_list (K := K) (a := N) (xs := ns.map V.int) (Pv := fun t σ H' => ∃ (y4 : Option V) (rs : List Rw) (kvs : List (Key × V)), σ = [some (.ref L), some (.int (last : Nat)), some (.ref R), some (.ref D), y4] ∧ Same H H' ∧ H' N = some (.lst (ns.map V.int)) ∧ H' D = some (.dK kvs) ∧ kvs.length ≤ t ∧ Pl ns t kvs ∧ RwL H' R rs ∧ Tr rows ns rs ∧ rs.length = t) ?_ (fun t σ H' _ p => ?_) ?_ ?_⟩
      · exact ⟨none, [], [], rfl, s1.trans s2, hN, s2 _ _ hD, Nat.le_refl _, fun t x lt => absurd lt (Nat.not_lt_zero _), ⟨[], s2 _ _ hR, .nil⟩, fun t r h => (nomatch h), rfl⟩
      · obtain ⟨_, _, _, _, _, h, _⟩ := p
        exact .of h
      · rintro t v σ H3 hv ⟨y4, rs, kvs, rfl, s3, hN3, hD3, lk, pl, ⟨rvs3, hR3, aR3⟩, tr, lt⟩
        obtain ⟨x, hx, rfl⟩ := at_int hv
        obtain ⟨n, rfl, un⟩ := (ul.me x).mp (List.mem_of_getElem? hx)
        have lx := (List.getElem?_eq_some_iff.mp hx).1
        have ln : n < rows.length := by
          have := un.le dn
          omega
        have her := List.getElem?_eq_getElem ln
        obtain ⟨rv, hrv, ra⟩ := aR.atR her
        have lr3 := aR3.1
        -- its place
        refine Evl.q_cut (M := fun σ' H' => ∃ kvs' : List (Key × V), σ' = [some (.ref L), some (.int (last : Nat)), some (.ref R), some (.ref D), some (.int (n : Nat))] ∧ Same H H' ∧ H' N = some (.lst (ns.map V.int)) ∧ H' D = some (.dK kvs') ∧ kvs'.length ≤ t + 1 ∧ Pl ns (t + 1) kvs' ∧ RwL H' R rs) ?_ ?_
        · refine ⟨_, rfl, R, _, rfl, .inl (.of hR3), _, rfl, _, rfl, D, _, rfl, DPut.k (k := Sum.inl (n : Int)) hD3 (small1000 (by omega)), ?_⟩
          have e9 : ((rvs3.length : Nat) : Int) = ((t : Nat) : Int) := by rw [lr3, lt]
          refine ⟨_, rfl, fun b o e => ?_, by rw [upd_ne nND]; exact hN3, upd_same, Nat.le_trans (length_putK _ _ _) (by omega), fun u x lu hu => ?_, ⟨rvs3, by rw [upd_ne (Ne.symm nDR)]; exact hR3, aR3.imp fun _ _ r => ?_⟩⟩
          · rw [upd_ne (ne_of_none e nD)]
            exact s3 _ _ e
          · rw [valV_put]
            by_cases z : x = n
            · subst z
              rw [if_pos rfl, nd_at nup hu hx, e9]
            · rw [if_neg (fun y => z (Sum.inl.inj y))]
              refine pl u x ?_ hu
              rcases Nat.lt_or_ge u t with y | y
              · exact y
              · obtain rfl : u = t := by omega
                rw [hx] at hu
                exact absurd (Option.some.inj hu).symm z
          · obtain ⟨a, e, h⟩ := r
            exact ⟨a, e, by rw [upd_ne (fun z => by rw [z, hD3] at h; cases h)]; exact h⟩
        rintro σ' H4 ⟨kvs', rfl, s4, hN4, hD4, lk4, pl4, ⟨rvs4, hR4, aR4⟩⟩
        have lr4 := aR4.1
        refine ⟨_, rfl, .inl ⟨rfl, _, .of hR4⟩, _, rfl, _, rfl, L, _, (n : Nat), rv, rfl, rfl, .of (s4 _ _ hL), at_of (j := n) rfl hrv, _, rfl, rv, D, rows[n], ns, t + 1, kvs', rfl, ra.ke (Ke.same (F := Nof) s4), hD4, pl4, fun a b k' e => ?_, fun v' r' H5 s5 rv' mv => ?_⟩
        · rw [e] at her
          obtain ⟨p, q', l1, l2, h1, h2⟩ := parts_at dn ul hx her
          exact ⟨p, q', by omega, by omega, h1, h2⟩
        · have hR5 := s5 _ _ hR4
          refine ⟨R, _, _, rfl, rfl, hR5, small1000 (by omega), ?_⟩
          refine ⟨_, rs ++ [r'], kvs', rfl, fun b o e => ?_, by rw [upd_ne nNR]; exact s5 _ _ hN4, by rw [upd_ne nDR]; exact s5 _ _ hD4, lk4, pl4, rw_snoc hR5 (aR4.imp fun _ _ r => r.ke (Ke.same (F := Nof) s5)) rv', tr.snoc (by rw [lt]; exact hx) her mv, by rw [List.length_append, lt]; rfl⟩
          rw [upd_ne (ne_of_none e nR)]
          exact (s4.trans s5) _ _ e
      · rintro σ H3 ⟨y4, rs, kvs, rfl, s3, _, _, _, _, hR3, tr, lt⟩
        rw [List.length_map] at lt
        exact ⟨y4, ns, rs, rfl, s3, ul, tr, lt, hR3⟩
    rintro σ' H2 ⟨y4, ns, rs, rfl, s2, ul, tr, lt, hR2⟩
    exact ⟨_, rfl, q ns rs R H2 ul tr lt nR s2 hR2⟩
abbrev sTrm : Stmt := topS 65
theorem scTrm : FnScope ["book", "ladder"] ["book", "ladder"] (defScope sTrm) := ⟨rfl, rfl, rfl, by decide +kernel, rfl, by decide +kernel, by decide +kernel⟩
def spTrm (Po : Addr) : Sp := fun vs H Q _ => ∃ (b : V) (L : Addr) (css cls : List (List Int)) (rows : List Rw), vs = [b, .ref L] ∧ BL H b L css rows cls ∧ 0 < rows.length ∧ TabG H Po ∧ ∀ ns rs p H', UL rows (rows.length - 1) ns → Tr rows ns rs → rs.length = ns.length → Frs H p → Ke Nof H H' → RwL H' p rs → Q (.ref p) H'
theorem ok_trm {f fK fT Po : Addr} {fd fdK fdT : FuncData} {k : Nat} (F : Fun K "trimmed" "trimmed" sTrm f fd) (T : Zt mg) (FK : Fun K "check_ladder" "check_ladder" sChk fK fdK) (bK : Binds K fdK ["book", "ladder"] []) (gK : mg "check_ladder" = some (.ref fK)) (GK : FnOk P w K mg base CX0 8 fK fdK ["book", "ladder"] (spChk Po))
    (FT : Fun K "trimmed_to" "trimmed_to" sTrt fT fdT) (bT : Binds K fdT ["ladder", "last"] []) (gT : mg "trimmed_to" = some (.ref fT)) (GT : FnOk P w K mg base CX0 2 fT fdT ["ladder", "last"] spTrt) :
    FnOk P w K mg base CX0 (k + 9) f fd ["book", "ladder"] (spTrm Po) := by
  refine F.ok scTrm (fun vs H Q E h => ?_) (fun cdv A outer s H vs Q E hr h => ?_)
  · obtain ⟨b, L, css, cls, rows, rfl, _⟩ := h
    rfl
  · obtain ⟨b, L, css, cls, rows, rfl, x, l0, tg, q⟩ := h
    have hr8 : Room 8 _ := hr.mono (by omega)
    have hr2 : Room 2 _ := hr.mono (by omega)
    refine ⟨_, (Evl.pss_cut (ps_expr (pe_call GK hr8 (by rfl) gK FK.kp bK .nil pass0 (pa_cons (pv 0) (pa_cons (pv 1) pa_nil))))
      (pss_one (ps_ret (pe_call GT hr2 (by rfl) gT FT.kp bT .nil pass0 (pa_cons (pv 1) (pa_cons (pe_op op_sub (pe_callB call_len_seq (by rfl) T.z_len (by decide +kernel) (pa_cons (pv 1) pa_nil)) pe_int) pa_nil)))))), ?_⟩
    refine Evl.q_cut (M := fun σ' H' => σ' = [some b, some (.ref L)] ∧ Ke Nof H H') ?_ ?_
    · exact ⟨_, rfl, _, rfl, b, L, css, cls, rows, rfl, x, l0, tg, fun H1 k1 => ⟨rfl, k1⟩⟩
    rintro σ' H1 ⟨rfl, k1⟩
    have x1 := x.ke k1 fun z => z
    obtain ⟨rvs, hL, aR⟩ := id x1.rw
    have ll := aR.1
    have le := x.le
    refine ⟨_, rfl, _, rfl, L, _, rfl, .inl (.of hL), _, _, rfl, rfl, L, rows, rows.length - 1, ?_, x1.rw, dn_lad x.ld x.ib, by omega, by omega, fun ns rs p H2 ul tr lt np s2 hp => q ns rs p H2 ul tr lt (.ke0 k1 (.of np)) (k1.trans (.same s2)) hp⟩
    show [V.ref L, V.int (((rvs.length : Nat) : Int) - 1)] = _
    rw [show ((rvs.length : Nat) : Int) - 1 = ((rows.length - 1 : Nat) : Int) by omega]
end
end Um
namespace PySem
/-! ### enumerate(a tuple) -/
set_option maxHeartbeats 2000000 in
theorem en_new (t : Addr) (its : Array Value) : Meets (Builtin.«enumerate.__new__» ⟨[.type "enumerate", .ref t], []⟩) (fun _ R s => s.heap.IsTuple t its ∧
    R (.ok (.ret (.ref (s.heap.push { cls := .type "tuple_iterator", data := .fields #[.ref t, .int 0 0] }).objs.size))) { s with heap := (s.heap.push { cls := .type "tuple_iterator", data := .fields #[.ref t, .int 0 0] }).push { cls := .type "enumerate", data := .fields #[.none, .bool false, .ref s.heap.objs.size, rawInt 0, .none, .none] } }) :=
  .of_wp fun prog w A R s z => by
    obtain ⟨hp, g, d, tk, os⟩ := s
    obtain ⟨ht, z⟩ := z
    have hsub := sub_enumerate
    have go : ∀ {A' : Around} {E : Value → Shared → Prop} {Q : Value → Shared → Prop}, Q (.ref hp.objs.size) ⟨hp.push { cls := .type "tuple_iterator", data := .fields #[.ref t, .int 0 0] }, g, d, tk, os⟩ → wpAny (model prog w) A' (pyIter (.ref t)) Q E ⟨hp, g, d, tk, os⟩ := fun q => wpAny_pyIter_tuple (s := ⟨hp, g, d, tk, os⟩) ht q
    wp_walk using go
    refine wpAny_stack_any fun st => wpAny_pure ?_
    split
    · rename_i c _ _ _ _ _
      cases (c == Value.type "enumerate") <;> (wp_walk using go; exact ⟨_, rfl, z⟩)
    · wp_walk using go; exact ⟨_, rfl, z⟩
theorem en_call {prog : Program} {w : World} {A : Around} {E : Value → Shared → Prop} {s : Shared} {t : Addr} {its : Array Value} {Q : Value → Shared → Prop} (ht : s.heap.IsTuple t its)
    (h : ∀ h', IsEnum h' (s.heap.objs.size + 1) s.heap.objs.size 0 .none → h'.IsTupleIter s.heap.objs.size t 0 → (∀ b o, s.heap.get? b = some o → h'.get? b = some o) → Q (.ref (s.heap.objs.size + 1)) { s with heap := h' }) :
    wpAny (model prog w) A (call (.type "enumerate") [.ref t]) Q E s := by
  refine callType_new F.called_enumerate (by decide) (F.typeCall_enumerate_1 _) (F.newCall_enumerate_1 _) (fun obj => F.args_object_init_2 obj _) F.entry_enumerate_new (en_new t its) ⟨ht, ?_⟩
  have hz : (s.heap.push { cls := .type "tuple_iterator", data := .fields #[.ref t, .int 0 0] }).objs.size = s.heap.objs.size + 1 := Heap.size_push ..
  show _ ∧ _
  rw [hz]
  have e1 := Heap.get?_push_size (s.heap.push { cls := .type "tuple_iterator", data := .fields #[.ref t, .int 0 0] }) (o := { cls := .type "enumerate", data := .fields #[.none, .bool false, .ref s.heap.objs.size, rawInt 0, .none, .none] }) rfl
  rw [hz] at e1
  exact ⟨⟨_, e1, rfl⟩, h _ e1 ⟨_, Heap.get?_push_of_some _ (Heap.get?_push_size _ rfl), rfl, rfl⟩ fun b o x => Heap.get?_push_of_some _ (Heap.get?_push_of_some _ x)⟩
end PySem
namespace En
open PySem PySem.Spec PyProof.Rows L2
theorem apart {h : Heap} {a e it : Addr} {vs : Array Value} {i : Nat} {old : Value} {c : Int} (p : h.IsTuple a vs) (hit : h.IsTupleIter it a i) (he : IsEnum h e it c old) : a ≠ it ∧ a ≠ e := by
  obtain ⟨o, e1, c1, _⟩ := p
  obtain ⟨o2, e2, c2, _⟩ := hit
  refine ⟨fun z => ?_, fun z => ?_⟩
  · rw [z, e2] at e1
    cases e1
    rw [c2] at c1
    simp at c1
  · have he : h.get? e = some _ := he
    rw [z, he] at e1
    cases e1
    simp at c1
/-- the tuple at a, each item in a new pair -/
def ItE (K : PySem.W.Frag) (a : Addr) : It :=
  ⟨fun i H => ∃ (xs : List V) (x : V), SqT K H a xs ∧ xs[i]? = some x, fun i H v H' => ∃ T x, v = .ref T ∧ H T = none ∧ H' = upd H T (.tup [.int (i : Nat), x]) ∧ ∀ xs, SqT K H a xs → xs[i]? = some x, fun i H => ∃ xs : List V, SqT K H a xs ∧ xs.length = i⟩
theorem turn {P : Program} {w : World} {K : PySem.W.Frag} {elts : List Expr} {kk : Nat} {tpos : Pos} (a e it : Addr) :
    Turn P w K (.Tuple elts kk tpos) (ItE K a) [e, it] e (fun i h => (∃ old, IsEnum h e it ((i : Nat) : Int) old) ∧ h.IsTupleIter it a i ∧ e ≠ it) where
  mem := by simp
  obj := fun i h st b hb => by
    obtain ⟨⟨old, he⟩, ⟨o, ho, _, hd⟩, _⟩ := st
    simp only [List.mem_cons, List.not_mem_nil, or_false] at hb
    rcases hb with rfl | rfl
    · exact ⟨_, he, fun v q => nomatch q⟩
    · exact ⟨o, ho, fun v q => by rw [hd] at q; cases q⟩
  keep := fun i h h' st k => let ⟨⟨old, he⟩, hi, ne⟩ := st; ⟨⟨old, k e (by simp) _ he⟩, hi.at fun o q => k it (by simp) o q, ne⟩
  item := by
    intro X hP hw hK hc i pins s σ H E I hf st hg
    subst hP hw hK
    obtain ⟨⟨old, he⟩, hit, ne⟩ := st
    obtain ⟨xs, x, hq, hx⟩ := hg
    obtain ⟨its, rv, p, hz⟩ := I.tuple hq
    have p : s.heap.IsTuple a its.toArray := p
    obtain ⟨u, hu, ru⟩ := rv.get hx
    obtain ⟨n1, n2⟩ := apart p hit he
    have le := Heap.lt_size he
    have li : it < s.heap.objs.size := by obtain ⟨_, q, _⟩ := hit; exact Heap.lt_size q
    have lt : i < its.toArray.size := by
      have := (List.getElem?_eq_some_iff.mp hu).1
      simpa using this
    refine wpAny_pyNext_enum_itemD (Draws.tuple (A := X.A.in1) (I.ok.hd hc) it a n1 its.toArray) he ⟨hit, p⟩ lt ne (by simp [ne, Ne.symm n2]) fun x' h1 tk q1 q2 q3 q4 q5 q6 => ?_
    obtain rfl : x' = u := by
      have q1 : its.toArray[i]? = some x' := q1
      rw [List.getElem?_toArray, hu] at q1
      exact (Option.some.inj q1).symm
    refine ⟨_, rfl, wpAny_letOwnedTupleGo_enum (s := { s with heap := h1, toks := tk + 1 }) q2 fun h2 he2 sb => ?_⟩
    have hT : h2.get? s.heap.objs.size = some { cls := .type "tuple", data := .seq #[.int i tk, x'] } := (sb.2 _ (Nat.ne_of_gt le)).trans q4
    have I1 : Inv X pins σ (upd H s.heap.objs.size (.tup [.int (i : Nat), x])) { s with heap := h2, toks := tk + 1 } :=
      I.turnedNew (ch := [e, it]) (fun b ob hb q => (sb.2 b (fun z => hb (by simp [z]))).trans (q6 b ob (fun z => hb (by simp [z])) (fun z => hb (by simp [z])) q)) hf (Nat.le_refl _)
        ⟨by show 2 ≤ sizeLine; decide, [.int i tk, x'], .cons ⟨_, rfl⟩ (.cons ru .nil), ⟨_, hT, rfl, _, rfl⟩⟩
    refine ⟨.ref s.heap.objs.size, _, I1, rfl, ⟨_, x, rfl, I.hok.fresh (Nat.le_refl _), rfl, fun ys hy => by rw [I.tuple_inj hy hq]; exact hx⟩, ⟨⟨x', ?_⟩, q3.1.at fun o q => (sb.2 it (Ne.symm ne)).trans q, ne⟩, fun b hb => ?_⟩
    · rw [show ((i + 1 : Nat) : Int) = (i : Int) + 1 by omega]
      exact he2
    · have lb : b < s.heap.objs.size := by
        have hb' : b = e ∨ b = it := by simpa using hb
        rcases hb' with z | z <;> rw [z] <;> assumption
      rw [upd_ne (Nat.ne_of_lt lb)]
      exact (hf b hb).1
  done := by
    intro X hP hw hK hc i pins s σ H E I hf st hg
    subst hP hw hK
    obtain ⟨⟨old, he⟩, hit, ne⟩ := st
    obtain ⟨xs, hq, hx⟩ := hg
    obtain ⟨its, rv, p, hz⟩ := I.tuple hq
    have p : s.heap.IsTuple a its.toArray := p
    obtain ⟨n1, n2⟩ := apart p hit he
    obtain ⟨f0, f1, f2, f3, f4, f5⟩ := hf it (by simp)
    have e1 : its.toArray.size = i := by
      have := rv.length
      rw [List.size_toArray]
      omega
    exact wpAny_pyNext_enum_endD (Draws.tuple (A := X.A.in1) (I.ok.hd hc) it a n1 its.toArray) he ⟨by rw [e1]; exact hit, p⟩ fun h1 eb => ⟨rfl, I.turned (t' := s.toks) (fun b o hb q => eb b o hb q) f0 f1 f3 f4 f5⟩
  self := fun A i s Q E st h => let ⟨⟨_, he⟩, _⟩ := st; wpAny_pyIter_enum he h
def iEn (K : PySem.W.Frag) (ta : TA) : TI := fun σ H R => ta σ H fun vs H1 => ∃ a xs, vs = [.ref a] ∧ SqT K H1 a xs ∧ R (ItE K a) H1
end En
theorem L2.pi_enumT {X : L2.Cx} {e : PySem.Expr} {ta : L2.TA} {p pos tpos : PySem.Pos} {elts : List PySem.Expr} {kk : Nat} (hg : L2.Gl X "enumerate") (hm : X.mg "enumerate" = none) (ha : L2.PA X [e] ta) (hs : PySem.starEach [e] X.env = [(false, PySem.eval e X.env)] := by rfl) :
    L2.PI X (.Tuple elts kk tpos) (.Call (.Name "enumerate" p) [e] [] pos) (En.iEn X.K ta) := by
  open PySem PySem.Spec PyProof.Rows L2 in
  refine ⟨fun pins s σ H R I h => Call_ (ld_blt I hg hm boot_enumerate (PyProof.Rows.callWith_type1 (thn (ha.run pos pins s σ H _ I h) fun us s1 ⟨vs, H1, I1, r1, a, xs, ex, hq, q⟩ => ?_) hs rfl))⟩
  subst ex
  cases r1 with
  | cons r rr =>
    cases rr
    cases r
    obtain ⟨its, rv, pt, hz⟩ := I1.tuple hq
    refine PySem.en_call (its := its.toArray) pt fun h1 he hit hk => PySem.wpAny_pyIter_enum he ?_
    refine ⟨s1.heap.objs.size + 1, [s1.heap.objs.size + 1, s1.heap.objs.size], _, _, H1, rfl, I1.kept (t' := s1.toks) hk, En.turn a (s1.heap.objs.size + 1) s1.heap.objs.size, ⟨⟨.none, he⟩, hit, Nat.succ_ne_self _⟩, fun b hb => ?_, q⟩
    have le : s1.heap.objs.size ≤ b := by
      have hb' : b = s1.heap.objs.size + 1 ∨ b = s1.heap.objs.size := by simpa using hb
      rcases hb' with z | z <;> rw [z]
      · exact Nat.le_succ _
      · exact Nat.le_refl _
    exact I1.fpOk le (I1.hok.fresh le)
namespace En
open PySem PySem.Spec PyProof.Rows L2
theorem for_en {K : PySem.W.Frag} {a : Addr} {xs : List V} {g : TG} {tb : TS} {D : Ends} {σ : L2.St} {H : Hp} (Pv : Nat → L2.St → Hp → Prop) (h0 : Pv 0 σ H) (hl : ∀ i σ H, i ≤ xs.length → Pv i σ H → SqT K H a xs)
    (hs : ∀ i x σ H T, xs[i]? = some x → Pv i σ H → H T = none → g (.ref T) σ (upd H T (.tup [.int (i : Nat), x])) fun σ2 H2 => tb { D with nx := Pv (i + 1), ct := Pv (i + 1), bk := D.nx } σ2 H2) (hd : ∀ σ H, Pv xs.length σ H → D.nx σ H) :
    ∃ W : Nat → Nat → L2.St → Hp → Prop, (∃ m, W 0 m σ H) ∧ ∀ i m σ H, W i m σ H →
      ((ItE K a).stop i H ∧ D.nx σ H) ∨ ((ItE K a).go i H ∧ ∃ N : L2.St → Hp → Prop, (∀ σ' H', N σ' H' → ∃ m', m' < m ∧ W (i + 1) m' σ' H') ∧ ∀ x H', (ItE K a).yld i H x H' → g x σ H' fun σ2 H2 => tb { D with nx := N, ct := N, bk := D.nx } σ2 H2) := by
  refine ⟨fun i m σ H => i + m = xs.length ∧ Pv i σ H, ⟨xs.length, Nat.zero_add _, h0⟩, fun i m σ H ⟨e, p⟩ => ?_⟩
  have sq := hl i σ H (by omega) p
  cases m with
  | zero =>
    obtain rfl : i = xs.length := by omega
    exact .inl ⟨⟨xs, sq, rfl⟩, hd σ H p⟩
  | succ m =>
    have hx := List.getElem?_eq_getElem (show i < xs.length by omega)
    refine .inr ⟨⟨xs, _, sq, hx⟩, Pv (i + 1), fun σ' H' q => ⟨m, Nat.lt_succ_self m, by omega, q⟩, ?_⟩
    rintro y H' ⟨T, x, rfl, nT, rfl, hy⟩
    exact hs i x σ H T (hy xs sq) p nT
theorem lc_en {K : PySem.W.Frag} {a : Addr} {xs : List V} {g : TG} {tt : TT} {te : TE} {vs : List Nat} {σ : L2.St} {H1 : Hp} {D : Addr} {Qd : Hp → Prop} (Pv : Nat → Hp → Prop) (h0 : Pv 0 (upd H1 D (.lst []))) (hl : ∀ i H, i ≤ xs.length → Pv i H → SqT K H a xs)
    (hs : ∀ i x H T, xs[i]? = some x → Pv i H → H T = none → g (.ref T) (wipe σ vs) (upd H T (.tup [.int (i : Nat), x])) fun σ2 H2 => wipe σ2 vs = wipe σ vs ∧ tt σ2 H2 fun b H3 => if b = true then te σ2 H3 fun y H4 => ∃ acc, H4 D = some (.lst acc) ∧ acc.length < sizeLine ∧ Pv (i + 1) (upd H4 D (.lst (acc ++ [y]))) else Pv (i + 1) H3) (hd : ∀ H, Pv xs.length H → Qd H) :
    ∃ W : Nat → Nat → Hp → Prop, (∃ m, W 0 m (upd H1 D (.lst []))) ∧ ∀ i m H, W i m H →
      ((ItE K a).stop i H ∧ Qd H) ∨ ((ItE K a).go i H ∧ ∃ Nx : Hp → Prop, (∀ H', Nx H' → ∃ m', m' < m ∧ W (i + 1) m' H') ∧ ∀ x H', (ItE K a).yld i H x H' → g x (wipe σ vs) H' fun σ2 H2 => wipe σ2 vs = wipe σ vs ∧ tt σ2 H2 fun b H3 =>
        if b = true then te σ2 H3 fun y H4 => ∃ acc, H4 D = some (.lst acc) ∧ acc.length < sizeLine ∧ Nx (upd H4 D (.lst (acc ++ [y]))) else Nx H3) := by
  refine ⟨fun i m H => i + m = xs.length ∧ Pv i H, ⟨xs.length, Nat.zero_add _, h0⟩, fun i m H ⟨e, p⟩ => ?_⟩
  have sq := hl i H (by omega) p
  cases m with
  | zero =>
    obtain rfl : i = xs.length := by omega
    exact .inl ⟨⟨xs, sq, rfl⟩, hd H p⟩
  | succ m =>
    have hx := List.getElem?_eq_getElem (show i < xs.length by omega)
    refine .inr ⟨⟨xs, _, sq, hx⟩, Pv (i + 1), fun H' q => ⟨m, Nat.lt_succ_self m, by omega, q⟩, ?_⟩
    rintro y H' ⟨T, x, rfl, nT, rfl, hy⟩
    exact hs i x H T (hy xs sq) p nT
end En
namespace L2
open PySem PySem.Spec PyProof.Rows
theorem pg_tupB {X : Cx} {K : PySem.W.Frag} {es : List Expr} {k : Nat} {t : TGs} {n : Nat} {pos : Pos} (hK : X.K = K) (hc : X.calm = true) (h : PGs X es t) (hn : (assignEach es X.env).length = n := by rfl) (hst : (assignEach es X.env).findIdx? (·.1) = none := by rfl) : PG X (.Tuple es k pos) (gTup K n t) := by
  subst hK
  exact pg_tup hc h hn hst
end L2
namespace Sl
end Sl
namespace En
end En
namespace Wd
open PySem PySem.Spec PyProof.Rows L2 GxR Nw Dr Kp Se Sl En
structure Zw (mg : Str → Option Value) : Prop where
  z_len : mg "len" = none
  z_all : mg "all" = none
  z_tuple : mg "tuple" = none
  z_range : mg "range" = none
  z_enumerate : mg "enumerate" = none
abbrev sWid : Stmt := topS 15
abbrev nWid : List Str := ["one", "other", "say"]
theorem scWid : FnScope nWid ["one", "other"] (defScope sWid) := ⟨rfl, rfl, rfl, by decide +kernel, rfl, by decide +kernel, by decide +kernel⟩
theorem ints_flat (cs : List Int) : (cs.map V.int).all flatV = true := by
  rw [List.all_map, List.all_eq_true]
  exact fun _ _ => rfl
theorem at_int {ks : List Int} {i : Nat} {x : V} (hx : (ks.map V.int)[i]? = some x) : ∃ z, ks[i]? = some z ∧ x = V.int z := by
  rw [List.getElem?_map] at hx
  cases e : ks[i]? with
  | none =>
    rw [e] at hx
    cases hx
  | some z =>
    rw [e] at hx
    exact ⟨z, rfl, (Option.some.inj hx).symm⟩
/-- each of cs is one of ds -/
def wideB (cs ds : List Int) : Bool := cs.all fun s => inV (.int s) (ds.map V.int)
theorem take_all {α : Type} {f : α → Bool} {l : List α} {i : Nat} {x : α} (h : l[i]? = some x) (p : (l.take i).all f = true) : (f x = false → l.all f = false) ∧ (f x = true → (l.take (i + 1)).all f = true) := by
  refine ⟨fun z => List.all_eq_false.mpr ⟨x, List.mem_of_getElem? h, by rw [z]; decide⟩, fun z => ?_⟩
  rw [List.take_add_one, h, List.all_append, p]
  show (f x && true) = true
  rw [z]
  rfl
section
variable {P : Program} {w : World} {K : PySem.W.Frag} {mg : Str → Option Value} {base : Heap}
def spWid (Pw : Addr) : Sp := fun vs H Q _ => ∃ (v u : V) (cs ds : List Int), vs = [v, u] ∧ TupI H v cs ∧ TupI H u ds ∧ TabG H Pw ∧ ∀ H', Ke Nof H H' → Q (.bl (wideB cs ds)) H'
theorem ok_wid {f c Pw : Addr} {fd : FuncData} {k : Nat} (F : FunC K "is_wide" "is_wide" sWid f c fd) (T : Zw mg) (TB : TabB base mg c Pw) : FnOk P w K mg base CX0 (k + 3) f fd ["one", "other"] (spWid Pw) := by
  refine F.ok scWid (fun vs H Q E h => ?_) (fun A outer s H vs Q E hr h => ?_)
  · obtain ⟨v, u, cs, ds, rfl, _⟩ := h
    rfl
  · obtain ⟨v, u, cs, ds, rfl, ⟨a, rfl, ha⟩, ⟨b, rfl, hb⟩, tg, q⟩ := h
    refine ⟨_, (pss_one (ps_ret (Gx.pe_all hr (by rfl) T.z_all rfl scWid.nd TB rfl (pi_tup (pv 0)) (own := [("say", 2)]) (g := gName 2) (tt := tYes) (blkOk_by (N := nWid) (sc := defScope sWid) (by decide +kernel)) ⟨rfl, by decide +kernel, rfl⟩ (fun _ _ _ _ _ _ _ => pg_name (i := 2) scWid.nd rfl (.inl rfl)) (fun _ _ _ _ _ _ _ => pts_nil) (fun _ _ _ _ _ _ _ => (pe_cmpR (op_in_seqB (K := K) rfl) (pv 2) (pv 1) (by rfl)))))), ?_⟩
    refine ⟨_, rfl, a, rfl, ⟨_, .of ha⟩, tg, fun H1 tb => ?_⟩
    have k1 : Ke Nof H H1 := .tabbed tg tb
    refine Gx.aa_tup (xs := cs.map V.int) (Pv := fun i H' => Ke Nof H H' ∧ (cs.take i).all (fun s => inV (.int s) (ds.map V.int)) = true) ⟨k1, rfl⟩ (fun i H' _ p => .of (p.1.tups _ _ ha)) ?_ ?_
    · rintro i x H' hx ⟨k2, p⟩
      obtain ⟨z, hz, rfl⟩ := at_int hx
      obtain ⟨t1, t2⟩ := take_all hz p
      refine ⟨rfl, _, rfl, _, rfl, b, _, rfl, .inr (.of (k2.tups _ _ hb)), rfl, ints_flat ds, ?_⟩
      cases e : inV (.int z) (ds.map V.int) with
      | false =>
        refine .inl ⟨rfl, ?_⟩
        have := q H' k2
        rw [show wideB cs ds = false from t1 e] at this
        exact this
      | true => exact .inr ⟨rfl, k2, t2 e⟩
    · rintro H' ⟨k2, p⟩
      rw [List.length_map, List.take_length] at p
      have := q H' k2
      rw [show wideB cs ds = true from p] at this
      exact this
end
end Wd
namespace So
open PySem PySem.Spec PyProof.Rows L2 GxR Nw Dr Kp Se Ct Lr
/-! ### what is cut follows -/
theorem sh_opp {bs : List Bool} {k : Int} (h : 1 ≤ k) : sh bs (-k) = !sh bs k := by
  unfold sh
  rw [Int.natAbs_neg, decide_eq_true (by omega : 0 < k), decide_eq_false (by omega : ¬ 0 < -k)]
  cases bs.getD (k.natAbs - 1) false <;> rfl
theorem sound {x y c : List Int} {k : Int} {bs : List Bool} (hx : IsCl x) (hy : IsCl y) (h : Comes x y k c) (h1 : x.any (sh bs) = true) (h2 : y.any (sh bs) = true) : c.any (sh bs) = true := by
  obtain ⟨k1, kx, ky, _, _, me⟩ := h
  obtain ⟨s, hs, e⟩ := List.any_eq_true.mp h1
  obtain ⟨t, ht, e2⟩ := List.any_eq_true.mp h2
  by_cases z : s = k
  · by_cases z2 : t = -k
    · rw [z] at e
      rw [z2, sh_opp k1, e] at e2
      cases e2
    · refine List.any_eq_true.mpr ⟨t, (me t).mpr ⟨.inr ht, fun z3 => ?_⟩, e2⟩
      have e3 : t = k := by omega
      rw [e3] at ht
      exact hy.opp k ht ky
  · refine List.any_eq_true.mpr ⟨s, (me s).mpr ⟨.inl hs, fun z3 => ?_⟩, e⟩
    have e3 : s = -k := by omega
    rw [e3] at hs
    exact hx.opp k kx hs
theorem Lad.holds {css cls : List (List Int)} {rows : List Rw} (hb : ∀ c ∈ css, IsCl c) (h : Lad css rows cls) {bs : List Bool} (ha : ah bs css = true) : ∀ c ∈ cls, c.any (sh bs) = true := by
  have ic := h.isCl hb
  have key : ∀ n, n ≤ cls.length → ∀ c ∈ cls.take n, c.any (sh bs) = true := by
    intro n
    induction n with
    | zero => exact fun _ c hc => by simp at hc
    | succ n ih =>
      intro hn c hc
      rw [List.take_add_one] at hc
      rcases List.mem_append.mp hc with hc | hc
      · exact ih (by omega) c hc
      · have ln : n < cls.length := by omega
        have lr : n < rows.length := by rw [h.1]; exact ln
        rw [List.getElem?_eq_getElem ln] at hc
        obtain rfl : c = cls[n] := List.mem_singleton.mp hc
        have rc := h.2 n rows[n] cls[n] (List.getElem?_eq_getElem lr) (List.getElem?_eq_getElem ln)
        cases hr : rows[n] with
        | book m =>
          rw [hr] at rc
          exact List.all_eq_true.mp ha _ (List.mem_of_getElem? rc)
        | cut i j k =>
          rw [hr] at rc
          obtain ⟨x, y, h1, h2, h3⟩ := rc
          have m1 := List.mem_of_getElem? h1
          have m2 := List.mem_of_getElem? h2
          exact sound (ic x (List.mem_of_mem_take m1)) (ic y (List.mem_of_mem_take m2)) h3 (ih (by omega) x m1) (ih (by omega) y m2)
  have := key cls.length (Nat.le_refl _)
  rwa [List.take_length] at this
theorem Lad.noCtr {css cls : List (List Int)} {rows : List Rw} (hb : ∀ c ∈ css, IsCl c) (h : Lad css rows cls) {c : List Int} (hc : c ∈ cls) {bs : List Bool} : ¬ Ctr css c bs := fun ⟨_, h2, h3⟩ => by
  rw [Lad.holds hb h h3 c hc] at h2
  cases h2
theorem shF : SeqAt.shaped (.tuple [.str "follows"]) = true := by decide +kernel
end So
namespace Tr
open PySem PySem.Spec PyProof.Rows L2 GxR Nw Dr Kp Ct Lr
/-! ### trees -/
inductive T where
  | leaf (n : Nat)
  | cut (t u : T) (k : Int)
def T.depth : T → Nat
  | .leaf _ => 1
  | .cut t u _ => 1 + max t.depth u.depth
def T.pieces : T → Nat
  | .leaf _ => 1
  | .cut t u _ => 1 + t.pieces + u.pieces
def T.cuts : T → Nat
  | .leaf _ => 0
  | .cut t u _ => 1 + t.cuts + u.cuts
def T.isCut : T → Bool
  | .leaf _ => false
  | .cut _ _ _ => true
theorem T.pos : ∀ t : T, 1 ≤ t.depth ∧ 1 ≤ t.pieces
  | .leaf _ => ⟨Nat.le_refl _, Nat.le_refl _⟩
  | .cut t u _ => ⟨Nat.le_add_right _ _, by show 1 ≤ 1 + t.pieces + u.pieces; omega⟩
/-- at v stands the tree -/
def At (H : Hp) : T → V → Prop
  | .leaf n, v => ∃ a, v = .ref a ∧ H a = some (.tup [.str "book", .int (n : Nat)])
  | .cut t u k, v => ∃ a x y, v = .ref a ∧ H a = some (.tup [.str "cut", x, y, .int k]) ∧ At H t x ∧ At H u y
theorem At.ke {F : Addr → Prop} {H H' : Hp} (k : Ke F H H') : ∀ {t : T} {v : V}, At H t v → At H' t v
  | .leaf n, v, h => by
    obtain ⟨a, e, h⟩ := h
    exact ⟨a, e, k.tups _ _ h⟩
  | .cut t u i, v, h => by
    obtain ⟨a, x, y, e, h, h1, h2⟩ := h
    exact ⟨a, x, y, e, k.tups _ _ h, At.ke k h1, At.ke k h2⟩
theorem At.wr {H : Hp} {D : Addr} {ys : List V} {o : HO} (hD : H D = some (.lst ys)) : ∀ {t : T} {v : V}, At H t v → At (upd H D o) t v
  | .leaf n, v, h => by
    obtain ⟨a, e, h⟩ := h
    refine ⟨a, e, ?_⟩
    rw [upd_ne (fun z => by rw [z, hD] at h; cases h)]
    exact h
  | .cut t u i, v, h => by
    obtain ⟨a, x, y, e, h, h1, h2⟩ := h
    refine ⟨a, x, y, e, ?_, At.wr hD h1, At.wr hD h2⟩
    rw [upd_ne (fun z => by rw [z, hD] at h; cases h)]
    exact h
/-- its claim -/
def Cl (css : List (List Int)) : T → List Int → Prop
  | .leaf n, c => css[n]? = some c
  | .cut t u k, c => ∃ x y, Cl css t x ∧ Cl css u y ∧ Comes x y k c
theorem Cl.one {css : List (List Int)} : ∀ {t : T} {c d : List Int}, Cl css t c → Cl css t d → c = d
  | .leaf n, _, _, a, b => Option.some.inj (a.symm.trans b)
  | .cut t u k, _, _, a, b => by
    obtain ⟨x, y, h1, h2, h3⟩ := a
    obtain ⟨x', y', h1', h2', h3'⟩ := b
    cases Cl.one h1 h1'
    cases Cl.one h2 h2'
    exact h3.one h3'
theorem Cl.isCl {css : List (List Int)} (hb : ∀ c ∈ css, IsCl c) : ∀ {t : T} {c : List Int}, Cl css t c → IsCl c
  | .leaf n, c, h => hb c (List.mem_of_getElem? h)
  | .cut t u k, c, h => by
    obtain ⟨x, y, h1, h2, h3⟩ := h
    exact cl_comes (Cl.isCl hb h1) (Cl.isCl hb h2) h3
/-- all pieces, in the order in which they are done -/
def T.all : T → List T
  | .leaf n => [.leaf n]
  | .cut t u k => t.all ++ u.all ++ [.cut t u k]
theorem T.all_len : ∀ t : T, t.all.length = t.pieces
  | .leaf _ => rfl
  | .cut t u k => by
    show (t.all ++ u.all ++ [T.cut t u k]).length = 1 + t.pieces + u.pieces
    rw [List.length_append, List.length_append, T.all_len t, T.all_len u]
    show t.pieces + u.pieces + 1 = _
    omega
theorem T.all_cuts : ∀ t : T, t.all.countP T.isCut = t.cuts
  | .leaf _ => rfl
  | .cut t u k => by
    show (t.all ++ u.all ++ [T.cut t u k]).countP T.isCut = 1 + t.cuts + u.cuts
    rw [List.countP_append, List.countP_append, T.all_cuts t, T.all_cuts u]
    show t.cuts + u.cuts + 1 = _
    omega
theorem T.all_sub {css : List (List Int)} : ∀ {t : T} {c : List Int}, Cl css t c → ∀ s ∈ t.all, s.depth ≤ t.depth ∧ s.pieces ≤ t.pieces ∧ ∃ d, Cl css s d
  | .leaf n, c, h, s, hs => by
    obtain rfl : s = .leaf n := List.mem_singleton.mp hs
    exact ⟨Nat.le_refl _, Nat.le_refl _, c, h⟩
  | .cut t u k, c, h, s, hs => by
    obtain ⟨x, y, h1, h2, h3⟩ := id h
    rcases List.mem_append.mp hs with hs | hs
    · rcases List.mem_append.mp hs with hs | hs
      · obtain ⟨a1, a2, a3⟩ := T.all_sub h1 s hs
        exact ⟨by show s.depth ≤ 1 + max t.depth u.depth; omega, by show s.pieces ≤ 1 + t.pieces + u.pieces; omega, a3⟩
      · obtain ⟨a1, a2, a3⟩ := T.all_sub h2 s hs
        exact ⟨by show s.depth ≤ 1 + max t.depth u.depth; omega, by show s.pieces ≤ 1 + t.pieces + u.pieces; omega, a3⟩
    · rw [List.mem_singleton.mp hs]
      exact ⟨Nat.le_refl _, Nat.le_refl _, c, h⟩
theorem unsnoc {α β : Type} {R : α → β → Prop} {xs : List α} {ys : List β} (h : All2 R xs ys) (ne : xs ≠ []) : ∃ xs0 x ys0 y, xs = xs0 ++ [x] ∧ ys = ys0 ++ [y] ∧ All2 R xs0 ys0 ∧ R x y := by
  have l := h.1
  have lp : 0 < xs.length := by
    cases xs with
    | nil => exact absurd rfl ne
    | cons a t => exact Nat.zero_lt_succ _
  have e1 : xs = xs.take (xs.length - 1) ++ [xs[xs.length - 1]] := by
    have := Lp.take_snoc (List.getElem?_eq_getElem (show xs.length - 1 < xs.length by omega))
    rw [show xs.length - 1 + 1 = xs.length by omega, List.take_length] at this
    exact this
  have e2 : ys = ys.take (xs.length - 1) ++ [ys[xs.length - 1]] := by
    have := Lp.take_snoc (List.getElem?_eq_getElem (show xs.length - 1 < ys.length by omega))
    rw [show xs.length - 1 + 1 = ys.length by omega, List.take_length] at this
    exact this
  exact ⟨_, _, _, _, e1, e2, h.take _, h.2 _ _ _ (List.getElem?_eq_getElem _) (List.getElem?_eq_getElem _)⟩
end Tr
namespace Tp
open PySem PySem.Spec PyProof.Rows L2 GxR Nw Dr Kp Se Ct Lr Lp Tr
structure Zt5 (mg : Str → Option Value) : Prop where
  z_len : mg "len" = none
  z_isinstance : mg "isinstance" = none
  z_tuple : mg "tuple" = none
section
variable {P : Program} {w : World} {K : PySem.W.Frag} {mg : Str → Option Value} {base : Heap}
abbrev sFork : Stmt := topS 32
theorem scFork : FnScope ["thing"] ["thing"] (defScope sFork) := ⟨rfl, rfl, rfl, by decide +kernel, rfl, by decide +kernel, by decide +kernel⟩
def spFork : Sp := fun vs H Q _ => ∃ (v : V) (t : T), vs = [v] ∧ At H t v ∧ Q (.bl t.isCut) H
theorem ok_fork {f : Addr} {fd : FuncData} {k : Nat} (F : Fun K "is_fork" "is_fork" sFork f fd) (Z : Zt5 mg) : FnOk P w K mg base CX0 (k + 1) f fd ["thing"] spFork := by
  have T := Z
  refine F.ok scFork (fun vs H Q E h => ?_) (fun cdv A outer s H vs Q E hr h => ?_)
  · obtain ⟨v, t, rfl, _⟩ := h
    rfl
  · obtain ⟨v, t, rfl, ht, q⟩ := h
    refine ⟨_, (pss_one (ps_ret (pe_and (pe_callB call_isi (by rfl) T.z_isinstance (by decide +kernel) (pa_cons (pv 0) (pa_cons (pe_bltn (v := .ty "tuple") (u := .type "tuple") (by rfl) T.z_tuple (by decide +kernel) rfl) pa_nil))) (pe_and (pe_cmpR op_eq (pe_callB call_len_seq (by rfl) T.z_len (by decide +kernel) (pa_cons (pv 0) pa_nil)) pe_int (nomark _)) (pe_one (pe_cmpR op_eq (pe_ix ix_tup (pv 0) pe_int (fun _ _ => rfl)) pe_str (nomark _))))))), ?_⟩
    cases t with
    | leaf n =>
      obtain ⟨a, rfl, ha⟩ := ht
      refine ⟨_, rfl, .ref a, .ty "tuple", .type "tuple", .type "tuple", true, rfl, .ty _, .base (.tup ha), kit_ty (by decide +kernel), _, rfl, ?_⟩
      exact ⟨_, rfl, a, _, rfl, .inr (.of ha), rfl, false, rfl, q⟩
    | cut t u k =>
      obtain ⟨a, x, y, rfl, ha, _, _⟩ := ht
      refine ⟨_, rfl, .ref a, .ty "tuple", .type "tuple", .type "tuple", true, rfl, .ty _, .base (.tup ha), kit_ty (by decide +kernel), _, rfl, ?_⟩
      refine ⟨_, rfl, a, _, rfl, .inr (.of ha), rfl, true, rfl, ?_⟩
      refine ⟨_, rfl, a, _, 0, .str "cut", rfl, rfl, .of ha, rfl, rfl, ?_⟩
      rw [decide_eq_true rfl]
      exact q
abbrev sLeaf : Stmt := topS 33
theorem scLeaf : FnScope ["thing"] ["thing"] (defScope sLeaf) := ⟨rfl, rfl, rfl, by decide +kernel, rfl, by decide +kernel, by decide +kernel⟩
def spLeaf : Sp := fun vs H Q _ => ∃ (v : V) (t : T), vs = [v] ∧ At H t v ∧ Q (.bl (!t.isCut)) H
theorem ok_leaf {f : Addr} {fd : FuncData} {k : Nat} (F : Fun K "is_leaf" "is_leaf" sLeaf f fd) (Z : Zt5 mg) : FnOk P w K mg base CX0 (k + 1) f fd ["thing"] spLeaf := by
  have T := Z
  refine F.ok scLeaf (fun vs H Q E h => ?_) (fun cdv A outer s H vs Q E hr h => ?_)
  · obtain ⟨v, t, rfl, _⟩ := h
    rfl
  · obtain ⟨v, t, rfl, ht, q⟩ := h
    refine ⟨_, (pss_one (ps_ret (pe_and (pe_callB call_isi (by rfl) T.z_isinstance (by decide +kernel) (pa_cons (pv 0) (pa_cons (pe_bltn (v := .ty "tuple") (u := .type "tuple") (by rfl) T.z_tuple (by decide +kernel) rfl) pa_nil))) (pe_and (pe_cmpR op_eq (pe_callB call_len_seq (by rfl) T.z_len (by decide +kernel) (pa_cons (pv 0) pa_nil)) pe_int (nomark _)) (pe_one (pe_cmpR op_eq (pe_ix ix_tup (pv 0) pe_int (fun _ _ => rfl)) pe_str (nomark _))))))), ?_⟩
    cases t with
    | leaf n =>
      obtain ⟨a, rfl, ha⟩ := ht
      refine ⟨_, rfl, .ref a, .ty "tuple", .type "tuple", .type "tuple", true, rfl, .ty _, .base (.tup ha), kit_ty (by decide +kernel), _, rfl, ?_⟩
      refine ⟨_, rfl, a, _, rfl, .inr (.of ha), rfl, true, rfl, ?_⟩
      refine ⟨_, rfl, a, _, 0, .str "book", rfl, rfl, .of ha, rfl, rfl, ?_⟩
      rw [decide_eq_true rfl]
      exact q
    | cut t u k =>
      obtain ⟨a, x, y, rfl, ha, _, _⟩ := ht
      refine ⟨_, rfl, .ref a, .ty "tuple", .type "tuple", .type "tuple", true, rfl, .ty _, .base (.tup ha), kit_ty (by decide +kernel), _, rfl, ?_⟩
      exact ⟨_, rfl, a, _, rfl, .inr (.of ha), rfl, false, rfl, q⟩
/-! ### the size -/
/-- what waits -/
def Wt (H : Hp) (x : V) (tw : T × Nat) : Prop := ∃ p y, x = .ref p ∧ H p = some (.tup [y, .int (tw.2 : Nat)]) ∧ At H tw.1 y
theorem Wt.ke {F : Addr → Prop} {H H' : Hp} {x : V} {tw : T × Nat} (h : Wt H x tw) (k : Ke F H H') : Wt H' x tw := by
  obtain ⟨p, y, e, h1, h2⟩ := h
  exact ⟨p, y, e, k.tups _ _ h1, h2.ke k⟩
theorem Wt.wr {H : Hp} {D : Addr} {ys : List V} {o : HO} {x : V} {tw : T × Nat} (h : Wt H x tw) (hD : H D = some (.lst ys)) : Wt (upd H D o) x tw := by
  obtain ⟨p, y, e, h1, h2⟩ := h
  refine ⟨p, y, e, ?_, h2.wr hD⟩
  rw [upd_ne (fun z => by rw [z, hD] at h1; cases h1)]
  exact h1
def left (ws : List (T × Nat)) : Nat := (ws.map fun tw => tw.1.pieces).sum
theorem left_snoc (ws : List (T × Nat)) (tw : T × Nat) : left (ws ++ [tw]) = left ws + tw.1.pieces := by
  unfold left
  rw [List.map_append, List.sum_append]
  rfl
theorem left_len : ∀ ws : List (T × Nat), ws.length ≤ left ws
  | [] => Nat.le_refl _
  | tw :: r => by
    have := left_len r
    have := tw.1.pos.2
    show r.length + 1 ≤ tw.1.pieces + left r
    omega
abbrev sSize : Stmt := topS 34
theorem scSize : FnScope ["thing", "waiting", "pieces", "part", "within"] ["thing"] (defScope sSize) := ⟨rfl, rfl, rfl, by decide +kernel, rfl, by decide +kernel, by decide +kernel⟩
def spSize : Sp := fun vs H Q _ => ∃ (v : V) (t : T), vs = [v] ∧ At H t v ∧ t.pieces ≤ 360 ∧ t.depth ≤ 40 ∧ ∀ H', Ke Nof H H' → Q (.bl true) H'
theorem ok_size {f fF : Addr} {fd fdF : FuncData} {k : Nat} {tk tk' : Tok} (F : Fun K "has_size_of_tree" "has_size_of_tree" sSize f fd) (M3 : mg "MOST_PIECES" = some (.int 360 tk)) (M4 : mg "MOST_WITHIN" = some (.int 40 tk')) (FF : Fun K "is_fork" "is_fork" sFork fF fdF) (bF : Binds K fdF ["thing"] []) (gF : mg "is_fork" = some (.ref fF)) (GF : FnOk P w K mg base CX0 1 fF fdF ["thing"] spFork) :
    FnOk P w K mg base CX0 (k + 2) f fd ["thing"] spSize := by
  refine F.ok scSize (fun vs H Q E h => ?_) (fun cdv A outer s H vs Q E hr h => ?_)
  · obtain ⟨v, t, rfl, _⟩ := h
    rfl
  · obtain ⟨v, t, rfl, ht, hp, hd, q⟩ := h
    have hr1 : Room 1 _ := hr.mono (by omega)
    refine ⟨_, (Evl.pss_cut (ps_set (i := 1) scSize.nd rfl (.inl rfl) (pe_lstN (pa_cons (pe_tupN (pa_cons (pv 0) (pa_cons pe_int pa_nil))) pa_nil)))
      (Evl.pss_cut (ps_set (i := 2) scSize.nd rfl (.inl rfl) pe_int)
      (pss_cons (ps_while PassesOwn.never (pt_truth (pv 1) (fun _ => rfl)) (Evl.pss_cut (ps_asg (pe_bm0 PySem.F.plainAttrs_list PySem.F.slot_list_pop PySem.F.type_list_pop mt_pop (pv 1)) (pg_tup rfl (pgs_cons (pg_name (i := 3) scSize.nd rfl (.inl rfl)) (pgs_cons (pg_name (i := 4) scSize.nd rfl (.inl rfl)) pgs_nil))))
      (Evl.pss_cut (ps_aug (i := 2) scSize.nd rfl (.inl rfl) pe_int ip_add)
      (Evl.pss_cut (ps_if (PW.pt (pw_or (pt_cmpR op_gt (pv 2) (pe_glob (v := .int 360) rfl M3 ⟨_, rfl⟩) (nomark _)) (pw_or1 (pt_cmpR op_gt (pv 4) (pe_glob (v := .int 40) rfl M4 ⟨_, rfl⟩) (nomark _))))) pss_never pss_nil)
      (pss_one (ps_if (pt_val (pe_call GF hr1 (by rfl) gF FF.kp bF .nil pass0 (pa_cons (pv 3) pa_nil))) (pss_cons (ps_expr (pe_bm PySem.F.plainAttrs_list PySem.F.slot_list_append PySem.F.type_list_append mt_append (pv 1) (pa_cons (pe_tupN (pa_cons (pe_ix ix_tup (pv 3) pe_int (fun _ _ => rfl)) (pa_cons (pe_op op_add (pv 4) pe_int) pa_nil))) pa_nil)))
      (pss_one (ps_expr (pe_bm PySem.F.plainAttrs_list PySem.F.slot_list_append PySem.F.type_list_append mt_append (pv 1) (pa_cons (pe_tupN (pa_cons (pe_ix ix_tup (pv 3) pe_int (fun _ _ => rfl)) (pa_cons (pe_op op_add (pv 4) pe_int) pa_nil))) pa_nil))))) pss_nil))))))
      (pss_one (ps_ret pe_bl))))), ?_⟩
    refine Evl.q_cut (M := fun σ' H' => ∃ D : Addr, σ' = [some v, some (.ref D), none, none, none] ∧ H D = none ∧ Ke Nof H H' ∧ ∃ vs, H' D = some (.lst vs) ∧ All2 (Wt H') vs [(t, 1)]) ?_ ?_
    · refine ⟨_, rfl, by show 2 ≤ sizeLine; decide, fun p H1 np s1 hp1 _ => ?_⟩
      refine ⟨by show 1 ≤ sizeLine; decide, fun D H2 nD s2 hD _ => ?_⟩
      have k2 : Ke Nof H H2 := .same (s1.trans s2)
      exact ⟨D, rfl, s1.free nD, k2, _, hD, All2.nil.snoc ⟨p, v, rfl, s2 _ _ hp1, ht.ke k2⟩⟩
    rintro σ' H1 ⟨D, rfl, nD, k1, vs1, hD1, a1⟩
    refine Evl.q_cut (M := fun σ' H' => σ' = [some v, some (.ref D), some (.int 0), none, none] ∧ H' = H1) ⟨rfl, rfl⟩ ?_
    rintro σ' H' ⟨rfl, rfl⟩
    refine ⟨fun m σ H2 => ∃ (y3 y4 : Option V) (ws : List (T × Nat)) (n : Nat) (vs : List V), σ = [some v, some (.ref D), some (.int (n : Nat)), y3, y4] ∧ Ke Nof H H2 ∧ H2 D = some (.lst vs) ∧ All2 (Wt H2) vs ws ∧ m = left ws ∧ n + m ≤ 360 ∧ ∀ tw ∈ ws, tw.2 + tw.1.depth ≤ 41, ⟨t.pieces, none, none, [(t, 1)], 0, vs1, rfl, k1, hD1, a1, rfl, by omega, fun tw h => ?_⟩, ?_⟩
    · rw [List.mem_singleton.mp h]
      show 1 + t.depth ≤ 41
      omega
    · rintro m σ H2 ⟨y3, y4, ws, n, vs, rfl, k2, hD2, a2, rfl, nm, bd⟩
      refine ⟨_, rfl, !vs.isEmpty, .inl ⟨vs, .of hD2, rfl⟩, ?_⟩
      cases hv : vs with
      | nil =>
        exact q H2 k2
      | cons v0 vt =>
        have ne : vs ≠ [] := by rw [hv]; exact List.cons_ne_nil _ _
        rw [if_pos (by rfl)]
        obtain ⟨vs0, x, ws0, ⟨t0, w0⟩, e1, e2, a0, p, y, rfl, hp0, ht0⟩ := unsnoc a2 ne
        have ll := left_snoc ws0 (t0, w0)
        have tp := t0.pos
        have b0 := bd (t0, w0) (by rw [e2]; exact List.mem_append_right _ List.mem_cons_self)
        have b0 : w0 + t0.depth ≤ 41 := b0
        have bd0 : ∀ tw ∈ ws0, tw.2 + tw.1.depth ≤ 41 := fun tw h => bd tw (by rw [e2]; exact List.mem_append_left _ h)
        rw [e2, ll] at nm
        have ll : left (ws0 ++ [(t0, w0)]) = left ws0 + t0.pieces := ll
        have nm : n + (left ws0 + t0.pieces) ≤ 360 := nm
        refine ⟨fun σ' H' => ∃ (y3 y4 : Option V) (ws' : List (T × Nat)) (vs' : List V), σ' = [some v, some (.ref D), some (.int ((n + 1 : Nat) : Int)), y3, y4] ∧ Ke Nof H H' ∧ H' D = some (.lst vs') ∧ All2 (Wt H') vs' ws' ∧ left ws' + 1 = left ws0 + t0.pieces ∧ ∀ tw ∈ ws', tw.2 + tw.1.depth ≤ 41, ?_, ?_⟩
        · rintro σ' H' ⟨z3, z4, ws', vs', rfl, k', hD', a', l', b'⟩
          refine ⟨left ws', by rw [e2, ll]; omega, z3, z4, ws', n + 1, vs', rfl, k', hD', a', rfl, by omega, b'⟩
        -- part, within
        refine Evl.q_cut (M := fun σ' H' => σ' = [some v, some (.ref D), some (.int (n : Nat)), some y, some (.int (w0 : Nat))] ∧ Ke Nof H H' ∧ H' D = some (.lst vs0) ∧ All2 (Wt H') vs0 ws0 ∧ At H' t0 y) ?_ ?_
        · refine ⟨_, rfl, .inl ⟨rfl, _, .of hD2⟩, D, vs, .ref p, rfl, rfl, hD2, ?_, ?_⟩
          · rw [e1, List.length_append, List.length_singleton, Nat.add_sub_cancel, List.getElem?_append_right (Nat.le_refl _), Nat.sub_self]
            rfl
          rw [e1, List.dropLast_concat]
          have hp2 : (upd H2 D (.lst vs0)) p = some (.tup [y, .int (w0 : Nat)]) := by
            rw [upd_ne (fun z => by rw [z, hD2] at hp0; cases hp0)]
            exact hp0
          refine ⟨p, _, rfl, .of hp2, rfl, _, _, rfl, _, _, rfl, rfl, rfl, k2.upd nD, upd_same, a0.imp fun _ _ h => h.wr hD2, ht0.wr hD2⟩
        rintro σ' H3 ⟨rfl, k3, hD3, a3, ht3⟩
        refine Evl.q_cut (M := fun σ' H' => σ' = [some v, some (.ref D), some (.int ((n + 1 : Nat) : Int)), some y, some (.int (w0 : Nat))] ∧ H' = H3) ?_ ?_
        · exact ⟨_, rfl, _, _, rfl, rfl, by rw [show ((n + 1 : Nat) : Int) = (n : Int) + 1 by omega]; rfl, rfl⟩
        rintro σ' H' ⟨rfl, rfl⟩
        -- not too great
        refine Evl.q_cut (M := fun σ' H4 => σ' = [some v, some (.ref D), some (.int ((n + 1 : Nat) : Int)), some y, some (.int (w0 : Nat))] ∧ H4 = H') ?_ ?_
        · refine ⟨_, rfl, _, _, rfl, rfl, false, ?_, ?_⟩
          · show V.bl (decide (((n + 1 : Nat) : Int) > 360)) = V.bl false
            rw [decide_eq_false (by omega)]
          refine ⟨_, rfl, _, _, rfl, rfl, false, ?_, rfl, rfl⟩
          show V.bl (decide (((w0 : Nat) : Int) > 40)) = V.bl false
          rw [decide_eq_false (by omega)]
        rintro σ' H4 ⟨rfl, rfl⟩
        refine ⟨_, rfl, y, t0, rfl, ht3, _, rfl, ?_⟩
        cases t0 with
        | leaf n0 => exact ⟨_, _, ws0, vs0, rfl, k3, hD3, a3, rfl, bd0⟩
        | cut tl tr k0 =>
          obtain ⟨a0', x0, y0, rfl, ha0, h1, h2⟩ := id ht3
          have dp : (Tr.T.cut tl tr k0).depth = 1 + max tl.depth tr.depth := rfl
          have pp : (T.cut tl tr k0).pieces = 1 + tl.pieces + tr.pieces := rfl
          have lv0 := a3.1
          have lw0 := left_len ws0
          show (if true = true then _ else _)
          rw [if_pos rfl]
          refine ⟨_, rfl, .inl ⟨rfl, _, .of hD3⟩, _, rfl, a0', _, 1, x0, rfl, rfl, .of ha0, rfl, _, rfl, _, _, rfl, rfl, by show 2 ≤ sizeLine; decide, fun p1 H5 np1 s5 hp1 _ => ?_⟩
          have hD5 := s5 _ _ hD3
          have k45 : Ke Nof H4 H5 := .same s5
          refine ⟨D, _, _, rfl, rfl, hD5, small1000 (by omega), ?_⟩
          have a6 : All2 (Wt (upd H5 D (.lst (vs0 ++ [.ref p1])))) (vs0 ++ [.ref p1]) (ws0 ++ [(tl, w0 + 1)]) := (a3.imp fun _ _ h => (h.ke k45).wr hD5).snoc (Wt.wr ⟨p1, x0, rfl, hp1, h1.ke k45⟩ hD5)
          have k6 : Ke Nof H (upd H5 D (.lst (vs0 ++ [.ref p1]))) := (k3.trans k45).upd nD
          have ha6 : (upd H5 D (.lst (vs0 ++ [.ref p1]))) a0' = some (.tup [.str "cut", x0, y0, .int k0]) := by
            rw [upd_ne (fun z => by rw [z, hD3] at ha0; cases ha0)]
            exact s5 _ _ ha0
          have h26 : At (upd H5 D (.lst (vs0 ++ [.ref p1]))) tr y0 := (h2.ke k45).wr hD5
          have hD6 : (upd H5 D (.lst (vs0 ++ [.ref p1]))) D = some (.lst (vs0 ++ [.ref p1])) := upd_same
          generalize upd H5 D (.lst (vs0 ++ [.ref p1])) = H6 at a6 k6 ha6 h26 hD6
          refine ⟨_, rfl, .inl ⟨rfl, _, .of hD6⟩, _, rfl, a0', _, 2, y0, rfl, rfl, .of ha6, rfl, _, rfl, _, _, rfl, rfl, by show 2 ≤ sizeLine; decide, fun p2 H7 np2 s7 hp2 _ => ?_⟩
          have hD7 := s7 _ _ hD6
          have k67 : Ke Nof H6 H7 := .same s7
          refine ⟨D, _, _, rfl, rfl, hD7, ?_, ?_⟩
          · rw [List.length_append]
            exact small1000 (by show vs0.length + 1 ≤ 1000; omega)
          have a8 : All2 (Wt (upd H7 D (.lst (vs0 ++ [.ref p1] ++ [.ref p2])))) (vs0 ++ [.ref p1] ++ [.ref p2]) (ws0 ++ [(tl, w0 + 1)] ++ [(tr, w0 + 1)]) := (a6.imp fun _ _ h => (h.ke k67).wr hD7).snoc (Wt.wr ⟨p2, y0, rfl, hp2, h26.ke k67⟩ hD7)
          refine ⟨_, _, _, _, rfl, (k6.trans k67).upd nD, upd_same, a8, ?_, fun tw htw => ?_⟩
          · rw [left_snoc, left_snoc]
            show left ws0 + tl.pieces + tr.pieces + 1 = _
            omega
          · rcases List.mem_append.mp htw with z | z
            · rcases List.mem_append.mp z with z | z
              · exact bd0 tw z
              · rw [List.mem_singleton.mp z]
                show w0 + 1 + tl.depth ≤ 41
                omega
            · rw [List.mem_singleton.mp z]
              show w0 + 1 + tr.depth ≤ 41
              omega
abbrev sCn : Stmt := topS 35
theorem scCn : FnScope ["book", "thing", "one", "other"] ["book", "thing"] (defScope sCn) := ⟨rfl, rfl, rfl, by decide +kernel, rfl, by decide +kernel, by decide +kernel⟩
/-- of trees at most d within one another -/
def spCn (Po : Addr) (d : Nat) : Sp := fun vs H Q _ => ∃ (b v : V) (css : List (List Int)) (t : T) (c : List Int), vs = [b, v] ∧ Bk H b css ∧ (∀ c ∈ css, IsCl c) ∧ At H t v ∧ t.depth ≤ d ∧ Cl css t c ∧ TabG H Po ∧ ∀ p H', Ke Nof H H' → H' p = some (.tup (c.map V.int)) → Q (.ref p) H'
theorem ok_cn {f fF fE fN fC Po : Addr} {fd fdF fdE fdN fdC : FuncData} (F : Fun K "claim_or_none" "claim_or_none" sCn f fd) (Z : Zt5 mg) (bS : Binds K fd ["book", "thing"] []) (gS : mg "claim_or_none" = some (.ref f))
    (FF : Fun K "is_fork" "is_fork" sFork fF fdF) (bF : Binds K fdF ["thing"] []) (gF : mg "is_fork" = some (.ref fF)) (GF : FnOk P w K mg base CX0 1 fF fdF ["thing"] spFork)
    (FE : Fun K "is_leaf" "is_leaf" sLeaf fE fdE) (bE : Binds K fdE ["thing"] []) (gE : mg "is_leaf" = some (.ref fE)) (GE : FnOk P w K mg base CX0 1 fE fdE ["thing"] spLeaf)
    (FN : Fun K "is_number_of" "is_number_of" sNum fN fdN) (bN : Binds K fdN ["thing", "many"] []) (gN : mg "is_number_of" = some (.ref fN)) (GN : FnOk P w K mg base CX0 2 fN fdN ["thing", "many"] spNum)
    (FC : Fun K "cut_or_none" "cut_or_none" sCon fC fdC) (bC : Binds K fdC ["one", "other", "k"] []) (gC : mg "cut_or_none" = some (.ref fC)) (GC : FnOk P w K mg base CX0 4 fC fdC ["one", "other", "k"] (spCon Po)) :
    ∀ d, FnOk P w K mg base CX0 (d + 5) f fd ["book", "thing"] (spCn Po d) := by
  have T := Z
  intro d
  induction d with
  | zero =>
    refine F.ok scCn (fun vs H Q E h => ?_) (fun cdv A outer s H vs Q E hr h => ?_)
    · obtain ⟨b, v, css, t, c, rfl, _⟩ := h
      rfl
    · obtain ⟨b, v, css, t, c, rfl, _, _, _, h0, _⟩ := h
      have := t.pos
      omega
  | succ d ih =>
    refine F.ok scCn (fun vs H Q E h => ?_) (fun cdv A outer s H vs Q E hr h => ?_)
    · obtain ⟨b, v, css, t, c, rfl, _⟩ := h
      rfl
    · obtain ⟨b, v, css, t, c, rfl, hb, ib, ht, hd, hc, tg, q⟩ := h
      have hr1 : Room 1 _ := hr.mono (by omega)
      have hr2 : Room 2 _ := hr.mono (by omega)
      have hr4 : Room 4 _ := hr.mono (by omega)
      have hrd : Room (d + 5) _ := hr
      refine ⟨_, (pss_cons (ps_if (pt_val (pe_call GE hr1 (by rfl) gE FE.kp bE .nil pass0 (pa_cons (pv 1) pa_nil))) (pss_one (ps_ret (pe_ifExp (pt_val (pe_call GN hr2 (by rfl) gN FN.kp bN .nil pass0 (pa_cons (pe_ix ix_tup (pv 1) pe_int (fun _ _ => rfl)) (pa_cons (pe_callB call_len_seq (by rfl) T.z_len (by decide +kernel) (pa_cons (pv 0) pa_nil)) pa_nil)))) (pe_ix ix_tup (pv 0) (pe_ix ix_tup (pv 1) pe_int (fun _ _ => rfl)) (fun _ _ => rfl)) pe_non))) pss_nil)
      (pss_cons (ps_if (pt_not (pt_val (pe_call GF hr1 (by rfl) gF FF.kp bF .nil pass0 (pa_cons (pv 1) pa_nil)))) pss_never pss_nil)
      (Evl.pss_cut (ps_set (i := 2) scCn.nd rfl (.inl rfl) (pe_call ih hrd (by rfl) gS F.kp bS .nil pass0 (pa_cons (pv 0) (pa_cons (pe_ix ix_tup (pv 1) pe_int (fun _ _ => rfl)) pa_nil))))
      (Evl.pss_cut (ps_set (i := 3) scCn.nd rfl (.inl rfl) (pe_call ih hrd (by rfl) gS F.kp bS .nil pass0 (pa_cons (pv 0) (pa_cons (pe_ix ix_tup (pv 1) pe_int (fun _ _ => rfl)) pa_nil))))
      (pss_cons (ps_if (PW.pt (pw_or (pt_cmpR op_isN (pv 2) pe_non (nomark _)) (pw_or1 (pt_cmpR op_isN (pv 3) pe_non (nomark _))))) pss_never pss_nil)
      (pss_one (ps_ret (pe_call GC hr4 (by rfl) gC FC.kp bC .nil pass0 (pa_cons (pv 2) (pa_cons (pv 3) (pa_cons (pe_ix ix_tup (pv 1) pe_int (fun _ _ => rfl)) pa_nil))))))))))), ?_⟩
      obtain ⟨ba, bvs, rfl, hbt, aB⟩ := bk_all hb
      refine ⟨_, rfl, v, t, rfl, ht, _, rfl, ?_⟩
      cases t with
      | leaf n =>
        obtain ⟨a, rfl, ha⟩ := id ht
        obtain ⟨x, hx, p, rfl, hp⟩ := aB.atR hc
        have ln := (List.getElem?_eq_some_iff.mp hx).1
        refine ⟨_, rfl, a, _, 1, .int (n : Nat), rfl, rfl, .of ha, rfl, _, rfl, ba, _, rfl, .inr (.of hbt), _, _, rfl, _, rfl, ?_⟩
        rw [decide_eq_true (by omega : (0 : Int) ≤ (n : Nat)), decide_eq_true (by omega : ((n : Nat) : Int) < (bvs.length : Nat))]
        refine ⟨_, rfl, _, rfl, a, _, 1, .int (n : Nat), rfl, rfl, .of ha, rfl, ba, bvs, _, .ref p, rfl, rfl, .of hbt, at_of (j := n) rfl hx, ?_⟩
        exact q p H (.refl _ _) hp
      | cut tl tr k0 =>
        obtain ⟨a, x, y, rfl, ha, h1, h2⟩ := id ht
        obtain ⟨cx, cy, hx, hy, cm⟩ := hc
        have dp : (Tr.T.cut tl tr k0).depth = 1 + max tl.depth tr.depth := rfl
        have ix := hx.isCl ib
        have iy := hy.isCl ib
        have lx := ix.len
        have ly := iy.len
        refine ⟨_, rfl, .ref a, .cut tl tr k0, rfl, ht, _, rfl, ?_⟩
        refine Evl.q_cut (M := fun σ' H' => ∃ p1 : Addr, σ' = [some (.ref ba), some (.ref a), some (.ref p1), none] ∧ Ke Nof H H' ∧ H' p1 = some (.tup (cx.map V.int))) ?_ ?_
        · exact ⟨_, rfl, _, rfl, a, _, 1, x, rfl, rfl, .of ha, rfl, .ref ba, x, css, tl, cx, rfl, hb, ib, h1, by omega, hx, tg, fun p H1 k1 hp => ⟨p, rfl, k1, hp⟩⟩
        rintro σ' H1 ⟨p1, rfl, k1, hp1⟩
        refine Evl.q_cut (M := fun σ' H' => ∃ p2 : Addr, σ' = [some (.ref ba), some (.ref a), some (.ref p1), some (.ref p2)] ∧ Ke Nof H H' ∧ H' p1 = some (.tup (cx.map V.int)) ∧ H' p2 = some (.tup (cy.map V.int))) ?_ ?_
        · exact ⟨_, rfl, _, rfl, a, _, 2, y, rfl, rfl, .of (k1.tups _ _ ha), rfl, .ref ba, y, css, tr, cy, rfl, hb.ke k1, ib, h2.ke k1, by omega, hy, k1.tabs _ tg, fun p H2 k2 hp => ⟨p, rfl, k1.trans k2, k2.tups _ _ hp1, hp⟩⟩
        clear hp1
        rintro σ' H2 ⟨p2, rfl, k2, hp1, hp2⟩
        refine ⟨_, rfl, rfl, false, rfl, ?_⟩
        refine ⟨_, rfl, rfl, false, rfl, ?_⟩
        refine ⟨_, rfl, _, rfl, _, rfl, a, _, 3, .int k0, rfl, rfl, .of (k2.tups _ _ ha), rfl, .ref p1, .ref p2, k0, cx, cy, rfl, ⟨p1, rfl, hp1⟩, ⟨p2, rfl, hp2⟩, by omega, by omega, k2.tabs _ tg, fun H3 k3 no => ?_, fun ns p H3 k3 m o up me hp => ?_⟩
        · exact (cm.no (nocome_of ix iy no)).elim
        · obtain rfl := cm.one (comes_of ix iy m o up me)
          exact q p H3 (k2.trans k3) hp
abbrev sIst : Stmt := topS 36
theorem scIst : FnScope ["book", "thing"] ["book", "thing"] (defScope sIst) := ⟨rfl, rfl, rfl, by decide +kernel, rfl, by decide +kernel, by decide +kernel⟩
def spIst (Po : Addr) : Sp := fun vs H Q _ => ∃ (b v : V) (css : List (List Int)) (t : T) (c : List Int), vs = [b, v] ∧ Bk H b css ∧ (∀ c ∈ css, IsCl c) ∧ At H t v ∧ t.depth ≤ 40 ∧ t.pieces ≤ 360 ∧ Cl css t c ∧ TabG H Po ∧ ∀ H', Ke Nof H H' → Q (.bl true) H'
theorem ok_ist {f fS fC Po : Addr} {fd fdS fdC : FuncData} (F : Fun K "is_tree" "is_tree" sIst f fd) (FS : Fun K "has_size_of_tree" "has_size_of_tree" sSize fS fdS) (bS : Binds K fdS ["thing"] []) (gS : mg "has_size_of_tree" = some (.ref fS)) (GS : FnOk P w K mg base CX0 2 fS fdS ["thing"] spSize)
    (FC : Fun K "claim_or_none" "claim_or_none" sCn fC fdC) (bC : Binds K fdC ["book", "thing"] []) (gC : mg "claim_or_none" = some (.ref fC)) (GC : FnOk P w K mg base CX0 45 fC fdC ["book", "thing"] (spCn Po 40)) :
    FnOk P w K mg base CX0 46 f fd ["book", "thing"] (spIst Po) := by
  refine F.ok scIst (fun vs H Q E h => ?_) (fun cdv A outer s H vs Q E hr h => ?_)
  · obtain ⟨b, v, css, t, c, rfl, _⟩ := h
    rfl
  · obtain ⟨b, v, css, t, c, rfl, hb, ib, ht, hd, hp, hc, tg, q⟩ := h
    have hr2 : Room 2 _ := hr.mono (by omega)
    have hrd : Room 45 _ := hr
    refine ⟨_, (pss_one (ps_ret (pe_and (pe_call GS hr2 (by rfl) gS FS.kp bS .nil pass0 (pa_cons (pv 1) pa_nil)) (pe_one (pe_cmpR op_notN (pe_call GC hrd (by rfl) gC FC.kp bC .nil pass0 (pa_cons (pv 0) (pa_cons (pv 1) pa_nil))) pe_non (nomark _)))))), ?_⟩
    refine ⟨_, rfl, v, t, rfl, ht, hp, hd, fun H1 k1 => ⟨true, rfl, ?_⟩⟩
    exact ⟨_, rfl, _, rfl, b, v, css, t, c, rfl, hb.ke k1, ib, ht.ke k1, hd, hc, k1.tabs _ tg, fun p H2 k2 hp2 => ⟨rfl, q H2 (k1.trans k2)⟩⟩
abbrev sCot : Stmt := topS 37
theorem scCot : FnScope ["book", "tree"] ["book", "tree"] (defScope sCot) := ⟨rfl, rfl, rfl, by decide +kernel, rfl, by decide +kernel, by decide +kernel⟩
theorem ok_cot {f fC Po : Addr} {fd fdC : FuncData} (F : Fun K "claim_of_tree" "claim_of_tree" sCot f fd) (FC : Fun K "claim_or_none" "claim_or_none" sCn fC fdC) (bC : Binds K fdC ["book", "thing"] []) (gC : mg "claim_or_none" = some (.ref fC)) (GC : FnOk P w K mg base CX0 45 fC fdC ["book", "thing"] (spCn Po 40)) :
    FnOk P w K mg base CX0 46 f fd ["book", "tree"] (spCn Po 40) := by
  refine F.ok scCot (fun vs H Q E h => ?_) (fun cdv A outer s H vs Q E hr h => ?_)
  · obtain ⟨b, v, css, t, c, rfl, _⟩ := h
    rfl
  · have hrd : Room 45 _ := hr
    obtain ⟨b, v, css, t, c, rfl, h⟩ := h
    refine ⟨_, (pss_one (ps_ret (pe_call GC hrd (by rfl) gC FC.kp bC .nil pass0 (pa_cons (pv 0) (pa_cons (pv 1) pa_nil))))), ?_⟩
    exact ⟨_, rfl, _, rfl, b, v, css, t, c, rfl, h⟩
abbrev sCts : Stmt := topS 38
theorem scCts : FnScope ["tree"] ["tree"] (defScope sCts) := ⟨rfl, rfl, rfl, by decide +kernel, rfl, by decide +kernel, by decide +kernel⟩
def spCts (d : Nat) : Sp := fun vs H Q _ => ∃ (v : V) (t : T), vs = [v] ∧ At H t v ∧ t.depth ≤ d ∧ Q (.int (t.cuts : Nat)) H
theorem ok_cts {f : Addr} {fd : FuncData} (F : Fun K "cuts_of_tree" "cuts_of_tree" sCts f fd) (bS : Binds K fd ["tree"] []) (gS : mg "cuts_of_tree" = some (.ref f)) : ∀ d, FnOk P w K mg base CX0 (d + 1) f fd ["tree"] (spCts d) := by
  intro d
  induction d with
  | zero =>
    refine F.ok scCts (fun vs H Q E h => ?_) (fun cdv A outer s H vs Q E hr h => ?_)
    · obtain ⟨v, t, rfl, _⟩ := h
      rfl
    · obtain ⟨v, t, rfl, _, h0, _⟩ := h
      have := t.pos
      omega
  | succ d ih =>
    refine F.ok scCts (fun vs H Q E h => ?_) (fun cdv A outer s H vs Q E hr h => ?_)
    · obtain ⟨v, t, rfl, _⟩ := h
      rfl
    · obtain ⟨v, t, rfl, ht, hd, q⟩ := h
      have hrd : Room (d + 1) _ := hr
      refine ⟨_, (pss_cons (ps_if (pt_cmpR op_eq (pe_ix ix_tup (pv 0) pe_int (fun _ _ => rfl)) pe_str (nomark _)) (pss_one (ps_ret pe_int)) pss_nil)
      (pss_one (ps_ret (pe_op op_add (pe_op op_add pe_int (pe_call ih hrd (by rfl) gS F.kp bS .nil pass0 (pa_cons (pe_ix ix_tup (pv 0) pe_int (fun _ _ => rfl)) pa_nil))) (pe_call ih hrd (by rfl) gS F.kp bS .nil pass0 (pa_cons (pe_ix ix_tup (pv 0) pe_int (fun _ _ => rfl)) pa_nil)))))), ?_⟩
      cases t with
      | leaf n =>
        obtain ⟨a, rfl, ha⟩ := id ht
        exact ⟨_, rfl, a, _, 0, .str "book", rfl, rfl, .of ha, rfl, rfl, true, by simp, q⟩
      | cut tl tr k0 =>
        obtain ⟨a, x, y, rfl, ha, h1, h2⟩ := id ht
        have dp : (Tr.T.cut tl tr k0).depth = 1 + max tl.depth tr.depth := rfl
        refine ⟨_, rfl, a, _, 0, .str "cut", rfl, rfl, .of ha, rfl, rfl, false, by simp; decide, ?_⟩
        refine ⟨_, rfl, a, _, 1, x, rfl, rfl, .of ha, rfl, x, tl, rfl, h1, by omega, _, _, rfl, rfl, ?_⟩
        refine ⟨_, rfl, a, _, 2, y, rfl, rfl, .of ha, rfl, y, tr, rfl, h2, by omega, _, _, rfl, rfl, ?_⟩
        have e : (((T.cut tl tr k0).cuts : Nat) : Int) = 1 + (tl.cuts : Int) + (tr.cuts : Int) := by
          show ((1 + tl.cuts + tr.cuts : Nat) : Int) = _
          omega
        rw [e] at q
        exact q
abbrev sPcs : Stmt := topS 39
theorem scPcs : FnScope ["tree"] ["tree"] (defScope sPcs) := ⟨rfl, rfl, rfl, by decide +kernel, rfl, by decide +kernel, by decide +kernel⟩
def spPcs (d : Nat) : Sp := fun vs H Q _ => ∃ (v : V) (t : T), vs = [v] ∧ At H t v ∧ t.depth ≤ d ∧ Q (.int (t.pieces : Nat)) H
theorem ok_pcs {f : Addr} {fd : FuncData} (F : Fun K "how_many_pieces" "how_many_pieces" sPcs f fd) (bS : Binds K fd ["tree"] []) (gS : mg "how_many_pieces" = some (.ref f)) : ∀ d, FnOk P w K mg base CX0 (d + 1) f fd ["tree"] (spPcs d) := by
  intro d
  induction d with
  | zero =>
    refine F.ok scPcs (fun vs H Q E h => ?_) (fun cdv A outer s H vs Q E hr h => ?_)
    · obtain ⟨v, t, rfl, _⟩ := h
      rfl
    · obtain ⟨v, t, rfl, _, h0, _⟩ := h
      have := t.pos
      omega
  | succ d ih =>
    refine F.ok scPcs (fun vs H Q E h => ?_) (fun cdv A outer s H vs Q E hr h => ?_)
    · obtain ⟨v, t, rfl, _⟩ := h
      rfl
    · obtain ⟨v, t, rfl, ht, hd, q⟩ := h
      have hrd : Room (d + 1) _ := hr
      refine ⟨_, (pss_cons (ps_if (pt_cmpR op_eq (pe_ix ix_tup (pv 0) pe_int (fun _ _ => rfl)) pe_str (nomark _)) (pss_one (ps_ret pe_int)) pss_nil)
      (pss_one (ps_ret (pe_op op_add (pe_op op_add pe_int (pe_call ih hrd (by rfl) gS F.kp bS .nil pass0 (pa_cons (pe_ix ix_tup (pv 0) pe_int (fun _ _ => rfl)) pa_nil))) (pe_call ih hrd (by rfl) gS F.kp bS .nil pass0 (pa_cons (pe_ix ix_tup (pv 0) pe_int (fun _ _ => rfl)) pa_nil)))))), ?_⟩
      cases t with
      | leaf n =>
        obtain ⟨a, rfl, ha⟩ := id ht
        exact ⟨_, rfl, a, _, 0, .str "book", rfl, rfl, .of ha, rfl, rfl, true, by simp, q⟩
      | cut tl tr k0 =>
        obtain ⟨a, x, y, rfl, ha, h1, h2⟩ := id ht
        have dp : (Tr.T.cut tl tr k0).depth = 1 + max tl.depth tr.depth := rfl
        refine ⟨_, rfl, a, _, 0, .str "cut", rfl, rfl, .of ha, rfl, rfl, false, by simp; decide, ?_⟩
        refine ⟨_, rfl, a, _, 1, x, rfl, rfl, .of ha, rfl, x, tl, rfl, h1, by omega, _, _, rfl, rfl, ?_⟩
        refine ⟨_, rfl, a, _, 2, y, rfl, rfl, .of ha, rfl, y, tr, rfl, h2, by omega, _, _, rfl, rfl, ?_⟩
        have e : (((T.cut tl tr k0).pieces : Nat) : Int) = 1 + (tl.pieces : Int) + (tr.pieces : Int) := by
          show ((1 + tl.pieces + tr.pieces : Nat) : Int) = _
          omega
        rw [e] at q
        exact q
end
end Tp
namespace Tl
open PySem PySem.Spec PyProof.Rows L2 GxR Nw Dr Kp Se Cl Ct Lr Lp Tr
structure Zv (mg : Str → Option Value) : Prop where
  z_len : mg "len" = none
  z_range : mg "range" = none
  z_tuple : mg "tuple" = none
  z_sorted : mg "sorted" = none
  z_zip : mg "zip" = none
/-- a tree and its claim -/
def TC (H : Hp) (v : V) (tc : T × List Int) : Prop := ∃ p x y, v = .ref p ∧ H p = some (.tup [x, y]) ∧ At H tc.1 x ∧ TupI H y tc.2
theorem TC.ke {F : Addr → Prop} {H H' : Hp} {v : V} {tc : T × List Int} (h : TC H v tc) (k : Ke F H H') : TC H' v tc := by
  obtain ⟨p, x, y, e, h1, h2, h3⟩ := h
  exact ⟨p, x, y, e, k.tups _ _ h1, h2.ke k, h3.ke k⟩
theorem TC.wr {H : Hp} {D : Addr} {ys : List V} {o : HO} {v : V} {tc : T × List Int} (h : TC H v tc) (hD : H D = some (.lst ys)) : TC (upd H D o) v tc := by
  obtain ⟨p, x, y, e, h1, h2, h3⟩ := h
  refine ⟨p, x, y, e, ?_, h2.wr hD, TupI.wr h3 hD⟩
  rw [upd_ne (fun z => by rw [z, hD] at h1; cases h1)]
  exact h1
/-- a list of ours is written -/
theorem keD {H H1 : Hp} {D : Addr} {xs : List V} {o : HO} (k : Ke (· = D) H H1) (h1 : H1 D = some (.lst xs)) : Ke (· = D) H (upd H1 D o) := by
  refine ⟨fun b x e t m => ?_, fun Q hQ => ?_, fun b ys e => ?_⟩
  · rw [upd_ne m]
    exact k.keep b x e t m
  · obtain ⟨qs, e2, t2⟩ := k.tabs Q hQ
    exact ⟨qs, by rw [upd_ne (fun z => by rw [z, h1] at e2; cases e2)]; exact e2, t2⟩
  · have e2 := k.tups b ys e
    rw [upd_ne (fun z => by rw [z, h1] at e2; cases e2)]
    exact e2
theorem keH {H H1 H2 : Hp} {D : Addr} (a : Ke Nof H H1) (b : Ke (· = D) H1 H2) (n : H D = none) : Ke Nof H H2 :=
  ⟨fun x o e t m => b.keep x o (a.keep x o e t m) t (fun z => by rw [z, n] at e; cases e), fun Q h => b.tabs Q (a.tabs Q h), fun x xs e => b.tups x xs (a.tups x xs e)⟩
/-- a tree as data -/
def dat : T → PyData
  | .leaf n => .tuple [.str "book", .int (n : Nat)]
  | .cut t u k => .tuple [.str "cut", dat t, dat u, .int k]
theorem dp_tree {K : PySem.W.Frag} {H : Hp} : ∀ {t : T} {v : V}, At H t v → Dp K H v (dat t)
  | .leaf n, v, h => by
    obtain ⟨a, rfl, h⟩ := h
    exact .tup (.of h) (.cons (.str _) (.cons (.int _) .nil))
  | .cut t u k, v, h => by
    obtain ⟨a, x, y, rfl, h, h1, h2⟩ := h
    exact .tup (.of h) (.cons (.str _) (.cons (dp_tree h1) (.cons (dp_tree h2) (.cons (.int _) .nil))))
theorem ltree : ∀ t : T, PyData.canLay0 (dat t) = true ∧ PyData.depth (dat t) ≤ t.depth
  | .leaf n => by
    have b1 : PyData.strOk "book" = true := by decide +kernel
    exact ⟨by simp [dat, PyData.canLay0, PyData.canLayAll0, b1], by simp [dat, PyData.depth, PyData.depthAll, T.depth]⟩
  | .cut t u k => by
    have b1 : PyData.strOk "cut" = true := by decide +kernel
    obtain ⟨h1, h2⟩ := ltree t
    obtain ⟨h3, h4⟩ := ltree u
    refine ⟨by simp [dat, PyData.canLay0, PyData.canLayAll0, b1, h1, h3], ?_⟩
    simp [dat, PyData.depth, PyData.depthAll, T.depth]
    omega
def tdat (tc : T × List Int) : PyData := .tuple [dat tc.1, .tuple (tc.2.map PyData.int)]
theorem dp_tcs {K : PySem.W.Frag} {H : Hp} : ∀ {vs : List V} {ms : List (T × List Int)}, All2 (TC H) vs ms → DpAll K H vs (ms.map tdat)
  | [], [], _ => .nil
  | [], r :: t, h => by cases h.1
  | v :: t, [], h => by cases h.1
  | v :: t, m :: u, h => by
    obtain ⟨p, x, y, rfl, hp, h1, q, rfl, hq⟩ := h.2 0 v m rfl rfl
    exact .cons (.tup (.of hp) (.cons (dp_tree h1) (.cons (.tup (.of hq) (dp_ints m.2)) .nil))) (dp_tcs ⟨by have := h.1; simp only [List.length_cons] at this; omega, fun i x y h1 h2 => h.2 (i + 1) x y h1 h2⟩)
theorem lay_tcs : ∀ ms : List (T × List Int), (∀ m ∈ ms, m.1.depth ≤ 45) → PyData.canLayAll0 (ms.map tdat) = true ∧ PyData.depthAll (ms.map tdat) ≤ 47
  | [], _ => ⟨rfl, by decide⟩
  | m :: r, h => by
    obtain ⟨h1, h2⟩ := lay_tcs r fun x hx => h x (List.mem_cons_of_mem _ hx)
    obtain ⟨h3, h4⟩ := ltree m.1
    have h5 := h m List.mem_cons_self
    have h6 : PyData.canLayAll0 (m.2.map PyData.int) = true := flat_lay _ (flat_ints m.2)
    have h7 := flat_depth _ (flat_ints m.2)
    refine ⟨?_, ?_⟩
    · show (PyData.canLay0 (tdat m) && PyData.canLayAll0 (r.map tdat)) = true
      rw [h1]
      simp [tdat, PyData.canLay0, PyData.canLayAll0, h3, h6]
    · show Nat.max (PyData.depth (tdat m)) (PyData.depthAll (r.map tdat)) ≤ 47
      refine Nat.max_le.mpr ⟨?_, h2⟩
      simp [tdat, PyData.depth, PyData.depthAll]
      omega
theorem shaped_tcs {ms : List (T × List Int)} (h : ∀ m ∈ ms, m.1.depth ≤ 45) : SeqAt.shaped (.list (ms.map tdat)) = true := by
  obtain ⟨h1, h2⟩ := lay_tcs ms h
  show (PyData.canLayAll0 (ms.map tdat) && decide (PyData.depthAll (ms.map tdat) + 1 ≤ 64)) = true
  rw [h1, decide_eq_true (by omega)]
  rfl
theorem not_f {H : Hp} {p f c : Addr} {B : Nat} (h : Frs H p) (F : Feed H f c B) : p ≠ f ∧ p ≠ c := by
  obtain ⟨_, _, _, h1, h2, _⟩ := F
  exact ⟨Ne.symm (h f _ h1 fun ps z => by cases z), Ne.symm (h c _ h2 fun ps z => by cases z)⟩
section
variable {P : Program} {w : World} {K : PySem.W.Frag} {mg : Str → Option Value} {base : Heap}
abbrev sStt : Stmt := topS 79
abbrev nStt : List Str := ["feed", "book", "deep", "number", "one", "other", "made", "first", "second", "k", "claim"]
theorem scStt : FnScope nStt ["feed", "book", "deep"] (defScope sStt) := ⟨rfl, rfl, rfl, by decide +kernel, rfl, by decide +kernel, by decide +kernel⟩
/-- a drawn tree -/
def spStt (d : Nat) : Sp := fun vs H Q _ => ∃ (f c : Addr) (b : V) (n B : Nat) (css : List (List Int)), vs = [.ref f, b, .int (n : Nat)] ∧ n < d ∧ d ≤ 10 ∧ Bk H b css ∧ (∀ c ∈ css, IsCl c) ∧ 1 ≤ css.length ∧ css.length ≤ 100 ∧ Feed H f c B ∧ B + 4 ^ (n + 1) ≤ 2 ^ 50 ∧
  ∀ (v : V) (t : T) (ct : List Int) (H' : Hp), Feed H' f c (B + 4 ^ (n + 1)) → Ke (· = f) H H' → TC H' v (t, ct) → Cl css t ct → t.depth ≤ n + 1 → t.pieces + 1 ≤ 2 ^ (n + 1) → Q v H'
theorem pow_le {a b : Nat} (h : a ≤ b) : 4 ^ a ≤ 4 ^ b ∧ 2 ^ a ≤ 2 ^ b := ⟨Nat.pow_le_pow_right (by decide) h, Nat.pow_le_pow_right (by decide) h⟩
theorem ok_stt {f fD fC : Addr} {fd fdD fdC : FuncData} (F : Fun K "_law_stree" "_law_stree" sStt f fd) (T : Zv mg) (bS : Binds K fd ["feed", "book", "deep"] []) (gS : mg "_law_stree" = some (.ref f)) (FD : Fun K "_law_sdraw" "_law_sdraw" sDrw fD fdD) (bD : Binds K fdD ["feed", "many"] []) (gD : mg "_law_sdraw" = some (.ref fD)) (GD : FnOk P w K mg base CX0 2 fD fdD ["feed", "many"] spDrw)
    (FC : Fun K "_law_scut" "_law_scut" sSct fC fdC) (bC : Binds K fdC ["one", "other", "k"] []) (gC : mg "_law_scut" = some (.ref fC)) (GC : FnOk P w K mg base CX0 1 fC fdC ["one", "other", "k"] spSct) :
    ∀ d, FnOk P w K mg base CX0 (d + 3) f fd ["feed", "book", "deep"] (spStt d) := by
  intro d
  induction d with
  | zero =>
    refine F.ok scStt (fun vs H Q E h => ?_) (fun cdv A outer s H vs Q E hr h => ?_)
    · obtain ⟨f, c, b, n, B, css, rfl, _⟩ := h
      rfl
    · obtain ⟨f, c, b, n, B, css, rfl, h0, _⟩ := h
      omega
  | succ d ih =>
    refine F.ok scStt (fun vs H Q E h => ?_) (fun cdv A outer s H vs Q E hr h => ?_)
    · obtain ⟨f, c, b, n, B, css, rfl, _⟩ := h
      rfl
    · obtain ⟨f, c, b, n, B, css, rfl, nd, d10, hb, ib, l1, l2, hF, hB, q⟩ := h
      have hr1 : Room 1 _ := hr.mono (by omega)
      have hr2 : Room 2 _ := hr.mono (by omega)
      have hrd : Room (d + 3) _ := hr
      refine ⟨_, (Evl.pss_cut (ps_if (PW.pt (pw_or (pt_cmpR op_eq (pv 2) pe_int (nomark _)) (pw_or1 (pt_cmpR op_eq (pe_call GD hr2 (by rfl) gD FD.kp bD .nil pass0 (pa_cons (pv 0) (pa_cons pe_int pa_nil))) pe_int (nomark _))))) (Evl.pss_cut (ps_set (i := 3) scStt.nd rfl (.inl rfl) (pe_call GD hr2 (by rfl) gD FD.kp bD .nil pass0 (pa_cons (pv 0) (pa_cons (pe_callB call_len_seq (by rfl) T.z_len (by decide +kernel) (pa_cons (pv 1) pa_nil)) pa_nil))))
      (pss_one (ps_ret (pe_tupN (pa_cons (pe_tupN (pa_cons pe_str (pa_cons (pv 3) pa_nil))) (pa_cons (pe_ix ix_tup (pv 1) (pv 3) (fun _ _ => rfl)) pa_nil)))))) pss_nil)
      (Evl.pss_cut (ps_set (i := 4) scStt.nd rfl (.inl rfl) (pe_call ih hrd (by rfl) gS F.kp bS .nil pass0 (pa_cons (pv 0) (pa_cons (pv 1) (pa_cons (pe_op op_sub (pv 2) pe_int) pa_nil)))))
      (Evl.pss_cut (ps_set (i := 5) scStt.nd rfl (.inl rfl) (pe_call ih hrd (by rfl) gS F.kp bS .nil pass0 (pa_cons (pv 0) (pa_cons (pv 1) (pa_cons (pe_op op_sub (pe_op op_sub (pv 2) pe_int) (pe_call GD hr2 (by rfl) gD FD.kp bD .nil pass0 (pa_cons (pv 0) (pa_cons (pv 2) pa_nil)))) pa_nil)))))
      (Evl.pss_cut (ps_set (i := 6) scStt.nd rfl (.inl rfl) (pe_lstN pa_nil))
      (Evl.pss_cut (ps_for PassesOwn.never rfl (pi_tup (pe_tupN (pa_cons (pe_tupN (pa_cons (pv 4) (pa_cons (pv 5) pa_nil))) (pa_cons (pe_tupN (pa_cons (pv 5) (pa_cons (pv 4) pa_nil))) pa_nil)))) (pg_tup rfl (pgs_cons (pg_name (i := 7) scStt.nd rfl (.inl rfl)) (pgs_cons (pg_name (i := 8) scStt.nd rfl (.inl rfl)) pgs_nil))) (pss_one (ps_for PassesOwn.never rfl (pi_range2 (by rfl) T.z_range (pa_cons pe_int (pa_cons pe_int pa_nil))) (pg_name (i := 9) scStt.nd rfl (.inl rfl)) (pss_cons (ps_set (i := 10) scStt.nd rfl (.inl rfl) (pe_call GC hr1 (by rfl) gC FC.kp bC .nil pass0 (pa_cons (pe_ix ix_tup (pv 7) pe_int (fun _ _ => rfl)) (pa_cons (pe_ix ix_tup (pv 8) pe_int (fun _ _ => rfl)) (pa_cons (pv 9) pa_nil)))))
      (pss_one (ps_if (pt_cmpR op_notN (pv 10) pe_non (nomark _)) (pss_one (ps_expr (pe_bm PySem.F.plainAttrs_list PySem.F.slot_list_append PySem.F.type_list_append mt_append (pv 6) (pa_cons (pe_tupN (pa_cons (pe_tupN (pa_cons pe_str (pa_cons (pe_ix ix_tup (pv 7) pe_int (fun _ _ => rfl)) (pa_cons (pe_ix ix_tup (pv 8) pe_int (fun _ _ => rfl)) (pa_cons (pv 9) pa_nil))))) (pa_cons (pv 10) pa_nil))) pa_nil)))) pss_nil))))))
      (pss_cons (ps_if (pt_cmpR (op_eqD hr.units) (pv 6) (pe_lstN pa_nil) (nomark _)) (pss_one (ps_ret (pe_ix ix_list (pe_lstN (pa_cons (pv 4) (pa_cons (pv 5) pa_nil))) (pe_call GD hr2 (by rfl) gD FD.kp bD .nil pass0 (pa_cons (pv 0) (pa_cons pe_int pa_nil))) (fun _ _ => rfl)))) pss_nil)
      (pss_one (ps_ret (pe_ix ix_list (pv 6) (pe_call GD hr2 (by rfl) gD FD.kp bD .nil pass0 (pa_cons (pv 0) (pa_cons (pe_callB call_len_seq (by rfl) T.z_len (by decide +kernel) (pa_cons (pv 6) pa_nil)) pa_nil))) (fun _ _ => rfl)))))))))), ?_⟩
      obtain ⟨ba, bvs, rfl, hbt, aB⟩ := bk_all hb
      have lb := aB.1
      have n10 : n ≤ 9 := by omega
      have p4 := (pow_le (show n + 1 ≤ 10 by omega)).1
      have big : 4 ^ (n + 1) ≤ 1048576 := p4
      refine Evl.q_cut (M := fun σ' H' => σ' = [some (.ref f), some (.ref ba), some (.int (n : Nat)), none, none, none, none, none, none, none, none] ∧ 1 ≤ n ∧ Feed H' f c (B + 1) ∧ Ke (· = f) H H') ?_ ?_
      · have fin : ∀ (H1 : Hp) (B1 : Nat), Feed H1 f c B1 → B1 ≤ B + 1 → B1 + 1 ≤ B + 4 ^ (n + 1) → Ke (· = f) H H1 → Evl.tCut (tAsg (tCall spDrw [] E0 (tCons (tVar 0) (tCons (tCB (fun xs H Q => ∃ p ys, xs = [V.ref p] ∧ (SqL K H p ys ∨ SqT K H p ys) ∧ Q (V.int (ys.length : Nat)) H) (tCons (tVar 1) tNil)) tNil))) (gName 3)) (tRet (nTup (tCons (nTup (tCons (tC (V.str "book")) (tCons (tVar 3) tNil))) (tCons (tOp (rIxT K) (tVar 1) (tVar 3)) tNil)))) { nx := fun σ' H' => σ' = [some (.ref f), some (.ref ba), some (.int (n : Nat)), none, none, none, none, none, none, none, none] ∧ 1 ≤ n ∧ Feed H' f c (B + 1) ∧ Ke (· = f) H H', rt := Q } [some (.ref f), some (.ref ba), some (.int (n : Nat)), none, none, none, none, none, none, none, none] H1 := fun H1 B1 F1 b1 b2 k1 => by
          refine Evl.q_cut (M := fun σ' H' => ∃ m : Nat, σ' = [some (.ref f), some (.ref ba), some (.int (n : Nat)), some (.int (m : Nat)), none, none, none, none, none, none, none] ∧ m < css.length ∧ Feed H' f c (B1 + 1) ∧ Ke (· = f) H H') ?_ ?_
          · refine ⟨_, rfl, _, rfl, ba, _, rfl, .inr (.of (k1.tups _ _ hbt)), f, c, _, _, rfl, by omega, by omega, F1, by omega, fun d H2 d0 d1 F2 b2 => ?_⟩
            refine ⟨d.toNat, ?_, by omega, F2, k1.trans (.but F1 b2)⟩
            rw [Int.toNat_of_nonneg d0]
            rfl
          rintro σ' H2 ⟨m, rfl, lm, F2, k2⟩
          refine ⟨_, rfl, by show 2 ≤ sizeLine; decide, fun p1 H3 np1 s3 hp1 _ => ?_⟩
          have lmb : m < bvs.length := by omega
          obtain ⟨cm, hcm, p, e, hp⟩ := aB.at (List.getElem?_eq_getElem lmb)
          have k3 : Ke (· = f) H H3 := k2.trans (.same s3)
          refine ⟨_, rfl, _, rfl, ba, bvs, _, bvs[m], rfl, rfl, .of (k3.tups _ _ hbt), at_of (j := m) rfl (List.getElem?_eq_getElem lmb), ?_⟩
          refine ⟨by show 2 ≤ sizeLine; decide, fun p2 H4 np2 s4 hp2 _ => ?_⟩
          have k4 : Ke (· = f) H H4 := k3.trans (.same s4)
          refine q (.ref p2) (.leaf m) cm H4 ((F2.same (s3.trans s4)).mono (by omega)) k4 ⟨p2, _, _, rfl, hp2, ⟨p1, rfl, s4 _ _ hp1⟩, ?_⟩ hcm (by show 1 ≤ n + 1; omega) ?_
          · rw [e]
            exact ⟨p, rfl, k4.tups _ _ hp⟩
          · have := (pow_le (show 1 ≤ n + 1 by omega)).2
            show 1 + 1 ≤ _
            omega
        have f4 := (pow_le (show 1 ≤ n + 1 by omega)).1
        refine ⟨_, rfl, rfl, _, rfl, ite2 (fun y => ?_) (fun y => ?_)⟩
        · exact fin H B hF (by omega) (by omega) (.refl _ _)
        · have n1 : 1 ≤ n := by
            by_cases z : n = 0
            · subst z
              exact absurd (decide_eq_true rfl) y
            · omega
          have f5 := (pow_le (show 2 ≤ n + 1 by omega)).1
          refine ⟨_, rfl, f, c, 6, _, rfl, by decide, by decide, hF, by omega, fun d H1 d0 d1 F1 b1 => ⟨rfl, _, rfl, ite2 (fun y => ?_) (fun y => ?_)⟩⟩
          · exact fin H1 (B + 1) F1 (by omega) (by omega) (.but hF b1)
          · exact ⟨rfl, n1, F1, .but hF b1⟩
      rintro σ' H1 ⟨rfl, n1, F1, k1⟩
      obtain ⟨n', rfl⟩ : ∃ n', n = n' + 1 := ⟨n - 1, by omega⟩
      have e4 : 4 ^ (n' + 1 + 1) = 4 * 4 ^ (n' + 1) := by rw [Nat.pow_succ]; omega
      have e2 : 2 ^ (n' + 1 + 1) = 2 * 2 ^ (n' + 1) := by rw [Nat.pow_succ]; omega
      have f4 := (pow_le (show 1 ≤ n' + 1 by omega)).1
      -- one
      refine Evl.q_cut (M := fun σ' H' => ∃ (v1 : V) (t1 : Tr.T) (c1 : List Int), σ' = [some (.ref f), some (.ref ba), some (.int ((n' + 1 : Nat) : Int)), none, some v1, none, none, none, none, none, none] ∧ Feed H' f c (B + 1 + 4 ^ (n' + 1)) ∧ Ke (· = f) H H' ∧ TC H' v1 (t1, c1) ∧ Tr.Cl css t1 c1 ∧ t1.depth ≤ n' + 1 ∧ t1.pieces + 1 ≤ 2 ^ (n' + 1)) ?_ ?_
      · refine ⟨_, rfl, _, rfl, _, rfl, _, _, rfl, rfl, f, c, .ref ba, n', _, css, ?_, by omega, by omega, hb.ke k1, ib, l1, l2, F1, by omega, fun v t ct H2 F2 k2 tc cl dp pc => ?_⟩
        · show [V.ref f, V.ref ba, V.int (((n' + 1 : Nat) : Int) - 1)] = _
          rw [show ((n' + 1 : Nat) : Int) - 1 = (n' : Int) by omega]
        · exact ⟨v, t, ct, rfl, F2, k1.trans k2, tc, cl, dp, pc⟩
      rintro σ' H2 ⟨v1, t1, c1, rfl, F2, k2, tc1, cl1, dp1, pc1⟩
      -- other
      refine Evl.q_cut (M := fun σ' H' => ∃ (v2 : V) (t2 : Tr.T) (c2 : List Int), σ' = [some (.ref f), some (.ref ba), some (.int ((n' + 1 : Nat) : Int)), none, some v1, some v2, none, none, none, none, none] ∧ Feed H' f c (B + 2 + 4 ^ (n' + 1) + 4 ^ (n' + 1)) ∧ Ke (· = f) H H' ∧ TC H' v1 (t1, c1) ∧ TC H' v2 (t2, c2) ∧ Tr.Cl css t2 c2 ∧ t2.depth ≤ n' + 1 ∧ t2.pieces + 1 ≤ 2 ^ (n' + 1)) ?_ ?_
      · refine ⟨_, rfl, _, rfl, _, rfl, _, _, rfl, rfl, _, rfl, _, rfl, f, c, _, _, rfl, by omega, by omega, F2, by omega, fun d H3 d0 d1 F3 b3 => ?_⟩
        have k3 : Ke (· = f) H2 H3 := .but F2 b3
        have k03 := k2.trans k3
        have d1 : d < ((n' + 1 : Nat) : Int) := d1
        have g := pow_le (show n' - d.toNat + 1 ≤ n' + 1 by omega)
        refine ⟨_, _, rfl, rfl, f, c, .ref ba, n' - d.toNat, _, css, ?_, by omega, by omega, hb.ke k03, ib, l1, l2, F3, by omega, fun v t ct H4 F4 k4 tc cl dp pc => ?_⟩
        · show [V.ref f, V.ref ba, V.int (((n' + 1 : Nat) : Int) - 1 - d)] = _
          rw [show ((n' + 1 : Nat) : Int) - 1 - d = ((n' - d.toNat : Nat) : Int) by omega]
        · exact ⟨v, t, ct, rfl, F4.mono (by omega), k03.trans k4, (tc1.ke k3).ke k4, tc, cl, by omega, by omega⟩
      clear tc1
      rintro σ' H3 ⟨v2, t2, c2, rfl, F3, k3, tc1, tc2, cl2, dp2, pc2⟩
      have i1 := cl1.isCl ib
      have i2 := cl2.isCl ib
      have z1 := i1.len
      have z2 := i2.len
      -- made
      refine Evl.q_cut (M := fun σ' H' => ∃ D : Addr, σ' = [some (.ref f), some (.ref ba), some (.int ((n' + 1 : Nat) : Int)), none, some v1, some v2, some (.ref D), none, none, none, none] ∧ H3 D = none ∧ Same H3 H' ∧ H' D = some (.lst [])) ?_ ?_
      · exact ⟨Nat.zero_le _, fun D H4 nD s4 hD _ => ⟨D, rfl, nD, s4, hD⟩⟩
      rintro σ' H4 ⟨D, rfl, nD, s4, hD⟩
      have nDf : D ≠ f := F3.nf nD
      let okM : Tr.T × List Int → Prop := fun m => Tr.Cl css m.1 m.2 ∧ m.1.depth ≤ n' + 2 ∧ m.1.pieces + 1 ≤ 2 ^ (n' + 1 + 1)
      refine Evl.q_cut (M := fun σ' H' => ∃ (y7 y8 y9 y10 : Option V) (vs : List V) (ms : List (Tr.T × List Int)), σ' = [some (.ref f), some (.ref ba), some (.int ((n' + 1 : Nat) : Int)), none, some v1, some v2, some (.ref D), y7, y8, y9, y10] ∧ Ke Nof H3 H' ∧ H' D = some (.lst vs) ∧ All2 (TC H') vs ms ∧ ms.length ≤ 16 ∧ ∀ m ∈ ms, okM m) ?_ ?_
      · refine ⟨_, rfl, _, rfl, by show 2 ≤ sizeLine; decide, fun p1 H5 np1 s5 hp1 _ => ?_⟩
        refine ⟨_, rfl, _, rfl, by show 2 ≤ sizeLine; decide, fun p2 H6 np2 s6 hp2 _ => ?_⟩
        refine ⟨by show 2 ≤ sizeLine; decide, fun p3 H7 np3 s7 hp3 _ => ?_⟩
        have k37 : Ke Nof H3 H7 := .same (s4.trans (s5.trans (s6.trans s7)))
        have hD7 : H7 D = some (.lst []) := s7 _ _ (s6 _ _ (s5 _ _ hD))
        have pair : ∀ (m : Nat) (x : V), [V.ref p1, V.ref p2][m]? = some x → ∃ (p : Addr) (va vb : V) (ta tb : Tr.T) (ca cb : List Int), x = .ref p ∧ H7 p = some (.tup [va, vb]) ∧ TC H7 va (ta, ca) ∧ TC H7 vb (tb, cb) ∧ Tr.Cl css ta ca ∧ Tr.Cl css tb cb ∧ ta.depth ≤ n' + 1 ∧ tb.depth ≤ n' + 1 ∧ ta.pieces + 1 ≤ 2 ^ (n' + 1) ∧ tb.pieces + 1 ≤ 2 ^ (n' + 1) ∧ ca.length ≤ 20 ∧ cb.length ≤ 20 := fun m x hx => by
          have hm := List.mem_of_getElem? hx
          simp only [List.mem_cons, List.not_mem_nil, or_false] at hm
          rcases hm with rfl | rfl
          · exact ⟨p1, v1, v2, t1, t2, c1, c2, rfl, s7 _ _ (s6 _ _ hp1), tc1.ke k37, tc2.ke k37, cl1, cl2, dp1, dp2, pc1, pc2, by omega, by omega⟩
          · exact ⟨p2, v2, v1, t2, t1, c2, c1, rfl, s7 _ _ hp2, tc2.ke k37, tc1.ke k37, cl2, cl1, dp2, dp1, pc2, pc1, by omega, by omega⟩
        refine ⟨p3, rfl, ⟨_, .of hp3⟩, for_tup (K := K) (a := p3) (xs := [V.ref p1, V.ref p2]) (Pv := fun m σ H' => ∃ (y7 y8 y9 y10 : Option V) (vs : List V) (ms : List (Tr.T × List Int)), σ = [some (.ref f), some (.ref ba), some (.int ((n' + 1 : Nat) : Int)), none, some v1, some v2, some (.ref D), y7, y8, y9, y10] ∧ Ke (· = D) H7 H' ∧ H' D = some (.lst vs) ∧ All2 (TC H') vs ms ∧ ms.length ≤ 8 * m ∧ ∀ m ∈ ms, okM m) ?_ (fun m σ H' _ z => ?_) ?_ ?_⟩
        · exact ⟨none, none, none, none, [], [], rfl, .refl _ _, hD7, .nil, Nat.le_refl _, fun m h => nomatch h⟩
        · obtain ⟨_, _, _, _, _, _, _, kt, _⟩ := z
          exact .of (kt.tups _ _ hp3)
        · rintro m x σ J1 hx ⟨y7, y8, y9, y10, vs, ms, rfl, kt, hDj, am, lm, okm⟩
          have m2 : m < 2 := (List.getElem?_eq_some_iff.mp hx).1
          obtain ⟨p, va, vb, ta, tb, ca, cb, rfl, hp, tca, tcb, cla, clb, da, db, pa', pb', la, lb'⟩ := pair m x hx
          refine ⟨p, _, rfl, .of (kt.tups _ _ hp), rfl, _, _, rfl, _, _, rfl, rfl, ?_⟩
          refine ⟨1, 9, rfl, ⟨by decide, by decide, by decide, by decide⟩, for_range (Pv := fun k σ H' => ∃ (y9 y10 : Option V) (vs : List V) (ms : List (Tr.T × List Int)), σ = [some (.ref f), some (.ref ba), some (.int ((n' + 1 : Nat) : Int)), none, some v1, some v2, some (.ref D), some va, some vb, y9, y10] ∧ Ke (· = D) H7 H' ∧ H' D = some (.lst vs) ∧ All2 (TC H') vs ms ∧ ms.length ≤ 8 * m + k ∧ ∀ m ∈ ms, okM m) ?_ ?_ ?_⟩
          · exact ⟨y9, y10, vs, ms, rfl, kt, hDj, am, by omega, okm⟩
          · clear hDj am lm okm kt
            clear y9 y10 vs ms
            rintro k σ J2 hk ⟨y9, y10, vs, ms, rfl, kt, hDj, am, lm, okm⟩
            have hk : k < 8 := hk
            obtain ⟨pa1, xa, ya, rfl, hpa, hxa, hya⟩ := tca.ke kt
            obtain ⟨pb1, xb, yb, rfl, hpb, hxb, hyb⟩ := tcb.ke kt
            have hxa : At J2 ta xa := hxa
            have hxb : At J2 tb xb := hxb
            have hya : TupI J2 ya ca := hya
            have hyb : TupI J2 yb cb := hyb
            have lv := am.1
            refine ⟨_, rfl, pa1, _, 1, ya, rfl, rfl, .of hpa, rfl, _, rfl, pb1, _, 1, yb, rfl, rfl, .of hpb, rfl, _, rfl, ya, yb, _, ca, cb, rfl, hya, hyb, la, lb', fun J3 s3 no => ?_, fun ns pn J3 s3 a1 a2 a3 a4 up me hpn => ?_⟩
            · refine ⟨_, rfl, rfl, false, rfl, ?_⟩
              have k3 : Ke (· = D) J2 J3 := .same s3
              exact ⟨_, _, vs, ms, rfl, kt.trans k3, s3 _ _ hDj, am.imp fun _ _ h => h.ke k3, by omega, okm⟩
            · refine ⟨_, rfl, rfl, true, rfl, ?_⟩
              have hDj3 := s3 _ _ hDj
              refine ⟨_, rfl, .inl ⟨rfl, _, .of hDj3⟩, _, rfl, pa1, _, 0, xa, rfl, rfl, .of (s3 _ _ hpa), rfl, _, rfl, pb1, _, 0, xb, rfl, rfl, .of (s3 _ _ hpb), rfl, _, rfl, by show 4 ≤ sizeLine; decide, fun q1 J4 nq1 s4' hq1 _ => ?_⟩
              refine ⟨_, rfl, by show 2 ≤ sizeLine; decide, fun q2 J5 nq2 s5' hq2 _ => ?_⟩
              have s25 := s3.trans (s4'.trans s5')
              have k25 : Ke (· = D) J2 J5 := .same s25
              have hDj5 := s25 _ _ hDj
              refine ⟨D, _, _, rfl, rfl, hDj5, small1000 (by omega), ?_⟩
              have tcn : TC J5 (.ref q2) (.cut ta tb (1 + (k : Int)), ns) := ⟨q2, _, _, rfl, hq2, ⟨q1, xa, xb, rfl, s5' _ _ hq1, hxa.ke k25, hxb.ke k25⟩, ⟨pn, rfl, (s4'.trans s5') _ _ hpn⟩⟩
              refine ⟨_, _, _, ms ++ [(.cut ta tb (1 + (k : Int)), ns)], rfl, keD (kt.trans k25) hDj5, upd_same, (am.imp fun _ _ h => (h.ke k25).wr hDj5).snoc (tcn.wr hDj5), by rw [List.length_append]; show ms.length + 1 ≤ _; omega, fun m' hm' => ?_⟩
              rcases List.mem_append.mp hm' with z | z
              · exact okm m' z
              · rw [List.mem_singleton.mp z]
                exact ⟨⟨ca, cb, cla, clb, a1, a2, a3, a4, up, me⟩, by show 1 + max ta.depth tb.depth ≤ n' + 2; omega, by show 1 + ta.pieces + tb.pieces + 1 ≤ _; omega⟩
          · rintro σ J2 ⟨z9, z10, vs', ms', rfl, kt', hD', am', lm', ok'⟩
            exact ⟨_, _, _, _, vs', ms', rfl, kt', hD', am', by have : ms'.length ≤ 8 * m + 8 := lm'; omega, ok'⟩
        · rintro σ J1 ⟨y7, y8, y9, y10, vs, ms, rfl, kt, hDj, am, lm, okm⟩
          exact ⟨y7, y8, y9, y10, vs, ms, rfl, keH k37 kt nD, hDj, am, by have : ms.length ≤ 8 * 2 := lm; omega, okm⟩
      rintro σ' H5 ⟨y7, y8, y9, y10, vs, ms, rfl, k5, hD5, am, lm, okm⟩
      have F5 := k5.feed F3
      have k05 := k3.trans k5.all
      refine ⟨_, rfl, Nat.zero_le _, fun p H6 np s6 hp _ => ?_⟩
      have k6 : Ke Nof H3 H6 := k5.trans (.same s6)
      have k06 : Ke (· = f) H H6 := k3.trans k6.all
      have F6 := k6.feed F3
      have hD6 := s6 _ _ hD5
      have am6 : All2 (TC H6) vs ms := am.imp fun _ _ h => h.ke (Ke.same (F := Nof) s6)
      have dpm : ∀ m ∈ ms, m.1.depth ≤ 45 := fun m hm => by
        have := (okm m hm).2.1
        omega
      match ms, vs, am6, hD6, okm, lm, dpm with
      | [], [], _, hD6, _, _, _ =>
        refine ⟨_, _, .lst (.of hD6) .nil, .lst (.of hp) .nil, rfl, rfl, true, rfl, ?_⟩
        refine ⟨_, rfl, _, rfl, by show 2 ≤ sizeLine; decide, fun p2 H7 np2 s7 hp2 _ => ?_⟩
        refine ⟨_, rfl, f, c, 2, _, rfl, by decide, by decide, F6.same s7, by omega, fun d H8 d0 d1 F8 b8 => ?_⟩
        have k8 : Ke (· = f) H6 H8 := (Ke.same s7).trans (.but (F6.same s7) b8)
        have hp8 : H8 p2 = some (.lst [v1, v2]) := (b8 p2 (F6.nf np2)).trans hp2
        have k08 := k06.trans k8
        have k38 : Ke (· = f) H3 H8 := k6.all.trans k8
        have two : d = 0 ∨ d = 1 := by omega
        rcases two with rfl | rfl
        · refine ⟨p2, _, 0, v1, rfl, rfl, .of hp8, rfl, ?_⟩
          exact q v1 t1 c1 H8 (F8.mono (by omega)) k08 (tc1.ke k38) cl1 (by omega) (by omega)
        · refine ⟨p2, _, 1, v2, rfl, rfl, .of hp8, rfl, ?_⟩
          exact q v2 t2 c2 H8 (F8.mono (by omega)) k08 (tc2.ke k38) cl2 (by omega) (by omega)
      | [], _ :: _, am6, _, _, _, _ => cases am6.1
      | _ :: _, [], am6, _, _, _, _ => cases am6.1
      | m0 :: mt, w0 :: wt, am6, hD6, okm, lm, dpm =>
        refine ⟨_, _, .lst (.of hD6) (dp_tcs am6), .lst (.of hp) .nil, shaped_tcs dpm, rfl, false, rfl, ?_⟩
        have lw := am6.1
        refine ⟨_, rfl, _, rfl, _, rfl, D, _, rfl, .inl (.of hD6), f, c, _, _, rfl, by rw [lw, List.length_cons]; omega, by rw [lw]; omega, F6, by omega, fun d H8 d0 d1 F8 b8 => ?_⟩
        have k8 : Ke (· = f) H6 H8 := .but F6 b8
        have dl : d.toNat < (w0 :: wt).length := by omega
        obtain ⟨⟨tm, cm⟩, hm', tcm⟩ := am6.at (List.getElem?_eq_getElem dl)
        obtain ⟨o1, o2, o3⟩ := okm _ (List.mem_of_getElem? hm')
        refine ⟨D, _, d, _, rfl, rfl, .of ((b8 D nDf).trans hD6), at_of (j := d.toNat) (by omega) (List.getElem?_eq_getElem dl), ?_⟩
        exact q _ tm cm H8 (F8.mono (by omega)) (k06.trans k8) (tcm.ke k8) o1 o2 o3
end
end Tl
namespace Ct
open PySem PySem.Spec PyProof.Rows L2 Kp
/-- where two says are opposite and no two of the others are, a claim comes -/
theorem comes_ex {c1 c2 : List Int} {k : Int} (i1 : IsCl c1) (i2 : IsCl c2) (k1 : 1 ≤ k) (m1 : k ∈ c1) (m2 : -k ∈ c2) (no : ∀ j, Bes c1 c2 k j → ¬ Bes c1 c2 k (-j)) : ∃ ns, Comes c1 c2 k ns := by
  let all : List Int := (List.range 17).map fun n : Nat => (n : Int) - 8
  let ns := all.filter fun j => decide ((j ∈ c1 ∨ j ∈ c2) ∧ (j.natAbs : Int) ≠ k)
  have up : all.Pairwise (· < ·) := (by decide : ((List.range 17).map fun n : Nat => (n : Int) - 8).Pairwise (· < ·))
  refine ⟨ns, k1, m1, m2, no, up.filter _, fun j => ?_⟩
  unfold Bes
  show j ∈ all.filter _ ↔ _
  rw [List.mem_filter, decide_eq_true_iff]
  constructor
  · exact fun h => h.2
  · refine fun h => ⟨?_, h⟩
    have b : -8 ≤ j ∧ j ≤ 8 := by
      rcases h.1 with z | z
      · exact (i1.says j z).2
      · exact (i2.says j z).2
    exact List.mem_map.mpr ⟨(j + 8).toNat, List.mem_range.mpr (by omega), by omega⟩
end Ct
namespace Rg
open PySem PySem.Spec PyProof.Rows L2 GxR Nw Dr Kp Se Cl Ct Lr Lp Tr Tl
/-! ### regular trees -/
def reg (A : List Int) : Tr.T → Bool
  | .leaf _ => true
  | .cut t u k => !(inV (.int k) (A.map V.int)) && (reg (A ++ [k]) t && reg (A ++ [k]) u)
section
variable {P : Program} {w : World} {K : PySem.W.Frag} {mg : Str → Option Value} {base : Heap}
abbrev sIru : Stmt := topS 48
theorem scIru : FnScope ["tree", "things", "things_cut"] ["tree", "things"] (defScope sIru) := ⟨rfl, rfl, rfl, by decide +kernel, rfl, by decide +kernel, by decide +kernel⟩
def spIru (d : Nat) : Sp := fun vs H Q _ => ∃ (v : V) (L : Addr) (t : Tr.T) (A : List Int), vs = [v, .ref L] ∧ At H t v ∧ t.depth ≤ d ∧ H L = some (.lst (A.map V.int)) ∧ A.length + d ≤ 1000 ∧ ∀ H', Same H H' → Q (.bl (reg A t)) H'
theorem ok_iru {f : Addr} {fd : FuncData} (F : Fun K "is_regular_under" "is_regular_under" sIru f fd) (bS : Binds K fd ["tree", "things"] []) (gS : mg "is_regular_under" = some (.ref f)) : ∀ d, FnOk P w K mg base CX0 (d + 1) f fd ["tree", "things"] (spIru d) := by
  intro d
  induction d with
  | zero =>
    refine F.ok scIru (fun vs H Q E h => ?_) (fun cdv A outer s H vs Q E hr h => ?_)
    · obtain ⟨v, L, t, A, rfl, _⟩ := h
      rfl
    · obtain ⟨v, L, t, A, rfl, _, h0, _⟩ := h
      have := t.pos
      omega
  | succ d ih =>
    refine F.ok scIru (fun vs H Q E h => ?_) (fun cdv A' outer s H vs Q E hr h => ?_)
    · obtain ⟨v, L, t, A, rfl, _⟩ := h
      rfl
    · obtain ⟨v, L, t, A, rfl, ht, hd, hL, lA, q⟩ := h
      have hrd : Room (d + 1) _ := hr
      refine ⟨_, (pss_cons (ps_if (pt_cmpR op_eq (pe_ix ix_tup (pv 0) pe_int (fun _ _ => rfl)) pe_str (nomark _)) (pss_one (ps_ret pe_bl)) pss_nil)
      (pss_cons (ps_if (pt_cmpR op_in_seq (pe_ix ix_tup (pv 0) pe_int (fun _ _ => rfl)) (pv 1) (by rfl)) (pss_one (ps_ret pe_bl)) pss_nil)
      (Evl.pss_cut (ps_set (i := 2) scIru.nd rfl (.inl rfl) (pe_op op_catN (pv 1) (pe_lstN (pa_cons (pe_ix ix_tup (pv 0) pe_int (fun _ _ => rfl)) pa_nil))))
      (pss_one (ps_ret (pe_and (pe_call ih hrd (by rfl) gS F.kp bS .nil pass0 (pa_cons (pe_ix ix_tup (pv 0) pe_int (fun _ _ => rfl)) (pa_cons (pv 2) pa_nil))) (pe_one (pe_call ih hrd (by rfl) gS F.kp bS .nil pass0 (pa_cons (pe_ix ix_tup (pv 0) pe_int (fun _ _ => rfl)) (pa_cons (pv 2) pa_nil)))))))))), ?_⟩
      cases t with
      | leaf n =>
        obtain ⟨a, rfl, ha⟩ := id ht
        exact ⟨_, rfl, a, _, 0, .str "book", rfl, rfl, .of ha, rfl, rfl, true, by simp, q H (Same.refl _)⟩
      | cut tl tr k0 =>
        obtain ⟨a, x, y, rfl, ha, h1, h2⟩ := id ht
        have dp : (Tr.T.cut tl tr k0).depth = 1 + max tl.depth tr.depth := rfl
        refine ⟨_, rfl, a, _, 0, .str "cut", rfl, rfl, .of ha, rfl, rfl, false, by simp; decide, ?_⟩
        have q : ∀ H', Same H H' → Q (.bl (!(inV (.int k0) (A.map V.int)) && (reg (A ++ [k0]) tl && reg (A ++ [k0]) tr))) H' := q
        refine ⟨_, rfl, a, _, 3, .int k0, rfl, rfl, .of ha, rfl, _, rfl, L, _, rfl, .inl (.of hL), rfl, ints_flat A, _, rfl, ?_⟩
        show (if inV (.int k0) (A.map V.int) = true then _ else _)
        cases e : inV (.int k0) (A.map V.int) with
        | true =>
          have := q H (Same.refl _)
          rw [e] at this
          exact this
        | false =>
          rw [e] at q
          rw [if_neg Bool.false_ne_true]
          refine Evl.q_cut (M := fun σ' H' => ∃ D : Addr, σ' = [some (.ref a), some (.ref L), some (.ref D)] ∧ Same H H' ∧ H' D = some (.lst ((A ++ [k0]).map V.int))) ?_ ?_
          · refine ⟨_, rfl, _, rfl, a, _, 3, .int k0, rfl, rfl, .of ha, rfl, by show 1 ≤ sizeLine; decide, fun p1 H1 np1 s1 hp1 _ => ?_⟩
            refine ⟨L, p1, _, _, rfl, rfl, s1 _ _ hL, hp1, ?_, fun D H2 nD s2 hD _ => ?_⟩
            · rw [List.length_map]
              exact Nat.le_trans (by show A.length + 1 ≤ 1000; omega) (by decide)
            refine ⟨D, rfl, s1.trans s2, ?_⟩
            rw [hD, List.map_append]
            rfl
          rintro σ' H1 ⟨D, rfl, s1, hD⟩
          have k1 : Ke Nof H H1 := .same s1
          have lA2 : (A ++ [k0]).length + d ≤ 1000 := by
            rw [List.length_append]
            show A.length + 1 + d ≤ 1000
            omega
          refine ⟨_, rfl, a, _, 1, x, rfl, rfl, .of (s1 _ _ ha), rfl, _, rfl, x, D, tl, A ++ [k0], rfl, h1.ke k1, by omega, hD, lA2, fun H2 s2 => ⟨_, rfl, ?_⟩⟩
          cases e1 : reg (A ++ [k0]) tl with
          | false =>
            have := q H2 (s1.trans s2)
            rw [e1] at this
            exact this
          | true =>
            rw [e1] at q
            refine ⟨_, rfl, a, _, 2, y, rfl, rfl, .of (s2 _ _ (s1 _ _ ha)), rfl, _, rfl, y, D, tr, A ++ [k0], rfl, (h2.ke k1).ke (Ke.same (F := Nof) s2), by omega, s2 _ _ hD, lA2, fun H3 s3 => ?_⟩
            exact q H3 (s1.trans (s2.trans s3))
abbrev sIrg : Stmt := topS 49
theorem scIrg : FnScope ["tree"] ["tree"] (defScope sIrg) := ⟨rfl, rfl, rfl, by decide +kernel, rfl, by decide +kernel, by decide +kernel⟩
def spIrg : Sp := fun vs H Q _ => ∃ (v : V) (t : Tr.T), vs = [v] ∧ At H t v ∧ t.depth ≤ 40 ∧ ∀ H', Same H H' → Q (.bl (reg [] t)) H'
theorem ok_irg {f fU : Addr} {fd fdU : FuncData} (F : Fun K "is_regular" "is_regular" sIrg f fd) (FU : Fun K "is_regular_under" "is_regular_under" sIru fU fdU) (bU : Binds K fdU ["tree", "things"] []) (gU : mg "is_regular_under" = some (.ref fU)) (GU : FnOk P w K mg base CX0 41 fU fdU ["tree", "things"] (spIru 40)) :
    FnOk P w K mg base CX0 42 f fd ["tree"] spIrg := by
  refine F.ok scIrg (fun vs H Q E h => ?_) (fun cdv A outer s H vs Q E hr h => ?_)
  · obtain ⟨v, t, rfl, _⟩ := h
    rfl
  · obtain ⟨v, t, rfl, ht, hd, q⟩ := h
    have hrd : Room 41 _ := hr
    refine ⟨_, (pss_one (ps_ret (pe_call GU hrd (by rfl) gU FU.kp bU .nil pass0 (pa_cons (pv 0) (pa_cons (pe_lstN pa_nil) pa_nil))))), ?_⟩
    refine ⟨_, rfl, Nat.zero_le _, fun L H1 nL s1 hL _ => ?_⟩
    exact ⟨v, L, t, [], rfl, ht.ke (Ke.same (F := Nof) s1), hd, hL, by decide, fun H2 s2 => q H2 (s1.trans s2)⟩
/-! ### made regular -/
/-- what a tree is made to, below the says -/
structure Good (css : List (List Int)) (says : List Int) (t : Tr.T) (c : List Int) (t' : Tr.T) (c' : List Int) : Prop where
  cl : Tr.Cl css t' c'
  sub : ∀ j ∈ c', j ∈ c ∨ j ∈ says
  reg : ∀ A : List Int, (∀ a ∈ A, a ∈ says ∨ -a ∈ says) → Rg.reg A t' = true
  dp : t'.depth ≤ t.depth
  pc : t'.pieces ≤ t.pieces
abbrev sJnd : Stmt := topS 50
theorem scJnd : FnScope ["one", "other", "k"] ["one", "other", "k"] (defScope sJnd) := ⟨rfl, rfl, rfl, by decide +kernel, rfl, by decide +kernel, by decide +kernel⟩
def spJnd (Po : Addr) : Sp := fun vs H Q _ => ∃ (v1 v2 : V) (k : Int) (t1 t2 : Tr.T) (c1 c2 : List Int), vs = [v1, v2, .int k] ∧ TC H v1 (t1, c1) ∧ TC H v2 (t2, c2) ∧ IsCl c1 ∧ IsCl c2 ∧ TabG H Po ∧
  (k ∉ c1 → Q v1 H) ∧ (k ∈ c1 → -k ∉ c2 → Q v2 H) ∧ (k ∈ c1 → -k ∈ c2 → ∃ ns, Comes c1 c2 k ns ∧ ∀ (v : V) (H' : Hp), Ke Nof H H' → TC H' v (.cut t1 t2 k, ns) → Q v H')
theorem ok_jnd {f fC Po : Addr} {fd fdC : FuncData} {kk : Nat} (F : Fun K "joined" "joined" sJnd f fd) (FC : Fun K "cut_or_none" "cut_or_none" sCon fC fdC) (bC : Binds K fdC ["one", "other", "k"] []) (gC : mg "cut_or_none" = some (.ref fC)) (GC : FnOk P w K mg base CX0 4 fC fdC ["one", "other", "k"] (spCon Po)) :
    FnOk P w K mg base CX0 (kk + 5) f fd ["one", "other", "k"] (spJnd Po) := by
  refine F.ok scJnd (fun vs H Q E h => ?_) (fun cdv A outer s H vs Q E hr h => ?_)
  · obtain ⟨v1, v2, k, t1, t2, c1, c2, rfl, _⟩ := h
    rfl
  · obtain ⟨v1, v2, k, t1, t2, c1, c2, rfl, tc1, tc2, i1, i2, tg, q1, q2, q3⟩ := h
    have hr4 : Room 4 _ := hr.mono (by omega)
    have z1 := i1.len
    have z2 := i2.len
    refine ⟨_, (pss_cons (ps_if (pt_cmpR op_notIn_seq (pv 2) (pe_ix ix_tup (pv 0) pe_int (fun _ _ => rfl)) (by rfl)) (pss_one (ps_ret (pv 0))) pss_nil)
      (pss_cons (ps_if (pt_cmpR op_notIn_seq (pe_un un_neg (pv 2)) (pe_ix ix_tup (pv 1) pe_int (fun _ _ => rfl)) (by rfl)) (pss_one (ps_ret (pv 1))) pss_nil)
      (pss_one (ps_ret (pe_tupN (pa_cons (pe_tupN (pa_cons pe_str (pa_cons (pe_ix ix_tup (pv 0) pe_int (fun _ _ => rfl)) (pa_cons (pe_ix ix_tup (pv 1) pe_int (fun _ _ => rfl)) (pa_cons (pv 2) pa_nil))))) (pa_cons (pe_call GC hr4 (by rfl) gC FC.kp bC .nil pass0 (pa_cons (pe_ix ix_tup (pv 0) pe_int (fun _ _ => rfl)) (pa_cons (pe_ix ix_tup (pv 1) pe_int (fun _ _ => rfl)) (pa_cons (pv 2) pa_nil)))) pa_nil))))))), ?_⟩
    obtain ⟨p1, x1, y1, rfl, hp1, hx1, hy1⟩ := id tc1
    obtain ⟨p2, x2, y2, rfl, hp2, hx2, hy2⟩ := id tc2
    obtain ⟨a1, rfl, ha1⟩ := id hy1
    obtain ⟨a2, rfl, ha2⟩ := id hy2
    have ha1 : H a1 = some (.tup (c1.map V.int)) := ha1
    have ha2 : H a2 = some (.tup (c2.map V.int)) := ha2
    refine ⟨_, rfl, _, rfl, p1, _, 1, .ref a1, rfl, rfl, .of hp1, rfl, a1, _, rfl, .inr (.of ha1), rfl, ints_flat c1, _, rfl, ?_⟩
    show (if (!inV (.int k) (c1.map V.int)) = true then _ else _)
    cases e1 : inV (.int k) (c1.map V.int) with
    | false =>
      refine ⟨_, rfl, q1 fun z => ?_⟩
      rw [(in_ints k c1).mpr z] at e1
      cases e1
    | true =>
      have m1 := (in_ints k c1).mp e1
      rw [if_neg (by decide)]
      refine ⟨_, rfl, _, rfl, _, rfl, p2, _, 1, .ref a2, rfl, rfl, .of hp2, rfl, a2, _, rfl, .inr (.of ha2), rfl, ints_flat c2, _, rfl, ?_⟩
      show (if (!inV (.int (-k)) (c2.map V.int)) = true then _ else _)
      cases e2 : inV (.int (-k)) (c2.map V.int) with
      | false =>
        refine ⟨_, rfl, q2 m1 fun z => ?_⟩
        rw [(in_ints (-k) c2).mpr z] at e2
        cases e2
      | true =>
        have m2 := (in_ints (-k) c2).mp e2
        rw [if_neg (by decide)]
        obtain ⟨ns, cm, q3⟩ := q3 m1 m2
        refine ⟨_, rfl, p1, _, 0, x1, rfl, rfl, .of hp1, rfl, _, rfl, p2, _, 0, x2, rfl, rfl, .of hp2, rfl, _, rfl, by show 4 ≤ sizeLine; decide, fun q1' H1 nq1 s1 hq1 _ => ?_⟩
        have k1 : Ke Nof H H1 := .same s1
        refine ⟨_, rfl, p1, _, 1, .ref a1, rfl, rfl, .of (s1 _ _ hp1), rfl, _, rfl, p2, _, 1, .ref a2, rfl, rfl, .of (s1 _ _ hp2), rfl, _, rfl, .ref a1, .ref a2, k, c1, c2, rfl, ⟨a1, rfl, s1 _ _ ha1⟩, ⟨a2, rfl, s1 _ _ ha2⟩, by omega, by omega, k1.tabs _ tg, fun H2 k2 no => (cm.no (nocome_of i1 i2 no)).elim, fun ns' p H2 k2 m o up me hp => ?_⟩
        obtain rfl := cm.one (comes_of i1 i2 m o up me)
        refine ⟨by show 2 ≤ sizeLine; decide, fun pp H3 np s3 hpp _ => ?_⟩
        have k03 : Ke Nof H H3 := (k1.trans k2).trans (.same s3)
        have hx1' : At H t1 x1 := hx1
        have hx2' : At H t2 x2 := hx2
        exact q3 _ H3 k03 ⟨pp, _, _, rfl, hpp, ⟨q1', _, _, rfl, (k2.trans (.same s3)).tups _ _ hq1, hx1'.ke k03, hx2'.ke k03⟩, p, rfl, s3 _ _ hp⟩
abbrev sRgu : Stmt := topS 51
theorem scRgu : FnScope ["book", "tree", "says", "k", "one", "other"] ["book", "tree", "says"] (defScope sRgu) := ⟨rfl, rfl, rfl, by decide +kernel, rfl, by decide +kernel, by decide +kernel⟩
def spRgu (Po : Addr) (d : Nat) : Sp := fun vs H Q _ => ∃ (b v : V) (L : Addr) (css : List (List Int)) (t : Tr.T) (c says : List Int), vs = [b, v, .ref L] ∧ Bk H b css ∧ (∀ c ∈ css, IsCl c) ∧ At H t v ∧ t.depth ≤ d ∧ Tr.Cl css t c ∧ H L = some (.lst (says.map V.int)) ∧ says.length + d ≤ 1000 ∧ (∀ s ∈ says, -s ∉ says ∧ -s ∉ c) ∧ TabG H Po ∧
  ∀ (u : V) (t' : Tr.T) (c' : List Int) (H' : Hp), Ke Nof H H' → TC H' u (t', c') → Good css says t c t' c' → Q u H'
theorem ok_rgu {f fJ Po : Addr} {fd fdJ : FuncData} (F : Fun K "regular_under" "regular_under" sRgu f fd) (bS : Binds K fd ["book", "tree", "says"] []) (gS : mg "regular_under" = some (.ref f)) (FJ : Fun K "joined" "joined" sJnd fJ fdJ) (bJ : Binds K fdJ ["one", "other", "k"] []) (gJ : mg "joined" = some (.ref fJ)) (GJ : FnOk P w K mg base CX0 5 fJ fdJ ["one", "other", "k"] (spJnd Po)) :
    ∀ d, FnOk P w K mg base CX0 (d + 6) f fd ["book", "tree", "says"] (spRgu Po d) := by
  intro d
  induction d with
  | zero =>
    refine F.ok scRgu (fun vs H Q E h => ?_) (fun cdv A outer s H vs Q E hr h => ?_)
    · obtain ⟨b, v, L, css, t, c, says, rfl, _⟩ := h
      rfl
    · obtain ⟨b, v, L, css, t, c, says, rfl, _, _, _, h0, _⟩ := h
      have := t.pos
      omega
  | succ d ih =>
    refine F.ok scRgu (fun vs H Q E h => ?_) (fun cdv A outer s H vs Q E hr h => ?_)
    · obtain ⟨b, v, L, css, t, c, says, rfl, _⟩ := h
      rfl
    · obtain ⟨b, v, L, css, t, c, says, rfl, hb, ib, ht, hd, hc, hL, ls, ho, tg, q⟩ := h
      have hr5 : Room 5 _ := hr.mono (by omega)
      have hrd : Room (d + 6) _ := hr
      refine ⟨_, (pss_cons (ps_if (pt_cmpR op_eq (pe_ix ix_tup (pv 1) pe_int (fun _ _ => rfl)) pe_str (nomark _)) (pss_one (ps_ret (pe_tupN (pa_cons (pv 1) (pa_cons (pe_ix ix_tup (pv 0) (pe_ix ix_tup (pv 1) pe_int (fun _ _ => rfl)) (fun _ _ => rfl)) pa_nil))))) pss_nil)
      (Evl.pss_cut (ps_set (i := 3) scRgu.nd rfl (.inl rfl) (pe_ix ix_tup (pv 1) pe_int (fun _ _ => rfl)))
      (pss_cons (ps_if (pt_cmpR op_in_seq (pv 3) (pv 2) (by rfl)) (pss_one (ps_ret (pe_call ih hrd (by rfl) gS F.kp bS .nil pass0 (pa_cons (pv 0) (pa_cons (pe_ix ix_tup (pv 1) pe_int (fun _ _ => rfl)) (pa_cons (pv 2) pa_nil)))))) pss_nil)
      (pss_cons (ps_if (pt_cmpR op_in_seq (pe_un un_neg (pv 3)) (pv 2) (by rfl)) (pss_one (ps_ret (pe_call ih hrd (by rfl) gS F.kp bS .nil pass0 (pa_cons (pv 0) (pa_cons (pe_ix ix_tup (pv 1) pe_int (fun _ _ => rfl)) (pa_cons (pv 2) pa_nil)))))) pss_nil)
      (Evl.pss_cut (ps_set (i := 4) scRgu.nd rfl (.inl rfl) (pe_call ih hrd (by rfl) gS F.kp bS .nil pass0 (pa_cons (pv 0) (pa_cons (pe_ix ix_tup (pv 1) pe_int (fun _ _ => rfl)) (pa_cons (pe_op op_catN (pv 2) (pe_lstN (pa_cons (pv 3) pa_nil))) pa_nil)))))
      (Evl.pss_cut (ps_set (i := 5) scRgu.nd rfl (.inl rfl) (pe_call ih hrd (by rfl) gS F.kp bS .nil pass0 (pa_cons (pv 0) (pa_cons (pe_ix ix_tup (pv 1) pe_int (fun _ _ => rfl)) (pa_cons (pe_op op_catN (pv 2) (pe_lstN (pa_cons (pe_un un_neg (pv 3)) pa_nil))) pa_nil)))))
      (pss_one (ps_ret (pe_call GJ hr5 (by rfl) gJ FJ.kp bJ .nil pass0 (pa_cons (pv 4) (pa_cons (pv 5) (pa_cons (pv 3) pa_nil)))))))))))), ?_⟩
      obtain ⟨ba, bvs, rfl, hbt, aB⟩ := bk_all hb
      cases t with
      | leaf n =>
        obtain ⟨a, rfl, ha⟩ := id ht
        obtain ⟨x, hx, p, rfl, hp⟩ := aB.atR hc
        refine ⟨_, rfl, a, _, 0, .str "book", rfl, rfl, .of ha, rfl, rfl, true, by simp, ?_⟩
        refine ⟨_, rfl, _, rfl, _, rfl, a, _, 1, .int (n : Nat), rfl, rfl, .of ha, rfl, ba, bvs, _, .ref p, rfl, rfl, .of hbt, at_of (j := n) rfl hx, ?_⟩
        refine ⟨by show 2 ≤ sizeLine; decide, fun pp H1 np s1 hpp _ => ?_⟩
        have k1 : Ke Nof H H1 := .same s1
        exact q _ (.leaf n) c H1 k1 ⟨pp, _, _, rfl, hpp, ht.ke k1, p, rfl, s1 _ _ hp⟩ ⟨hc, fun j hj => .inl hj, fun _ _ => rfl, Nat.le_refl _, Nat.le_refl _⟩
      | cut tl tr k0 =>
        obtain ⟨a, x, y, rfl, ha, h1, h2⟩ := id ht
        obtain ⟨cx, cy, hx, hy, cm⟩ := id hc
        have dp : (Tr.T.cut tl tr k0).depth = 1 + max tl.depth tr.depth := rfl
        have pp : (Tr.T.cut tl tr k0).pieces = 1 + tl.pieces + tr.pieces := rfl
        have ix := hx.isCl ib
        have iy := hy.isCl ib
        have icc := hc.isCl ib
        obtain ⟨k1', kx, ky, _, _, me⟩ := id cm
        -- the parts' says are the whole's, but for k
        have subx : ∀ j ∈ cx, j ∈ c ∨ j = k0 := fun j hj => by
          by_cases z : j = k0
          · exact .inr z
          · refine .inl ((me j).mpr ⟨.inl hj, fun z2 => ?_⟩)
            have e : j = -k0 := by omega
            rw [e] at hj
            exact ix.opp k0 kx hj
        have suby : ∀ j ∈ cy, j ∈ c ∨ j = -k0 := fun j hj => by
          by_cases z : j = -k0
          · exact .inr z
          · refine .inl ((me j).mpr ⟨.inr hj, fun z2 => ?_⟩)
            have e : j = k0 := by omega
            rw [e] at hj
            exact iy.opp k0 hj ky
        refine ⟨_, rfl, a, _, 0, .str "cut", rfl, rfl, .of ha, rfl, rfl, false, by simp; decide, ?_⟩
        refine Evl.q_cut (M := fun σ' H' => σ' = [some (.ref ba), some (.ref a), some (.ref L), some (.int k0), none, none] ∧ H' = H) ?_ ?_
        · exact ⟨_, rfl, a, _, 3, .int k0, rfl, rfl, .of ha, rfl, rfl, rfl⟩
        rintro σ' H0 ⟨rfl, rfl⟩
        refine ⟨_, rfl, _, rfl, L, _, rfl, .inl (.of hL), rfl, ints_flat says, _, rfl, ?_⟩
        show (if inV (.int k0) (says.map V.int) = true then _ else _)
        cases e1 : inV (.int k0) (says.map V.int) with
        | true =>
          have m1 := (in_ints k0 says).mp e1
          rw [if_pos rfl]
          refine ⟨_, rfl, _, rfl, a, _, 1, x, rfl, rfl, .of ha, rfl, _, rfl, .ref ba, x, L, css, tl, cx, says, rfl, hb, ib, h1, by omega, hx, hL, by omega, fun s hs => ⟨(ho s hs).1, fun z => ?_⟩, tg, fun u t' c' H1 k1 tc g => ?_⟩
          · rcases subx _ z with z2 | z2
            · exact (ho s hs).2 z2
            · have e : s = -k0 := by omega
              rw [e] at hs
              exact (ho k0 m1).1 hs
          · refine q u t' c' H1 k1 tc ⟨g.cl, fun j hj => ?_, g.reg, by have := g.dp; omega, by have := g.pc; omega⟩
            rcases g.sub j hj with z | z
            · rcases subx j z with z | z
              · exact .inl z
              · rw [z]
                exact .inr m1
            · exact .inr z
        | false =>
          have n1 : k0 ∉ says := fun z => by
            rw [(in_ints k0 says).mpr z] at e1
            cases e1
          rw [if_neg Bool.false_ne_true]
          refine ⟨_, rfl, _, rfl, _, rfl, L, _, rfl, .inl (.of hL), rfl, ints_flat says, _, rfl, ?_⟩
          show (if inV (.int (-k0)) (says.map V.int) = true then _ else _)
          cases e2 : inV (.int (-k0)) (says.map V.int) with
          | true =>
            have m2 := (in_ints (-k0) says).mp e2
            rw [if_pos rfl]
            refine ⟨_, rfl, _, rfl, a, _, 2, y, rfl, rfl, .of ha, rfl, _, rfl, .ref ba, y, L, css, tr, cy, says, rfl, hb, ib, h2, by omega, hy, hL, by omega, fun s hs => ⟨(ho s hs).1, fun z => ?_⟩, tg, fun u t' c' H1 k1 tc g => ?_⟩
            · rcases suby _ z with z2 | z2
              · exact (ho s hs).2 z2
              · have e : s = k0 := by omega
                rw [e] at hs
                exact n1 hs
            · refine q u t' c' H1 k1 tc ⟨g.cl, fun j hj => ?_, g.reg, by have := g.dp; omega, by have := g.pc; omega⟩
              rcases g.sub j hj with z | z
              · rcases suby j z with z | z
                · exact .inl z
                · rw [z]
                  exact .inr m2
              · exact .inr z
          | false =>
            have n2 : -k0 ∉ says := fun z => by
              rw [(in_ints (-k0) says).mpr z] at e2
              cases e2
            rw [if_neg Bool.false_ne_true]
            -- one
            refine Evl.q_cut (M := fun σ' H' => ∃ (v1 : V) (t1 : Tr.T) (c1 : List Int), σ' = [some (.ref ba), some (.ref a), some (.ref L), some (.int k0), some v1, none] ∧ Ke Nof H0 H' ∧ TC H' v1 (t1, c1) ∧ Good css (says ++ [k0]) tl cx t1 c1) ?_ ?_
            · refine ⟨_, rfl, _, rfl, a, _, 1, x, rfl, rfl, .of ha, rfl, _, rfl, _, rfl, by show 1 ≤ sizeLine; decide, fun p1 H1 np1 s1 hp1 _ => ?_⟩
              refine ⟨L, p1, _, _, rfl, rfl, s1 _ _ hL, hp1, ?_, fun D H2 nD s2 hD _ => ?_⟩
              · rw [List.length_map]
                exact Nat.le_trans (by show says.length + 1 ≤ 1000; omega) (by decide)
              have k2 : Ke Nof H0 H2 := .same (s1.trans s2)
              have hD' : H2 D = some (.lst ((says ++ [k0]).map V.int)) := by rw [hD, List.map_append]; rfl
              refine ⟨.ref ba, x, D, css, tl, cx, says ++ [k0], rfl, hb.ke k2, ib, h1.ke k2, by omega, hx, hD', by rw [List.length_append]; show says.length + 1 + d ≤ 1000; omega, fun s hs => ?_, k2.tabs _ tg, fun u t' c' H3 k3 tc g => ⟨u, t', c', rfl, k2.trans k3, tc, g⟩⟩
              rcases List.mem_append.mp hs with hs | hs
              · refine ⟨fun z => ?_, fun z => ?_⟩
                · rcases List.mem_append.mp z with z | z
                  · exact (ho s hs).1 z
                  · have e : s = -k0 := by
                      have := List.mem_singleton.mp z
                      omega
                    rw [e] at hs
                    exact n2 hs
                · rcases subx _ z with z | z
                  · exact (ho s hs).2 z
                  · have e : s = -k0 := by omega
                    rw [e] at hs
                    exact n2 hs
              · rw [List.mem_singleton.mp hs]
                refine ⟨fun z => ?_, ix.opp k0 kx⟩
                rcases List.mem_append.mp z with z | z
                · exact n2 z
                · have := List.mem_singleton.mp z
                  omega
            rintro σ' H1 ⟨v1, t1, c1, rfl, kk1, tc1, g1⟩
            -- other
            refine Evl.q_cut (M := fun σ' H' => ∃ (v2 : V) (t2 : Tr.T) (c2 : List Int), σ' = [some (.ref ba), some (.ref a), some (.ref L), some (.int k0), some v1, some v2] ∧ Ke Nof H0 H' ∧ TC H' v1 (t1, c1) ∧ TC H' v2 (t2, c2) ∧ Good css (says ++ [-k0]) tr cy t2 c2) ?_ ?_
            · refine ⟨_, rfl, _, rfl, a, _, 2, y, rfl, rfl, .of (kk1.tups _ _ ha), rfl, _, rfl, _, rfl, _, rfl, by show 1 ≤ sizeLine; decide, fun p1 H2 np1 s1 hp1 _ => ?_⟩
              refine ⟨L, p1, _, _, rfl, rfl, s1 _ _ (kk1.lst hL fun z => z), hp1, ?_, fun D H3 nD s2 hD _ => ?_⟩
              · rw [List.length_map]
                exact Nat.le_trans (by show says.length + 1 ≤ 1000; omega) (by decide)
              have k13 : Ke Nof H1 H3 := .same (s1.trans s2)
              have k3 : Ke Nof H0 H3 := kk1.trans k13
              have hD' : H3 D = some (.lst ((says ++ [-k0]).map V.int)) := by rw [hD, List.map_append]; rfl
              refine ⟨.ref ba, y, D, css, tr, cy, says ++ [-k0], rfl, hb.ke k3, ib, h2.ke k3, by omega, hy, hD', by rw [List.length_append]; show says.length + 1 + d ≤ 1000; omega, fun s hs => ?_, k3.tabs _ tg, fun u t' c' H4 k4 tc g => ⟨u, t', c', rfl, k3.trans k4, (tc1.ke k13).ke k4, tc, g⟩⟩
              rcases List.mem_append.mp hs with hs | hs
              · refine ⟨fun z => ?_, fun z => ?_⟩
                · rcases List.mem_append.mp z with z | z
                  · exact (ho s hs).1 z
                  · have e : s = k0 := by
                      have := List.mem_singleton.mp z
                      omega
                    rw [e] at hs
                    exact n1 hs
                · rcases suby _ z with z | z
                  · exact (ho s hs).2 z
                  · have e : s = k0 := by omega
                    rw [e] at hs
                    exact n1 hs
              · rw [List.mem_singleton.mp hs, Int.neg_neg]
                refine ⟨fun z => ?_, fun z => iy.opp k0 z ky⟩
                rcases List.mem_append.mp z with z | z
                · exact n1 z
                · have := List.mem_singleton.mp z
                  omega
            clear tc1
            rintro σ' H2 ⟨v2, t2, c2, rfl, kk2, tc1, tc2, g2⟩
            have i1 := g1.cl.isCl ib
            have i2 := g2.cl.isCl ib
            have s1' : ∀ j ∈ c1, j ≠ k0 → j ∈ c ∨ j ∈ says := fun j hj ne => by
              rcases g1.sub j hj with z | z
              · rcases subx j z with z | z
                · exact .inl z
                · exact absurd z ne
              · rcases List.mem_append.mp z with z | z
                · exact .inr z
                · exact absurd (List.mem_singleton.mp z) ne
            have s2' : ∀ j ∈ c2, j ≠ -k0 → j ∈ c ∨ j ∈ says := fun j hj ne => by
              rcases g2.sub j hj with z | z
              · rcases suby j z with z | z
                · exact .inl z
                · exact absurd z ne
              · rcases List.mem_append.mp z with z | z
                · exact .inr z
                · exact absurd (List.mem_singleton.mp z) ne
            have r1 : ∀ A : List Int, (∀ b ∈ A, b ∈ says ∨ -b ∈ says) → reg A t1 = true := fun A hA => g1.reg A fun b hb => by
              rcases hA b hb with z | z
              · exact .inl (List.mem_append_left _ z)
              · exact .inr (List.mem_append_left _ z)
            have r2 : ∀ A : List Int, (∀ b ∈ A, b ∈ says ∨ -b ∈ says) → reg A t2 = true := fun A hA => g2.reg A fun b hb => by
              rcases hA b hb with z | z
              · exact .inl (List.mem_append_left _ z)
              · exact .inr (List.mem_append_left _ z)
            have dd1 := g1.dp
            have dd2 := g2.dp
            have pp1 := g1.pc
            have pp2 := g2.pc
            refine ⟨_, rfl, _, rfl, _, rfl, v1, v2, k0, t1, t2, c1, c2, rfl, tc1, tc2, i1, i2, kk2.tabs _ tg, fun no => ?_, fun _ no => ?_, fun m1 m2 => ?_⟩
            · exact q v1 t1 c1 H2 kk2 tc1 ⟨g1.cl, fun j hj => s1' j hj (fun z => no (z ▸ hj)), r1, by omega, by omega⟩
            · exact q v2 t2 c2 H2 kk2 tc2 ⟨g2.cl, fun j hj => s2' j hj (fun z => no (z ▸ hj)), r2, by omega, by omega⟩
            · have bes : ∀ j, Bes c1 c2 k0 j → j ∈ c ∨ j ∈ says := fun j hj => by
                obtain ⟨z, ne⟩ := hj
                rcases z with z | z
                · exact s1' j z (fun e => ne (by omega))
                · exact s2' j z (fun e => ne (by omega))
              have noo : ∀ j, Bes c1 c2 k0 j → ¬ Bes c1 c2 k0 (-j) := fun j b1 b2 => by
                rcases bes j b1 with z | z
                · rcases bes _ b2 with z2 | z2
                  · exact icc.opp j z z2
                  · have := (ho _ z2).2
                    rw [Int.neg_neg] at this
                    exact this z
                · rcases bes _ b2 with z2 | z2
                  · exact (ho j z).2 z2
                  · exact (ho j z).1 z2
              obtain ⟨ns, hns⟩ := comes_ex i1 i2 k1' m1 m2 noo
              refine ⟨ns, hns, fun u H3 k3 tc => ?_⟩
              refine q u (.cut t1 t2 k0) ns H3 (kk2.trans k3) tc ⟨⟨c1, c2, g1.cl, g2.cl, hns⟩, fun j hj => bes j ((hns.2.2.2.2.2 j).mp hj), fun A hA => ?_, by show 1 + max t1.depth t2.depth ≤ _; omega, by show 1 + t1.pieces + t2.pieces ≤ _; omega⟩
              have nA : inV (.int k0) (A.map V.int) = false := by
                cases e : inV (.int k0) (A.map V.int) with
                | false => rfl
                | true =>
                  rcases hA k0 ((in_ints _ _).mp e) with z | z
                  · exact absurd z n1
                  · exact absurd z n2
              show (!(inV (.int k0) (A.map V.int)) && (reg (A ++ [k0]) t1 && reg (A ++ [k0]) t2)) = true
              rw [nA, g1.reg (A ++ [k0]) fun b hb => ?_, g2.reg (A ++ [k0]) fun b hb => ?_]
              · rfl
              · rcases List.mem_append.mp hb with z | z
                · rcases hA b z with z | z
                  · exact .inl (List.mem_append_left _ z)
                  · exact .inr (List.mem_append_left _ z)
                · rw [List.mem_singleton.mp z]
                  exact .inr (List.mem_append_right _ List.mem_cons_self)
              · rcases List.mem_append.mp hb with z | z
                · rcases hA b z with z | z
                  · exact .inl (List.mem_append_left _ z)
                  · exact .inr (List.mem_append_left _ z)
                · rw [List.mem_singleton.mp z]
                  exact .inl (List.mem_append_right _ List.mem_cons_self)
abbrev sMrg : Stmt := topS 52
theorem scMrg : FnScope ["book", "tree"] ["book", "tree"] (defScope sMrg) := ⟨rfl, rfl, rfl, by decide +kernel, rfl, by decide +kernel, by decide +kernel⟩
def spMrg (Po : Addr) : Sp := fun vs H Q _ => ∃ (b v : V) (css : List (List Int)) (t : Tr.T) (c : List Int), vs = [b, v] ∧ Bk H b css ∧ (∀ c ∈ css, IsCl c) ∧ At H t v ∧ t.depth ≤ 40 ∧ Tr.Cl css t c ∧ TabG H Po ∧
  ∀ (u : V) (t' : Tr.T) (c' : List Int) (H' : Hp), Ke Nof H H' → At H' t' u → Good css [] t c t' c' → Q u H'
theorem ok_mrg {f fU Po : Addr} {fd fdU : FuncData} (F : Fun K "made_regular" "made_regular" sMrg f fd) (FU : Fun K "regular_under" "regular_under" sRgu fU fdU) (bU : Binds K fdU ["book", "tree", "says"] []) (gU : mg "regular_under" = some (.ref fU)) (GU : FnOk P w K mg base CX0 46 fU fdU ["book", "tree", "says"] (spRgu Po 40)) :
    FnOk P w K mg base CX0 47 f fd ["book", "tree"] (spMrg Po) := by
  refine F.ok scMrg (fun vs H Q E h => ?_) (fun cdv A outer s H vs Q E hr h => ?_)
  · obtain ⟨b, v, css, t, c, rfl, _⟩ := h
    rfl
  · obtain ⟨b, v, css, t, c, rfl, hb, ib, ht, hd, hc, tg, q⟩ := h
    have hrd : Room 46 _ := hr
    refine ⟨_, (pss_one (ps_ret (pe_ix ix_tup (pe_call GU hrd (by rfl) gU FU.kp bU .nil pass0 (pa_cons (pv 0) (pa_cons (pv 1) (pa_cons (pe_lstN pa_nil) pa_nil)))) pe_int (fun _ _ => rfl)))), ?_⟩
    refine ⟨_, rfl, _, rfl, Nat.zero_le _, fun L H1 nL s1 hL _ => ?_⟩
    have k1 : Ke Nof H H1 := .same s1
    refine ⟨b, v, L, css, t, c, [], rfl, hb.ke k1, ib, ht.ke k1, hd, hc, hL, by decide, (fun s h => nomatch h), k1.tabs _ tg, fun u t' c' H2 k2 tc g => ?_⟩
    obtain ⟨p, x, y, rfl, hp, hx, hy⟩ := tc
    exact ⟨p, _, 0, x, rfl, rfl, .of hp, rfl, q x t' c' H2 (k1.trans k2) hx g⟩
end
end Rg
namespace Wl
end Wl
namespace Wo
end Wo
namespace Wk
end Wk
namespace Bkg
open PySem PySem.Spec PyProof.Rows L2 GxR Nw Dr Kp Ct Lr Lp Tr
/-! ### a ladder put back: the trees of its rows -/
def trOf (ts : List T) : Rw → T
  | .book n => .leaf n
  | .cut i j k => .cut (ts.getD i (.leaf 0)) (ts.getD j (.leaf 0)) k
def trs (rows : List Rw) : List T := rows.foldl (fun ts r => ts ++ [trOf ts r]) []
theorem trs_snoc (rows : List Rw) (r : Rw) : trs (rows ++ [r]) = trs rows ++ [trOf (trs rows) r] := by
  unfold trs
  rw [List.foldl_append]
  rfl
theorem trs_len (rows : List Rw) : (trs rows).length = rows.length := by
  have key : ∀ (l : List Rw) (hs : List T), (l.foldl (fun ts r => ts ++ [trOf ts r]) hs).length = hs.length + l.length := by
    intro l
    induction l with
    | nil => exact fun hs => rfl
    | cons r t ih =>
      intro hs
      rw [List.foldl_cons, ih]
      simp only [List.length_append, List.length_cons, List.length_nil]
      omega
  have := key rows []
  rw [List.length_nil, Nat.zero_add] at this
  exact this
/-- how many pieces a row has -/
def pcOf (hs : List Int) : Rw → Int
  | .book _ => 1
  | .cut i j _ => 1 + hs.getD i 0 + hs.getD j 0
def pcs (rows : List Rw) : List Int := (trs rows).map fun t => ((t.pieces : Nat) : Int)
theorem gdAt {α : Type} {l : List α} {i : Nat} {d : α} (h : i < l.length) : l.getD i d = l[i] := by
  rw [List.getD_eq_getElem?_getD, List.getElem?_eq_getElem h]
  rfl
theorem pcs_snoc {rows : List Rw} {r : Rw} (hp : ∀ i j k, r = .cut i j k → i < rows.length ∧ j < rows.length) : pcs (rows ++ [r]) = pcs rows ++ [pcOf (pcs rows) r] := by
  unfold pcs
  rw [trs_snoc, List.map_append]
  congr 1
  cases r with
  | book n => rfl
  | cut i j k =>
    obtain ⟨li, lj⟩ := hp i j k rfl
    have l := trs_len rows
    show [(((1 + ((trs rows).getD i (.leaf 0)).pieces + ((trs rows).getD j (.leaf 0)).pieces : Nat)) : Int)] = [1 + ((trs rows).map fun t => ((t.pieces : Nat) : Int)).getD i 0 + ((trs rows).map fun t => ((t.pieces : Nat) : Int)).getD j 0]
    rw [gdAt (by omega), gdAt (by omega), gdAt (by rw [List.length_map]; omega), gdAt (by rw [List.length_map]; omega), List.getElem_map, List.getElem_map]
    simp only [Int.natCast_add]
    rfl
theorem pcs_len (rows : List Rw) : (pcs rows).length = rows.length := by
  unfold pcs
  rw [List.length_map, trs_len]
theorem trs_go (l : List Rw) : ∀ hs : List T, ∃ ts, l.foldl (fun ts r => ts ++ [trOf ts r]) hs = hs ++ ts := by
  induction l with
  | nil => exact fun hs => ⟨[], by rw [List.append_nil]; rfl⟩
  | cons r t ih =>
    intro hs
    obtain ⟨ts, e⟩ := ih (hs ++ [trOf hs r])
    exact ⟨trOf hs r :: ts, by rw [List.foldl_cons, e, List.append_assoc]; rfl⟩
theorem trs_pre (a b : List Rw) : ∃ ts, trs (a ++ b) = trs a ++ ts := by
  unfold trs
  rw [List.foldl_append]
  exact trs_go b _
theorem trs_get {rows : List Rw} {n : Nat} {r : Rw} (h : rows[n]? = some r) : (trs rows)[n]? = some (trOf (trs (rows.take n)) r) := by
  have l := (List.getElem?_eq_some_iff.mp h).1
  obtain ⟨ts, e⟩ := trs_pre (rows.take (n + 1)) (rows.drop (n + 1))
  rw [List.take_append_drop, take_snoc h, trs_snoc] at e
  have l2 : (trs (rows.take n)).length = n := by rw [trs_len, List.length_take]; omega
  rw [e, List.append_assoc, List.getElem?_append_right (by omega), l2, Nat.sub_self]
  rfl
/-- each cut's rows lie ahead of it -/
def Par (rows : List Rw) : Prop := ∀ (n i j : Nat) (k : Int), rows[n]? = some (.cut i j k) → i < n ∧ j < n
theorem Par.take {rows : List Rw} (h : Par rows) (m : Nat) : Par (rows.take m) := fun n i j k e => by
  rw [List.getElem?_take] at e
  split at e
  · exact h n i j k e
  · cases e
theorem trs_at {rows : List Rw} (h : Par rows) {n i j : Nat} {k : Int} (e : rows[n]? = some (.cut i j k)) : ∃ ti tj, (trs rows)[i]? = some ti ∧ (trs rows)[j]? = some tj ∧ (trs rows)[n]? = some (.cut ti tj k) := by
  have l := (List.getElem?_eq_some_iff.mp e).1
  obtain ⟨li, lj⟩ := h n i j k e
  obtain ⟨ts, e2⟩ := trs_pre (rows.take n) (rows.drop n)
  rw [List.take_append_drop] at e2
  have l2 : (trs (rows.take n)).length = n := by rw [trs_len, List.length_take]; omega
  refine ⟨(trs (rows.take n)).getD i (.leaf 0), (trs (rows.take n)).getD j (.leaf 0), ?_, ?_, trs_get e⟩
  · rw [e2, List.getElem?_append_left (by omega), gdAt (by omega)]
    exact List.getElem?_eq_getElem _
  · rw [e2, List.getElem?_append_left (by omega), gdAt (by omega)]
    exact List.getElem?_eq_getElem _
theorem trs_book {rows : List Rw} {n m : Nat} (e : rows[n]? = some (.book m)) : (trs rows)[n]? = some (.leaf m) := trs_get e
theorem T.lt2 : ∀ t : T, t.pieces < 2 ^ t.depth
  | .leaf _ => by
    show 1 < 2 ^ 1
    decide
  | .cut t u _ => by
    have h1 := T.lt2 t
    have h2 := T.lt2 u
    have p1 : 2 ^ t.depth ≤ 2 ^ (max t.depth u.depth) := Nat.pow_le_pow_right (by decide) (Nat.le_max_left _ _)
    have p2 : 2 ^ u.depth ≤ 2 ^ (max t.depth u.depth) := Nat.pow_le_pow_right (by decide) (Nat.le_max_right _ _)
    show 1 + t.pieces + u.pieces < 2 ^ (1 + max t.depth u.depth)
    rw [Nat.add_comm 1 (max _ _), Nat.pow_succ]
    omega
theorem dep_le {rows : List Rw} (h : Par rows) : ∀ (n : Nat) {t : T}, (trs rows)[n]? = some t → t.depth ≤ n + 1 := by
  intro n
  induction n using Nat.strongRecOn with
  | ind n ih =>
    intro t e
    have l := (List.getElem?_eq_some_iff.mp e).1
    rw [trs_len] at l
    cases hr : rows[n]'l with
    | book m =>
      rw [trs_book (by rw [List.getElem?_eq_getElem l, hr])] at e
      cases e
      show 1 ≤ n + 1
      omega
    | cut i j k =>
      have er : rows[n]? = some (.cut i j k) := by rw [List.getElem?_eq_getElem l, hr]
      obtain ⟨li, lj⟩ := h n i j k er
      obtain ⟨ti, tj, e1, e2, e3⟩ := trs_at h er
      rw [e3] at e
      cases e
      have := ih i li e1
      have := ih j lj e2
      show 1 + max ti.depth tj.depth ≤ n + 1
      omega
def hOf (t : T) : Int := ((t.depth : Nat) : Int) - 1
theorem hts_trs {rows : List Rw} (h : Par rows) : hts rows = (trs rows).map hOf := by
  have key : ∀ n, hts (rows.take n) = (trs (rows.take n)).map hOf := by
    intro n
    induction n with
    | zero => rfl
    | succ n ih =>
      cases er : rows[n]? with
      | none =>
        have l : rows.length ≤ n := List.getElem?_eq_none_iff.mp er
        rw [List.take_of_length_le (by omega)]
        rw [List.take_of_length_le l] at ih
        exact ih
      | some r =>
        have l := (List.getElem?_eq_some_iff.mp er).1
        rw [take_snoc er, hts_snoc, trs_snoc, List.map_append, ih]
        congr 1
        have l2 : (trs (rows.take n)).length = n := by rw [trs_len, List.length_take]; omega
        cases r with
        | book m => rfl
        | cut i j k =>
          obtain ⟨li, lj⟩ := h n i j k er
          show [1 + (if ((trs (rows.take n)).map hOf).getD j 0 > ((trs (rows.take n)).map hOf).getD i 0 then ((trs (rows.take n)).map hOf).getD j 0 else ((trs (rows.take n)).map hOf).getD i 0)] = [hOf (.cut ((trs (rows.take n)).getD i (.leaf 0)) ((trs (rows.take n)).getD j (.leaf 0)) k)]
          rw [gdAt (by rw [List.length_map]; omega), gdAt (by rw [List.length_map]; omega), gdAt (by omega), gdAt (by omega), List.getElem_map, List.getElem_map]
          generalize (trs (rows.take n))[i]'(by omega) = ti
          generalize (trs (rows.take n))[j]'(by omega) = tj
          unfold hOf
          show _ = [((1 + max ti.depth tj.depth : Nat) : Int) - 1]
          congr 1
          split <;> omega
  have := key rows.length
  rw [List.take_length] at this
  exact this
theorem lad_par {css cls : List (List Int)} {rows : List Rw} (h : Lad css rows cls) : Par rows := fun n i j k e => by
  have l := (List.getElem?_eq_some_iff.mp e).1
  have l2 : n < cls.length := by rw [← h.1]; exact l
  have := (h.2 n _ _ e (List.getElem?_eq_getElem l2)).parts
  rw [List.length_take] at this
  omega
/-- a tree as data -/
def tdt : T → PyData
  | .leaf n => .tuple [.str "book", .int (n : Nat)]
  | .cut t u k => .tuple [.str "cut", tdt t, tdt u, .int k]
theorem dp_tree {K : PySem.W.Frag} {H : Hp} : ∀ {t : T} {v : V}, At H t v → Dp K H v (tdt t)
  | .leaf n, v, h => by
    obtain ⟨a, rfl, h⟩ := h
    exact .tup (.of h) (.cons (.str _) (.cons (.int _) .nil))
  | .cut t u k, v, h => by
    obtain ⟨a, x, y, rfl, h, h1, h2⟩ := h
    exact .tup (.of h) (.cons (.str _) (.cons (dp_tree h1) (.cons (dp_tree h2) (.cons (.int _) .nil))))
theorem ltree : ∀ t : T, PyData.canLay0 (tdt t) = true ∧ PyData.depth (tdt t) ≤ t.depth
  | .leaf n => by
    have b1 : PyData.strOk "book" = true := by decide +kernel
    exact ⟨by simp [tdt, PyData.canLay0, PyData.canLayAll0, b1], by simp [tdt, PyData.depth, PyData.depthAll, T.depth]⟩
  | .cut t u k => by
    have b1 : PyData.strOk "cut" = true := by decide +kernel
    obtain ⟨h1, h2⟩ := ltree t
    obtain ⟨h3, h4⟩ := ltree u
    refine ⟨by simp [tdt, PyData.canLay0, PyData.canLayAll0, b1, h1, h3], ?_⟩
    simp [tdt, PyData.depth, PyData.depthAll, T.depth]
    omega
theorem at_last {xs : List V} {x : V} (h : xs[xs.length - 1]? = some x) : atI xs (-1) = some x := by
  have l := (List.getElem?_eq_some_iff.mp h).1
  unfold atI ixN
  rw [if_neg (by decide), if_pos (by omega)]
  show xs[(-1 + (xs.length : Int)).toNat]? = some x
  rw [show (-1 + (xs.length : Int)).toNat = xs.length - 1 by omega]
  exact h
theorem All2.same {H H' : Hp} {vs : List V} {ts : List T} (a : All2 (fun v t => At H t v) vs ts) {F : Addr → Prop} (k : Ke F H H') : All2 (fun v t => At H' t v) vs ts := a.imp fun _ _ h => h.ke k
end Bkg
namespace Bkp
open PySem PySem.Spec PyProof.Rows L2 GxR Nw Dr Kp Se Cl Ct Lr Lp Ll Od Wg Wl Wk Tr Bkg
/-- what is known of the class TooGreat -/
structure CG (K : PySem.W.Frag) (mg : Str → Option Value) (C : Addr) : Prop where
  xP : PySem.W.excIn K C [.type "ValueError", .type "Exception", .type "BaseException", .type "object"] "ValueError.__new__" = true
  gP : mg "TooGreat" = some (.ref C)
  kP : PySem.W.keepIn K (.ref C) = true
  bP : PySem.W.subIn K (.ref C) (.type "BaseException") = some true
  tP : PySem.W.typeIn K (.ref C) = some (.type "type")
section
variable {P : Program} {w : World} {K : PySem.W.Frag} {mg : Str → Option Value} {base : Heap}
abbrev sPor : Stmt := topS 41
theorem scPor : FnScope ["row", "pieces_ahead"] ["row", "pieces_ahead"] (defScope sPor) := ⟨rfl, rfl, rfl, by decide +kernel, rfl, by decide +kernel, by decide +kernel⟩
def spPor : Sp := fun vs H Q _ => ∃ (v : V) (L : Addr) (r : Rw) (hs : List Int), vs = [v, .ref L] ∧ RowAt H v r ∧ H L = some (.lst (hs.map V.int)) ∧ (∀ i j k, r = .cut i j k → i < hs.length ∧ j < hs.length) ∧ Q (.int (pcOf hs r)) H
theorem ok_por {f : Addr} {fd : FuncData} {k : Nat} (F : Fun K "pieces_of_row" "pieces_of_row" sPor f fd) : FnOk P w K mg base CX0 (k + 1) f fd ["row", "pieces_ahead"] spPor := by
  refine F.ok scPor (fun vs H Q E h => ?_) (fun cdv A outer s H vs Q E hr h => ?_)
  · obtain ⟨v, L, r, hs, rfl, _⟩ := h
    rfl
  · obtain ⟨v, L, r, hs, rfl, ⟨a, rfl, ha⟩, hL, hp, q⟩ := h
    refine ⟨_, (pss_cons (ps_if (pt_cmpR op_eq (pe_ix ix_tup (pv 0) pe_int (fun _ _ => rfl)) pe_str (nomark _)) (pss_one (ps_ret pe_int)) pss_nil)
      (pss_one (ps_ret (pe_op op_add (pe_op op_add pe_int (pe_ix ix_list (pv 1) (pe_ix ix_tup (pv 0) pe_int (fun _ _ => rfl)) (fun _ _ => rfl))) (pe_ix ix_list (pv 1) (pe_ix ix_tup (pv 0) pe_int (fun _ _ => rfl)) (fun _ _ => rfl)))))), ?_⟩
    cases r with
    | book n => exact ⟨_, rfl, a, _, 0, .str "book", rfl, rfl, .of ha, rfl, rfl, true, by simp, q⟩
    | cut i j k =>
      obtain ⟨li, lj⟩ := hp i j k rfl
      refine ⟨_, rfl, a, _, 0, .str "cut", rfl, rfl, .of ha, rfl, rfl, false, by simp; decide, ?_⟩
      refine ⟨_, rfl, _, rfl, a, _, 1, .int (i : Nat), rfl, rfl, .of ha, rfl, L, _, _, .int hs[i], rfl, rfl, .of hL, at_of (j := i) rfl (by rw [List.getElem?_map, List.getElem?_eq_getElem li]; rfl), _, _, rfl, rfl, ?_⟩
      refine ⟨_, rfl, _, rfl, a, _, 2, .int (j : Nat), rfl, rfl, .of ha, rfl, L, _, _, .int hs[j], rfl, rfl, .of hL, at_of (j := j) rfl (by rw [List.getElem?_map, List.getElem?_eq_getElem lj]; rfl), _, _, rfl, rfl, ?_⟩
      have q : Q (.int (1 + hs.getD i 0 + hs.getD j 0)) H := q
      rw [gdAt li, gdAt lj] at q
      exact q
abbrev sPof : Stmt := topS 42
theorem scPof : FnScope ["book", "ladder", "told", "row"] ["book", "ladder"] (defScope sPof) := ⟨rfl, rfl, rfl, by decide +kernel, rfl, by decide +kernel, by decide +kernel⟩
def spPof (Po : Addr) : Sp := fun vs H Q _ => ∃ (b : V) (L : Addr) (css cls : List (List Int)) (rows : List Rw), vs = [b, .ref L] ∧ BL H b L css rows cls ∧ 0 < rows.length ∧ TabG H Po ∧ ∀ (t : T) H', Ke Nof H H' → (trs rows)[rows.length - 1]? = some t → Q (.int (t.pieces : Nat)) H'
theorem ok_pof {f fK fH Po : Addr} {fd fdK fdH : FuncData} {k : Nat} (F : Fun K "pieces_of" "pieces_of" sPof f fd) (FK : Fun K "check_ladder" "check_ladder" sChk fK fdK) (bK : Binds K fdK ["book", "ladder"] []) (gK : mg "check_ladder" = some (.ref fK)) (GK : FnOk P w K mg base CX0 8 fK fdK ["book", "ladder"] (spChk Po))
    (FH : Fun K "pieces_of_row" "pieces_of_row" sPor fH fdH) (bH : Binds K fdH ["row", "pieces_ahead"] []) (gH : mg "pieces_of_row" = some (.ref fH)) (GH : FnOk P w K mg base CX0 1 fH fdH ["row", "pieces_ahead"] spPor) :
    FnOk P w K mg base CX0 (k + 9) f fd ["book", "ladder"] (spPof Po) := by
  refine F.ok scPof (fun vs H Q E h => ?_) (fun cdv A outer s H vs Q E hr h => ?_)
  · obtain ⟨b, L, css, cls, rows, rfl, _⟩ := h
    rfl
  · obtain ⟨b, L, css, cls, rows, rfl, x, l0, tg, q⟩ := h
    have hr8 : Room 8 _ := hr.mono (by omega)
    have hr1 : Room 1 _ := hr.mono (by omega)
    refine ⟨_, (Evl.pss_cut (ps_expr (pe_call GK hr8 (by rfl) gK FK.kp bK .nil pass0 (pa_cons (pv 0) (pa_cons (pv 1) pa_nil))))
      (Evl.pss_cut (ps_set (i := 2) scPof.nd rfl (.inl rfl) (pe_lstN pa_nil))
      (Evl.pss_cut (ps_for PassesOwn.never rfl (pi_list (pv 1)) (pg_name (i := 3) scPof.nd rfl (.inl rfl)) (pss_one (ps_expr (pe_bm PySem.F.plainAttrs_list PySem.F.slot_list_append PySem.F.type_list_append mt_append (pv 2) (pa_cons (pe_call GH hr1 (by rfl) gH FH.kp bH .nil pass0 (pa_cons (pv 3) (pa_cons (pv 2) pa_nil))) pa_nil)))))
      (pss_one (ps_ret (pe_ix ix_list (pv 2) (pe_un un_neg pe_int) (fun _ _ => rfl))))))), ?_⟩
    refine Evl.q_cut (M := fun σ' H' => σ' = [some b, some (.ref L), none, none] ∧ Ke Nof H H') ?_ ?_
    · exact ⟨_, rfl, _, rfl, b, L, css, cls, rows, rfl, x, l0, tg, fun H1 k1 => ⟨rfl, k1⟩⟩
    rintro σ' H1 ⟨rfl, k1⟩
    refine Evl.q_cut (M := fun σ' H' => ∃ D : Addr, σ' = [some b, some (.ref L), some (.ref D), none] ∧ H1 D = none ∧ Same H1 H' ∧ H' D = some (.lst [])) ?_ ?_
    · exact ⟨Nat.zero_le _, fun D H2 nD s2 hD _ => ⟨D, rfl, nD, s2, hD⟩⟩
    rintro σ' H2 ⟨D, rfl, nD, s2, hD⟩
    have par := lad_par x.ld
    obtain ⟨rvs, hLr, aR⟩ := (x.ke k1 fun z => z).rw
    have l2 := x.le
    refine Evl.q_cut (M := fun σ' H' => ∃ y3 : Option V, σ' = [some b, some (.ref L), some (.ref D), y3] ∧ Ke Nof H1 H' ∧ H' D = some (.lst ((pcs rows).map V.int))) ?_ ?_
    · refine ⟨_, rfl, L, rfl, ⟨_, .of (s2 _ _ hLr)⟩, for_list (K := K) (a := L) (xs := rvs) (Pv := fun i σ H' => ∃ y3 : Option V, σ = [some b, some (.ref L), some (.ref D), y3] ∧ Ke Nof H1 H' ∧ H' D = some (.lst ((pcs (rows.take i)).map V.int))) ?_ (fun i σ H' _ p => ?_) ?_ ?_⟩
      · exact ⟨none, rfl, .same s2, hD⟩
      · obtain ⟨_, _, k3, _⟩ := p
        exact .of (k3.lst hLr fun z => z)
      · rintro i v σ H3 hv ⟨y3, rfl, k3, hD3⟩
        obtain ⟨r, hr', rv⟩ := aR.at hv
        have hl := pcs_len (rows.take i)
        have lr := (List.getElem?_eq_some_iff.mp hr').1
        rw [List.length_take] at hl
        refine ⟨_, rfl, .inl ⟨rfl, _, .of hD3⟩, _, rfl, _, rfl, v, D, r, _, rfl, rv.ke k3, hD3, fun a b' k' e => ?_, ?_⟩
        · subst e
          have := par _ _ _ _ hr'
          omega
        · refine ⟨D, _, _, rfl, rfl, hD3, by rw [List.length_map]; exact small1000 (by omega), ?_⟩
          refine ⟨_, rfl, k3.upd nD, ?_⟩
          rw [upd_same, take_snoc hr', pcs_snoc (fun a b' k' e => by
            subst e
            have := par _ _ _ _ hr'
            rw [List.length_take]
            omega), List.map_append]
          rfl
      · rintro σ H3 ⟨y3, rfl, k3, hD3⟩
        rw [aR.1, List.take_length] at hD3
        exact ⟨y3, rfl, k3, hD3⟩
    rintro σ' H3 ⟨y3, rfl, k3, hD3⟩
    have lt := trs_len rows
    have et := List.getElem?_eq_getElem (show rows.length - 1 < (trs rows).length by omega)
    generalize (trs rows)[rows.length - 1]'(by omega) = t at et
    refine ⟨_, rfl, _, rfl, D, _, _, .int ((t.pieces : Nat) : Int), rfl, rfl, .of hD3, at_last ?_, q t H3 (k1.trans k3) et⟩
    rw [List.length_map, pcs_len, List.getElem?_map]
    unfold pcs
    rw [List.getElem?_map, et]
    rfl
abbrev sTor : Stmt := topS 43
theorem scTor : FnScope ["row", "trees_ahead"] ["row", "trees_ahead"] (defScope sTor) := ⟨rfl, rfl, rfl, by decide +kernel, rfl, by decide +kernel, by decide +kernel⟩
def spTor : Sp := fun vs H Q _ => ∃ (v : V) (L : Addr) (r : Rw) (tvs : List V) (ts : List T), vs = [v, .ref L] ∧ RowAt H v r ∧ H L = some (.lst tvs) ∧ All2 (fun v t => At H t v) tvs ts ∧ (∀ i j k, r = .cut i j k → i < ts.length ∧ j < ts.length) ∧ ∀ v' H', Same H H' → At H' (trOf ts r) v' → Q v' H'
theorem ok_tor {f : Addr} {fd : FuncData} {k : Nat} (F : Fun K "tree_of_row" "tree_of_row" sTor f fd) : FnOk P w K mg base CX0 (k + 1) f fd ["row", "trees_ahead"] spTor := by
  refine F.ok scTor (fun vs H Q E h => ?_) (fun cdv A outer s H vs Q E hr h => ?_)
  · obtain ⟨v, L, r, tvs, ts, rfl, _⟩ := h
    rfl
  · obtain ⟨v, L, r, tvs, ts, rfl, ⟨a, rfl, ha⟩, hL, aT, hp, q⟩ := h
    refine ⟨_, (pss_cons (ps_if (pt_cmpR op_eq (pe_ix ix_tup (pv 0) pe_int (fun _ _ => rfl)) pe_str (nomark _)) (pss_one (ps_ret (pv 0))) pss_nil)
      (pss_one (ps_ret (pe_tupN (pa_cons pe_str (pa_cons (pe_ix ix_list (pv 1) (pe_ix ix_tup (pv 0) pe_int (fun _ _ => rfl)) (fun _ _ => rfl)) (pa_cons (pe_ix ix_list (pv 1) (pe_ix ix_tup (pv 0) pe_int (fun _ _ => rfl)) (fun _ _ => rfl)) (pa_cons (pe_ix ix_tup (pv 0) pe_int (fun _ _ => rfl)) pa_nil)))))))), ?_⟩
    cases r with
    | book n =>
      refine ⟨_, rfl, a, _, 0, .str "book", rfl, rfl, .of ha, rfl, rfl, true, by simp, ?_⟩
      exact ⟨_, rfl, q _ H (Same.refl _) ⟨a, rfl, ha⟩⟩
    | cut i j k =>
      obtain ⟨li, lj⟩ := hp i j k rfl
      obtain ⟨vi, hvi, ai⟩ := aT.atR (List.getElem?_eq_getElem li)
      obtain ⟨vj, hvj, aj⟩ := aT.atR (List.getElem?_eq_getElem lj)
      refine ⟨_, rfl, a, _, 0, .str "cut", rfl, rfl, .of ha, rfl, rfl, false, by simp; decide, ?_⟩
      refine ⟨_, rfl, _, rfl, a, _, 1, .int (i : Nat), rfl, rfl, .of ha, rfl, L, _, _, vi, rfl, rfl, .of hL, at_of (j := i) rfl hvi, ?_⟩
      refine ⟨_, rfl, _, rfl, a, _, 2, .int (j : Nat), rfl, rfl, .of ha, rfl, L, _, _, vj, rfl, rfl, .of hL, at_of (j := j) rfl hvj, ?_⟩
      refine ⟨_, rfl, a, _, 3, .int k, rfl, rfl, .of ha, rfl, by show 4 ≤ sizeLine; decide, fun p H1 np s1 hp _ => ?_⟩
      refine q _ H1 s1 ?_
      show At H1 (.cut (ts.getD i (.leaf 0)) (ts.getD j (.leaf 0)) k) _
      rw [gdAt li, gdAt lj]
      exact ⟨p, vi, vj, rfl, hp, ai.ke (Ke.same (F := Nof) s1), aj.ke (Ke.same (F := Nof) s1)⟩
abbrev sTof : Stmt := topS 44
theorem scTof : FnScope ["book", "ladder", "trees", "row"] ["book", "ladder"] (defScope sTof) := ⟨rfl, rfl, rfl, by decide +kernel, rfl, by decide +kernel, by decide +kernel⟩
def spTof (C Po : Addr) : Sp := fun vs H Q E => ∃ (b : V) (L : Addr) (css cls : List (List Int)) (rows : List Rw) (t : T), vs = [b, .ref L] ∧ BL H b L css rows cls ∧ 0 < rows.length ∧ TabG H Po ∧ (trs rows)[rows.length - 1]? = some t ∧
  (360 < t.pieces ∨ 40 < t.depth → ∀ H', Ke Nof H H' → E (.ref C) none H') ∧ (t.pieces ≤ 360 → t.depth ≤ 40 → ∀ v H', Ke Nof H H' → At H' t v → Q v H')
theorem ok_tof {f fP fE fH C Po : Addr} {fd fdP fdE fdH : FuncData} {tk tk' : Tok} (F : Fun K "tree_of" "tree_of" sTof f fd) (C' : CG K mg C) (M3 : mg "MOST_PIECES" = some (.int 360 tk)) (M4 : mg "MOST_WITHIN" = some (.int 40 tk'))
    (FP : Fun K "pieces_of" "pieces_of" sPof fP fdP) (bP : Binds K fdP ["book", "ladder"] []) (gP : mg "pieces_of" = some (.ref fP)) (GP : FnOk P w K mg base CX0 9 fP fdP ["book", "ladder"] (spPof Po))
    (FE : Fun K "heights" "heights" sHei fE fdE) (bE : Binds K fdE ["book", "ladder"] []) (gE : mg "heights" = some (.ref fE)) (GE : FnOk P w K mg base CX0 9 fE fdE ["book", "ladder"] (spHei Po))
    (FH : Fun K "tree_of_row" "tree_of_row" sTor fH fdH) (bH : Binds K fdH ["row", "trees_ahead"] []) (gH : mg "tree_of_row" = some (.ref fH)) (GH : FnOk P w K mg base CX0 1 fH fdH ["row", "trees_ahead"] spTor) :
    Gx2.FnX P w K mg base (L2.CX P w) 10 f fd ["book", "ladder"] (spTof C Po) := by
  refine Gx2.okX F scTof (fun vs H Q E h => ?_) (fun cdv A outer s H vs Q E gd0 hr h => ?_)
  · obtain ⟨b, L, css, cls, rows, t, rfl, _⟩ := h
    rfl
  · obtain ⟨b, L, css, cls, rows, t, rfl, x, l0, tg, et, q1, q2⟩ := h
    have hr9 : Room 9 _ := hr.mono (by omega)
    have hr1 : Room 1 _ := hr.mono (by omega)
    have gd : (A.deeper (envOfC "tree_of" (defScope sTof) s.heap.objs.size f cdv)).guards = some [] := gd0
    refine ⟨_, (Evl.pss_cut (ps_if (PW.pt (pw_or (pt_cmpR op_gt (pe_call GP hr9 (by rfl) gP FP.kp bP .nil pass0 (pa_cons (pv 0) (pa_cons (pv 1) pa_nil))) (pe_glob (v := .int 360) rfl M3 ⟨_, rfl⟩) (nomark _)) (pw_or1 (pt_cmpR op_gt (pe_op op_add (pe_ix ix_list (pe_call GE hr9 (by rfl) gE FE.kp bE .nil pass0 (pa_cons (pv 0) (pa_cons (pv 1) pa_nil))) (pe_un un_neg pe_int) (fun _ _ => rfl)) pe_int) (pe_glob (v := .int 40) rfl M4 ⟨_, rfl⟩) (nomark _))))) (pss_one (ps_raise rfl (takes_of rfl rfl rfl rfl) (SkE.pmk_own1 PySem.F.excBase_ValueError C'.xP C'.gP C'.kP (raises_own C'.bP C'.tP) rfl pe_str))) pss_nil)
      (PSs.nox (Evl.pss_cut (ps_set (i := 2) scTof.nd rfl (.inl rfl) (pe_lstN pa_nil))
      (Evl.pss_cut (ps_for PassesOwn.never rfl (pi_list (pv 1)) (pg_name (i := 3) scTof.nd rfl (.inl rfl)) (pss_one (ps_expr (pe_bm PySem.F.plainAttrs_list PySem.F.slot_list_append PySem.F.type_list_append mt_append (pv 2) (pa_cons (pe_call GH hr1 (by rfl) gH FH.kp bH .nil pass0 (pa_cons (pv 3) (pa_cons (pv 2) pa_nil))) pa_nil)))))
      (pss_one (ps_ret (pe_ix ix_list (pv 2) (pe_un un_neg pe_int) (fun _ _ => rfl)))))))), ?_⟩
    have par := lad_par x.ld
    have l2 := x.le
    have lt := trs_len rows
    refine Evl.q_cut (M := fun σ' H' => σ' = [some b, some (.ref L), none, none] ∧ Ke Nof H H' ∧ t.pieces ≤ 360 ∧ t.depth ≤ 40) ?_ ?_
    · refine ⟨_, rfl, _, rfl, b, L, css, cls, rows, rfl, x, l0, tg, fun t' H1 k1 et' => ?_⟩
      rw [et] at et'
      cases et'
      refine ⟨_, _, rfl, rfl, _, rfl, ite2 (fun e => ?_) (fun e => ?_)⟩
      · have e : ((t.pieces : Nat) : Int) > 360 := of_decide_eq_true e
        exact q1 (.inl (by omega)) H1 k1
      · have e : ¬ ((t.pieces : Nat) : Int) > 360 := fun z => e (decide_eq_true z)
        refine ⟨_, rfl, _, rfl, b, L, css, cls, rows, rfl, x.ke k1 fun z => z, l0, k1.tabs _ tg, fun p H2 fr k2 hp => ?_⟩
        refine ⟨_, rfl, p, _, _, .int (hOf t), rfl, rfl, .of hp, at_last ?_, _, _, rfl, rfl, _, _, rfl, rfl, _, rfl, ite2 (fun e2 => ?_) (fun e2 => ?_)⟩
        · rw [List.length_map, hts_len, List.getElem?_map, hts_trs par, List.getElem?_map, et]
          rfl
        · have e2 : hOf t + 1 > 40 := of_decide_eq_true e2
          unfold hOf at e2
          exact q1 (.inr (by omega)) H2 (k1.trans k2)
        · have e2 : ¬ hOf t + 1 > 40 := fun z => e2 (decide_eq_true z)
          unfold hOf at e2
          exact ⟨rfl, k1.trans k2, by omega, by omega⟩
    rintro σ' H1 ⟨rfl, k1, b1, b2⟩
    refine Evl.q_cut (M := fun σ' H' => ∃ D : Addr, σ' = [some b, some (.ref L), some (.ref D), none] ∧ H1 D = none ∧ Same H1 H' ∧ H' D = some (.lst [])) ?_ ?_
    · exact ⟨Nat.zero_le _, fun D H2 nD s2 hD _ => ⟨D, rfl, nD, s2, hD⟩⟩
    rintro σ' H2 ⟨D, rfl, nD, s2, hD⟩
    obtain ⟨rvs, hLr, aR⟩ := (x.ke k1 fun z => z).rw
    refine Evl.q_cut (M := fun σ' H' => ∃ (y3 : Option V) (tvs : List V), σ' = [some b, some (.ref L), some (.ref D), y3] ∧ Ke Nof H1 H' ∧ H' D = some (.lst tvs) ∧ All2 (fun v t => At H' t v) tvs (trs rows)) ?_ ?_
    · refine ⟨_, rfl, L, rfl, ⟨_, .of (s2 _ _ hLr)⟩, for_list (K := K) (a := L) (xs := rvs) (Pv := fun i σ H' => ∃ (y3 : Option V) (tvs : List V), σ = [some b, some (.ref L), some (.ref D), y3] ∧ Ke Nof H1 H' ∧ H' D = some (.lst tvs) ∧ All2 (fun v t => At H' t v) tvs (trs (rows.take i))) ?_ (fun i σ H' _ p => ?_) ?_ ?_⟩
      · exact ⟨none, [], rfl, .same s2, hD, .nil⟩
      · obtain ⟨_, _, _, k3, _⟩ := p
        exact .of (k3.lst hLr fun z => z)
      · rintro i v σ H3 hv ⟨y3, tvs, rfl, k3, hD3, aT⟩
        obtain ⟨r, hr', rv⟩ := aR.at hv
        have hl := trs_len (rows.take i)
        have lr := (List.getElem?_eq_some_iff.mp hr').1
        rw [List.length_take] at hl
        have la := aT.1
        refine ⟨_, rfl, .inl ⟨rfl, _, .of hD3⟩, _, rfl, _, rfl, v, D, r, tvs, _, rfl, rv.ke k3, hD3, aT, fun a b' k' e => ?_, fun v' H4 s4 at' => ?_⟩
        · subst e
          have := par _ _ _ _ hr'
          omega
        · have hD4 := s4 _ _ hD3
          refine ⟨D, _, _, rfl, rfl, hD4, small1000 (by omega), ?_⟩
          refine ⟨_, _, rfl, (k3.trans (.same s4)).upd nD, upd_same, ?_⟩
          rw [take_snoc hr', trs_snoc]
          exact All2.snoc (aT.imp fun _ _ h => (h.ke (Ke.same (F := Nof) s4)).wr hD4) (at'.wr hD4)
      · rintro σ H3 ⟨y3, tvs, rfl, k3, hD3, aT⟩
        rw [aR.1, List.take_length] at aT
        exact ⟨y3, tvs, rfl, k3, hD3, aT⟩
    rintro σ' H3 ⟨y3, tvs, rfl, k3, hD3, aT⟩
    obtain ⟨v, hv, av⟩ := aT.atR et
    refine ⟨_, rfl, _, rfl, D, _, _, v, rfl, rfl, .of hD3, at_last ?_, q2 b1 b2 v H3 (k1.trans k3) av⟩
    rw [aT.1, lt]
    exact hv
theorem cx_down {k : Nat} {f : Addr} {fd : FuncData} {ps : List Str} {sp : Sp} (F : Gx2.FnX P w K mg base (L2.CX P w) k f fd ps sp) : Gx2.FnX P w K mg base CX0 k f fd ps (fun vs H Q _ => sp vs H Q fun _ _ _ => False) :=
  ⟨fun us H Q E h => F.len us H Q _ h, fun A outer s H args us vs Q E gd room env bind rel ask => codeAny_mono (F.run A outer s H args us vs Q (fun _ _ _ => False) gd room env bind rel ask) fun r s' z => by
    match r, z with
    | .ok (.ret u), z => exact z
    | .error e, z =>
      obtain ⟨_, _, _, _, _, _, _, _, _, _, _, _, hW⟩ := z
      exact hW.elim⟩
end
end Bkp
namespace Ro
open PySem PySem.Spec PyProof.Rows L2 GxR Nw Dr Kp Se Ct Lr Lp Ll Od Tr Bkg
/-! ### the rows of a tree -/
noncomputable def pick {α : Type} (p : Prop) (a b : α) : α := @ite α p (Classical.propDecidable p) a b
theorem pick_pos {α : Type} {p : Prop} {a b : α} (h : p) : pick p a b = a := by
  unfold pick
  exact if_pos h
theorem pick_neg {α : Type} {p : Prop} {a b : α} (h : ¬ p) : pick p a b = b := by
  unfold pick
  exact if_neg h
/-- the first place -/
noncomputable def ix : List T → T → Nat
  | [], _ => 0
  | x :: xs, t => pick (x = t) 0 (ix xs t + 1)
theorem ix_mem : ∀ {l : List T} {t : T}, t ∈ l → l[ix l t]? = some t
  | [], t, h => nomatch h
  | x :: xs, t, h => by
    unfold ix
    by_cases e : x = t
    · rw [pick_pos e, e]
      rfl
    · rw [pick_neg e, List.getElem?_cons_succ]
      exact ix_mem ((List.mem_cons.mp h).resolve_left fun z => e z.symm)
theorem ix_lt {l : List T} {t : T} (h : t ∈ l) : ix l t < l.length := (List.getElem?_eq_some_iff.mp (ix_mem h)).1
theorem ix_app : ∀ {l m : List T} {t : T}, t ∈ l → ix (l ++ m) t = ix l t
  | [], m, t, h => nomatch h
  | x :: xs, m, t, h => by
    show (pick (x = t) 0 (ix (xs ++ m) t + 1)) = pick (x = t) 0 (ix xs t + 1)
    by_cases e : x = t
    · rw [pick_pos e, pick_pos e]
    · rw [pick_neg e, pick_neg e, ix_app ((List.mem_cons.mp h).resolve_left fun z => e z.symm)]
theorem ix_end : ∀ {l : List T} {t : T}, t ∉ l → ix (l ++ [t]) t = l.length
  | [], t, _ => pick_pos rfl
  | x :: xs, t, h => by
    show (pick (x = t) 0 (ix (xs ++ [t]) t + 1)) = xs.length + 1
    rw [pick_neg fun e : x = t => h (e ▸ List.mem_cons_self), ix_end fun z => h (List.mem_cons_of_mem _ z)]
theorem ix_before : ∀ {l : List T} {t z : T} {m : Nat}, m < ix l t → l[m]? = some z → z ≠ t
  | [], t, z, m, h, e => nomatch e
  | x :: xs, t, z, m, h, e => by
    have h : m < pick (x = t) 0 (ix xs t + 1) := h
    by_cases c : x = t
    · rw [pick_pos c] at h
      omega
    · rw [pick_neg c] at h
      cases m with
      | zero =>
        have e : some x = some z := e
        rw [← Option.some.inj e]
        exact c
      | succ m => exact ix_before (l := xs) (show m < ix xs t by omega) e
theorem ix_inj {l : List T} {a b : T} (ha : a ∈ l) (hb : b ∈ l) (e : ix l a = ix l b) : a = b := by
  have h := ix_mem ha
  rw [e, ix_mem hb] at h
  exact (Option.some.inj h).symm
/-- the row of a tree behind others -/
noncomputable def rowOf (ts : List T) : T → Rw
  | .leaf n => .book n
  | .cut a b k => .cut (ix ts a) (ix ts b) k
def In2 (ts : List T) : T → Prop
  | .leaf _ => True
  | .cut a b _ => a ∈ ts ∧ b ∈ ts
theorem In2.mono {ts us : List T} {t : T} (h : In2 ts t) (s : ∀ x ∈ ts, x ∈ us) : In2 us t := by
  cases t with
  | leaf n => trivial
  | cut a b k => exact ⟨s _ h.1, s _ h.2⟩
theorem rowOf_app {ts m : List T} {t : T} (h : In2 ts t) : rowOf (ts ++ m) t = rowOf ts t := by
  cases t with
  | leaf n => rfl
  | cut a b k =>
    obtain ⟨h1, h2⟩ := h
    show Rw.cut (ix (ts ++ m) a) (ix (ts ++ m) b) k = Rw.cut (ix ts a) (ix ts b) k
    rw [ix_app h1, ix_app h2]
theorem rowOf_inj {ts : List T} {s t : T} (hs : In2 ts s) (ht : In2 ts t) (e : rowOf ts s = rowOf ts t) : s = t := by
  cases s with
  | leaf n =>
    cases t with
    | leaf m =>
      have e : Rw.book n = Rw.book m := e
      rw [Rw.book.inj e]
    | cut a b k =>
      have e : Rw.book n = Rw.cut (ix ts a) (ix ts b) k := e
      cases e
  | cut a b k =>
    cases t with
    | leaf m =>
      have e : Rw.cut (ix ts a) (ix ts b) k = Rw.book m := e
      cases e
    | cut a' b' k' =>
      have e : Rw.cut (ix ts a) (ix ts b) k = Rw.cut (ix ts a') (ix ts b') k' := e
      obtain ⟨e1, e2, e3⟩ := Rw.cut.inj e
      rw [ix_inj hs.1 ht.1 e1, ix_inj hs.2 ht.2 e2, e3]
/-- pieces told once, each behind its parts -/
structure Gd (ts : List T) : Prop where
  nd : ts.Nodup
  cl : ∀ (n : Nat) (t : T), ts[n]? = some t → In2 (ts.take n) t
theorem Gd.nil : Gd [] := ⟨.nil, fun n t h => nomatch h⟩
theorem Gd.in2 {ts : List T} {t : T} (g : Gd ts) (h : t ∈ ts) : In2 ts t := by
  obtain ⟨n, e⟩ := List.getElem?_of_mem h
  exact (g.cl n t e).mono fun x hx => List.mem_of_mem_take hx
theorem Gd.snoc {ts : List T} {t : T} (g : Gd ts) (n : t ∉ ts) (h : In2 ts t) : Gd (ts ++ [t]) := by
  refine ⟨?_, fun i s e => ?_⟩
  · rw [List.nodup_append]
    refine ⟨g.nd, by simp, fun a ha b hb z => ?_⟩
    rw [List.mem_singleton.mp hb] at z
    exact n (z ▸ ha)
  · by_cases c : i < ts.length
    · rw [List.getElem?_append_left c] at e
      rw [List.take_append_of_le_length (by omega)]
      exact g.cl i s e
    · have l := (List.getElem?_eq_some_iff.mp e).1
      rw [List.length_append, List.length_singleton] at l
      obtain rfl : i = ts.length := by omega
      rw [List.getElem?_append_right (Nat.le_refl _), Nat.sub_self] at e
      obtain rfl : t = s := Option.some.inj e
      rw [List.take_left]
      exact h
noncomputable def dd1 (ts : List T) (t : T) : List T := pick (t ∈ ts) ts (ts ++ [t])
noncomputable def dd (ts l : List T) : List T := l.foldl dd1 ts
theorem dd_app (ts a b : List T) : dd ts (a ++ b) = dd (dd ts a) b := List.foldl_append ..
theorem dd_snoc (ts a : List T) (t : T) : dd ts (a ++ [t]) = dd1 (dd ts a) t := by
  rw [dd_app]
  rfl
theorem dd1_step {ts : List T} {t : T} (g : Gd ts) (h : In2 ts t) : Gd (dd1 ts t) ∧ t ∈ dd1 ts t ∧ ∃ m, dd1 ts t = ts ++ m ∧ ∀ x ∈ m, x = t := by
  unfold dd1
  by_cases c : t ∈ ts
  · rw [pick_pos c]
    exact ⟨g, c, [], (List.append_nil _).symm, fun x hx => nomatch hx⟩
  · rw [pick_neg c]
    exact ⟨g.snoc c h, List.mem_append_right _ (List.mem_singleton_self _), [t], rfl, fun x hx => List.mem_singleton.mp hx⟩
theorem dd1_len (ts : List T) (t : T) : (dd1 ts t).length ≤ ts.length + 1 := by
  unfold dd1
  by_cases c : t ∈ ts
  · rw [pick_pos c]
    omega
  · rw [pick_neg c, List.length_append]
    exact Nat.le_refl _
theorem dd_len : ∀ (l ts : List T), (dd ts l).length ≤ ts.length + l.length
  | [], ts => Nat.le_refl _
  | t :: l, ts => by
    have h1 := dd_len l (dd1 ts t)
    have h2 := dd1_len ts t
    show (dd (dd1 ts t) l).length ≤ ts.length + (l.length + 1)
    omega
theorem dd_sub : ∀ (l ts : List T), ∀ x ∈ dd ts l, x ∈ ts ∨ x ∈ l
  | [], ts, x, h => .inl h
  | t :: l, ts, x, h => by
    rcases dd_sub l (dd1 ts t) x h with z | z
    · unfold dd1 at z
      by_cases c : t ∈ ts
      · rw [pick_pos c] at z
        exact .inl z
      · rw [pick_neg c] at z
        rcases List.mem_append.mp z with z | z
        · exact .inl z
        · exact .inr (by rw [List.mem_singleton.mp z]; exact List.mem_cons_self)
    · exact .inr (List.mem_cons_of_mem _ z)
theorem dd_cut (ts : List T) (a b : T) (k : Int) : dd ts (T.cut a b k).all = dd1 (dd (dd ts a.all) b.all) (.cut a b k) := by
  show dd ts (a.all ++ b.all ++ [T.cut a b k]) = _
  rw [dd_snoc, dd_app]
theorem dd_tree : ∀ (t : T) {ts : List T}, Gd ts → Gd (dd ts t.all) ∧ t ∈ dd ts t.all ∧ ∃ m, dd ts t.all = ts ++ m
  | .leaf n, ts, g => by
    obtain ⟨h1, h2, m, h3, _⟩ := dd1_step (t := .leaf n) g trivial
    exact ⟨h1, h2, m, h3⟩
  | .cut a b k, ts, g => by
    obtain ⟨g1, i1, m1, e1⟩ := dd_tree a g
    obtain ⟨g2, i2, m2, e2⟩ := dd_tree b g1
    have i3 : a ∈ dd (dd ts a.all) b.all := by
      rw [e2]
      exact List.mem_append_left _ i1
    obtain ⟨h1, h2, m, h3, _⟩ := dd1_step (t := .cut a b k) g2 ⟨i3, i2⟩
    rw [dd_cut]
    refine ⟨h1, h2, m1 ++ m2 ++ m, ?_⟩
    rw [h3, e2, e1]
    simp only [List.append_assoc]
theorem gd_all (t : T) : Gd (dd [] t.all) := (dd_tree t .nil).1
noncomputable def rws (ts : List T) : List Rw := ts.map (rowOf ts)
theorem rws_len (ts : List T) : (rws ts).length = ts.length := List.length_map _
theorem rws_at {ts : List T} {n : Nat} {t : T} (h : ts[n]? = some t) : (rws ts)[n]? = some (rowOf ts t) := by
  unfold rws
  rw [List.getElem?_map, h]
  rfl
theorem rws_snoc {ts : List T} {t : T} (g : Gd ts) (h : In2 ts t) : rws (ts ++ [t]) = rws ts ++ [rowOf ts t] := by
  unfold rws
  rw [List.map_append]
  congr 1
  · exact List.map_congr_left fun s hs => rowOf_app (g.in2 hs)
  · show [rowOf (ts ++ [t]) t] = [rowOf ts t]
    rw [rowOf_app h]
/-- put back, they are the pieces -/
theorem trs_rws {ts : List T} (g : Gd ts) : ∀ n, n ≤ ts.length → trs ((rws ts).take n) = ts.take n
  | 0, _ => rfl
  | n + 1, l => by
    have ih := trs_rws g n (by omega)
    have e := List.getElem?_eq_getElem (show n < ts.length by omega)
    generalize ts[n]'(by omega) = t at e
    rw [take_snoc (rws_at e), trs_snoc, ih, take_snoc e]
    congr 1
    cases t with
    | leaf m => rfl
    | cut a b k =>
      obtain ⟨ha, hb⟩ := g.cl n _ e
      have key : ∀ x ∈ ts.take n, (ts.take n).getD (ix ts x) (.leaf 0) = x := fun x hx => by
        have e1 : ix ts x = ix (ts.take n) x := by
          have := ix_app (m := ts.drop n) hx
          rw [List.take_append_drop] at this
          exact this
        rw [e1, List.getD_eq_getElem?_getD, ix_mem hx]
        rfl
      show [T.cut ((ts.take n).getD (ix ts a) (.leaf 0)) ((ts.take n).getD (ix ts b) (.leaf 0)) k] = _
      rw [key a ha, key b hb]
theorem trs_all {ts : List T} (g : Gd ts) : trs (rws ts) = ts := by
  have := trs_rws g ts.length (Nat.le_refl _)
  rw [List.take_length, ← rws_len ts, List.take_length] at this
  exact this
/-- the last one is the tree -/
theorem dd_last {css : List (List Int)} {t : T} {c : List Int} (h : Tr.Cl css t c) : (dd [] t.all)[(dd [] t.all).length - 1]? = some t := by
  cases t with
  | leaf n =>
    have e : dd [] (T.leaf n).all = [T.leaf n] := pick_neg List.not_mem_nil
    rw [e]
    rfl
  | cut a b k =>
    obtain ⟨x, y, h1, h2, h3⟩ := id h
    have n : T.cut a b k ∉ dd (dd [] a.all) b.all := fun z => by
      have pp : (T.cut a b k).pieces = 1 + a.pieces + b.pieces := rfl
      rcases dd_sub _ _ _ z with z | z
      · rcases dd_sub _ _ _ z with z | z
        · exact nomatch z
        · have := (T.all_sub h1 _ z).2.1
          omega
      · have := (T.all_sub h2 _ z).2.1
        omega
    rw [dd_cut]
    unfold dd1
    rw [pick_neg n, List.length_append, List.length_singleton, Nat.add_sub_cancel, List.getElem?_append_right (Nat.le_refl _), Nat.sub_self]
    rfl
/-- the claims of pieces -/
theorem cls_of {css : List (List Int)} : ∀ (ts : List T), (∀ t ∈ ts, ∃ c, Tr.Cl css t c) → ∃ cls : List (List Int), cls.length = ts.length ∧ ∀ (n : Nat) (t : T) (c : List Int), ts[n]? = some t → cls[n]? = some c → Tr.Cl css t c
  | [], _ => ⟨[], rfl, fun n t c h => nomatch h⟩
  | t :: r, h => by
    obtain ⟨c, hc⟩ := h t List.mem_cons_self
    obtain ⟨cls, l, a⟩ := cls_of r fun x hx => h x (List.mem_cons_of_mem _ hx)
    refine ⟨c :: cls, by rw [List.length_cons, List.length_cons, l], fun n s d h1 h2 => ?_⟩
    cases n with
    | zero =>
      rw [← Option.some.inj h1, ← Option.some.inj h2]
      exact hc
    | succ n => exact a n s d h1 h2
theorem lad_rws {css : List (List Int)} {ts : List T} (g : Gd ts) (h : ∀ t ∈ ts, ∃ c, Tr.Cl css t c) : ∃ cls, Lad css (rws ts) cls := by
  obtain ⟨cls, l, a⟩ := cls_of ts h
  refine ⟨cls, by rw [rws_len, l], fun n r c h1 h2 => ?_⟩
  have ln := (List.getElem?_eq_some_iff.mp h1).1
  rw [rws_len] at ln
  have e := List.getElem?_eq_getElem ln
  generalize ts[n]'ln = t at e
  rw [rws_at e] at h1
  obtain rfl := (Option.some.inj h1).symm
  have ct := a n t c e h2
  cases t with
  | leaf m => exact ct
  | cut u v k =>
    obtain ⟨x, y, c1, c2, cm⟩ := ct
    obtain ⟨hu, hv⟩ := g.cl n _ e
    have key : ∀ s z, s ∈ ts.take n → Tr.Cl css s z → (cls.take n)[ix ts s]? = some z := fun s z hs cz => by
      have e1 : ix ts s = ix (ts.take n) s := by
        have := ix_app (m := ts.drop n) hs
        rw [List.take_append_drop] at this
        exact this
      have li := ix_lt hs
      rw [List.length_take] at li
      have hi := ix_mem hs
      rw [List.getElem?_take_of_lt (by omega)] at hi
      rw [e1, List.getElem?_take_of_lt (by omega)]
      have lc : ix (ts.take n) s < cls.length := by omega
      have ec := List.getElem?_eq_getElem lc
      rw [ec, (a _ _ _ hi ec).one cz]
    exact ⟨x, y, key u x hu c1, key v y hv c2, cm⟩
/-! ### rows as keys -/
def keyR : Rw → List Key
  | .book n => [.inr "book", .inl (n : Nat)]
  | .cut i j k => [.inr "cut", .inl (i : Nat), .inl (j : Nat), .inl k]
theorem keyR_v (r : Rw) : (keyR r).map kV = r.vs := by cases r <;> rfl
theorem keyR_inj {r s : Rw} (e : keyR r = keyR s) : r = s := by
  cases r with
  | book n =>
    cases s with
    | book m =>
      simp only [keyR, List.cons.injEq, Sum.inl.injEq, Int.ofNat_inj, and_true, true_and] at e
      rw [e]
    | cut i j k => simp [keyR] at e
  | cut i j k =>
    cases s with
    | book m => simp [keyR] at e
    | cut i' j' k' =>
      simp only [keyR, List.cons.injEq, Sum.inl.injEq, Int.ofNat_inj, and_true, true_and] at e
      rw [e.1, e.2.1, e.2.2]
structure Dc (ts : List T) (kvs : List (List Key × V)) : Prop where
  ln : kvs.length ≤ ts.length
  «at» : ∀ t ∈ ts, valV kvs (keyR (rowOf ts t)) = some (.int (ix ts t : Nat))
  no : ∀ r, r ∉ rws ts → valV kvs (keyR r) = none
theorem Dc.nil : Dc [] [] := ⟨Nat.le_refl _, fun t h => (nomatch h), fun _ _ => rfl⟩
theorem rws_no {ts : List T} {t : T} (g : Gd ts) (n : t ∉ ts) (h : In2 ts t) : rowOf ts t ∉ rws ts := fun z => by
  obtain ⟨s, hs, e⟩ := List.mem_map.mp z
  exact n (rowOf_inj (g.in2 hs) h e ▸ hs)
theorem Dc.snoc {ts : List T} {kvs : List (List Key × V)} {t : T} (d : Dc ts kvs) (g : Gd ts) (n : t ∉ ts) (h : In2 ts t) : Dc (ts ++ [t]) (putK kvs (keyR (rowOf ts t)) (.int (ts.length : Nat))) := by
  refine ⟨?_, fun s hs => ?_, fun r hr => ?_⟩
  · have := length_putK kvs (keyR (rowOf ts t)) (.int (ts.length : Nat))
    have := d.ln
    rw [List.length_append, List.length_singleton]
    omega
  · rw [valV_put]
    rcases List.mem_append.mp hs with hs | hs
    · rw [rowOf_app (g.in2 hs), ix_app hs, if_neg fun z => n (rowOf_inj (g.in2 hs) h (keyR_inj z) ▸ hs)]
      exact d.at s hs
    · rw [List.mem_singleton.mp hs, rowOf_app h, if_pos rfl, ix_end n]
  · rw [rws_snoc g h, List.mem_append, List.mem_singleton] at hr
    rw [valV_put, if_neg fun z => hr (.inr (keyR_inj z))]
    exact d.no r fun z => hr (.inl z)
/-! ### the rows, shown -/
def RwB : Rw → Prop
  | .book n => n ≤ 200
  | .cut i j k => i ≤ 200 ∧ j ≤ 200 ∧ 1 ≤ k ∧ k ≤ 8
theorem lad_b {css cls : List (List Int)} {rows : List Rw} (ib : ∀ c ∈ css, IsCl c) (h : Lad css rows cls) (l1 : css.length ≤ 16) (l2 : rows.length ≤ 200) : ∀ r ∈ rows, RwB r := fun r hr => by
  obtain ⟨i, hi⟩ := List.getElem?_of_mem hr
  have li := (List.getElem?_eq_some_iff.mp hi).1
  have lc := h.1
  have rc := h.2 i r _ hi (List.getElem?_eq_getElem (show i < cls.length by omega))
  cases r with
  | book n =>
    have := (List.getElem?_eq_some_iff.mp rc).1
    show n ≤ 200
    omega
  | cut a b k =>
    have pa := rc.parts
    rw [List.length_take] at pa
    obtain ⟨x, y, h1, h2, c1, c2, _⟩ := rc
    have ix := h.isCl ib x (List.mem_of_mem_take (List.mem_of_getElem? h1))
    have := ix.says k c2
    exact ⟨by omega, by omega, c1, this.2.2⟩
theorem mid_ints : ∀ n : Fin 601, PyData.showable (.int ((n.val : Int) - 300)) = true ∧ (PyData.shown (.int ((n.val : Int) - 300))).length ≤ 4 := by decide +kernel
theorem sm_mid {n : Int} (h0 : -300 ≤ n) (h1 : n ≤ 300) : Sm 45 (.int n) := by
  have := mid_ints ⟨(n + 300).toNat, by omega⟩
  rw [show (((n + 300).toNat : Nat) : Int) - 300 = n by omega] at this
  exact ⟨this.1, rfl, by show 0 ≤ 6; decide, Nat.le_trans this.2 (by decide)⟩
theorem sm_txt {d : PyData} (h : (d.showable && !d.hasDict && decide (d.depth ≤ 2) && decide (d.shown.length ≤ 45)) = true) : Sm 45 d := by
  simp only [Bool.and_eq_true, decide_eq_true_eq, Bool.not_eq_true'] at h
  obtain ⟨⟨⟨h1, h2⟩, h3⟩, h4⟩ := h
  exact ⟨h1, h2, by omega, h4⟩
theorem sm_row {r : Rw} (h : RwB r) : Sm 400 (dat r) ∧ (dat r).depth ≤ 5 := by
  cases r with
  | book n =>
    have h : n ≤ 200 := h
    exact ⟨(SmAll.cons (sm_txt (d := .str "book") (by decide +kernel)) (Nat.zero_le _) (SmAll.cons (sm_mid (n := (n : Nat)) (by omega) (by omega)) (Nat.zero_le _) .nil)).tuple (n := 4) (by show 2 ≤ 4; decide) (by decide), by show Nat.max 0 (Nat.max 0 0) + 1 ≤ 5; decide⟩
  | cut i j k =>
    obtain ⟨h1, h2, h3, h4⟩ := h
    exact ⟨(SmAll.cons (sm_txt (d := .str "cut") (by decide +kernel)) (Nat.zero_le _) (SmAll.cons (sm_mid (n := (i : Nat)) (by omega) (by omega)) (Nat.zero_le _) (SmAll.cons (sm_mid (n := (j : Nat)) (by omega) (by omega)) (Nat.zero_le _) (SmAll.cons (sm_mid (n := k) (by omega) (by omega)) (Nat.zero_le _) .nil)))).tuple (n := 4) (by show 4 ≤ 4; decide) (by decide), by show Nat.max 0 (Nat.max 0 (Nat.max 0 (Nat.max 0 0))) + 1 ≤ 5; decide⟩
theorem sm_rows {rows : List Rw} (h : ∀ r ∈ rows, RwB r) (l : rows.length ≤ 500) : Sm 300000 (.list (rows.map dat)) :=
  (SmAll.of fun d hd => by
    obtain ⟨r, hr, rfl⟩ := List.mem_map.mp hd
    exact sm_row (h r hr)).list (n := 500) (by rw [List.length_map]; exact l) (by decide)
/-! ### the trees as data -/
theorem eqvA (x y : PyData) (xs ys : List PyData) : PyData.eqvAll (x :: xs) (y :: ys) = (PyData.eqv x y && PyData.eqvAll xs ys) := rfl
theorem eqvT (xs ys : List PyData) : PyData.eqv (.tuple xs) (.tuple ys) = PyData.eqvAll xs ys := rfl
theorem eqvI (x y : Int) : PyData.eqv (.int x) (.int y) = (x == y) := rfl
theorem eqvN : PyData.eqvAll [] [] = true := rfl
theorem eqv_bc : PyData.eqv (.str "book") (.str "cut") = false := by decide +kernel
theorem eqv_cb : PyData.eqv (.str "cut") (.str "book") = false := by decide +kernel
theorem eqv_bb : PyData.eqv (.str "book") (.str "book") = true := by decide +kernel
theorem eqv_cc : PyData.eqv (.str "cut") (.str "cut") = true := by decide +kernel
theorem tdt_l (n : Nat) : tdt (.leaf n) = .tuple [.str "book", .int (n : Nat)] := rfl
theorem tdt_c (a b : T) (k : Int) : tdt (.cut a b k) = .tuple [.str "cut", tdt a, tdt b, .int k] := rfl
theorem eqv_tdt (s : T) : ∀ t : T, PyData.eqv (tdt s) (tdt t) = true ↔ s = t := by
  induction s with
  | leaf n =>
    intro t
    cases t with
    | leaf m =>
      rw [tdt_l, tdt_l, eqvT, eqvA, eqvA, eqv_bb, eqvI, eqvN, Bool.true_and, Bool.and_true, beq_iff_eq]
      exact ⟨fun h => by rw [Int.ofNat_inj.mp h], fun h => by rw [T.leaf.inj h]⟩
    | cut a b k =>
      rw [tdt_l, tdt_c, eqvT, eqvA, eqv_bc, Bool.false_and]
      exact ⟨fun h => (nomatch h), fun h => (nomatch h)⟩
  | cut a b k iha ihb =>
    intro t
    cases t with
    | leaf m =>
      rw [tdt_l, tdt_c, eqvT, eqvA, eqv_cb, Bool.false_and]
      exact ⟨fun h => (nomatch h), fun h => (nomatch h)⟩
    | cut a' b' k' =>
      rw [tdt_c, tdt_c, eqvT, eqvA, eqvA, eqvA, eqvA, eqv_cc, eqvI, eqvN, Bool.true_and, Bool.and_true, Bool.and_eq_true, Bool.and_eq_true, beq_iff_eq, iha a', ihb b']
      exact ⟨fun ⟨h1, h2, h3⟩ => by rw [h1, h2, h3], fun h => ⟨(T.cut.inj h).1, (T.cut.inj h).2.1, (T.cut.inj h).2.2⟩⟩
theorem any_tdt (ts : List T) (t : T) : ((ts.map tdt).any fun z => PyData.eqv z (tdt t)) = true ↔ t ∈ ts := by
  rw [List.any_eq_true]
  constructor
  · rintro ⟨d, hd, e⟩
    obtain ⟨s, hs, rfl⟩ := List.mem_map.mp hd
    exact (eqv_tdt s t).mp e ▸ hs
  · exact fun h => ⟨_, List.mem_map_of_mem h, (eqv_tdt t t).mpr rfl⟩
theorem shaped_t {t : T} (h : t.depth ≤ 40) : SeqAt.shaped (tdt t) = true := by
  obtain ⟨h1, h2⟩ := Bkg.ltree t
  show (PyData.canLay0 (tdt t) && decide (PyData.depth (tdt t) ≤ 64)) = true
  rw [h1, decide_eq_true (by omega)]
  rfl
theorem lay_ts : ∀ ts : List T, (∀ t ∈ ts, t.depth ≤ 40) → PyData.canLayAll0 (ts.map tdt) = true ∧ PyData.depthAll (ts.map tdt) ≤ 40
  | [], _ => ⟨rfl, by decide⟩
  | t :: r, h => by
    obtain ⟨h1, h2⟩ := lay_ts r fun x hx => h x (List.mem_cons_of_mem _ hx)
    obtain ⟨h3, h4⟩ := Bkg.ltree t
    have h5 := h t List.mem_cons_self
    refine ⟨?_, Nat.max_le.mpr ⟨by omega, h2⟩⟩
    show (PyData.canLay0 (tdt t) && PyData.canLayAll0 (r.map tdt)) = true
    rw [h3, h1]
    rfl
theorem shaped_ts {ts : List T} (h : ∀ t ∈ ts, t.depth ≤ 40) : SeqAt.shaped (.list (ts.map tdt)) = true := by
  obtain ⟨h1, h2⟩ := lay_ts ts h
  show (PyData.canLayAll0 (ts.map tdt) && decide (PyData.depthAll (ts.map tdt) + 1 ≤ 64)) = true
  rw [h1, decide_eq_true (by omega)]
  rfl
theorem dp_ts {K : PySem.W.Frag} {H : Hp} : ∀ {vs : List V} {ts : List T}, All2 (fun v t => At H t v) vs ts → DpAll K H vs (ts.map tdt)
  | [], [], _ => .nil
  | [], r :: t, h => by cases h.1
  | v :: t, [], h => by cases h.1
  | v :: t, m :: u, h => .cons (Bkg.dp_tree (h.2 0 v m rfl rfl)) (dp_ts ⟨by have := h.1; simp only [List.length_cons] at this; omega, fun i x y h1 h2 => h.2 (i + 1) x y h1 h2⟩)
/-! ### what the program does -/
theorem lt1 {n : Nat} (h : n + 64 < cLine) : n + 1 < cLine := by omega
theorem ke_put {F : Addr → Prop} {H H1 : Hp} {p : Addr} {xs : List (List Key × V)} {o : HO} (k : Ke F H H1) (fp : F p) (h1 : H1 p = some (.dT xs)) : Ke F H (upd H1 p o) := by
  refine ⟨fun b x e t m => ?_, fun Q hQ => ?_, fun b ys e => ?_⟩
  · rw [upd_ne (fun z => m (by rw [z]; exact fp))]
    exact k.keep b x e t m
  · obtain ⟨qs, e2, t2⟩ := k.tabs Q hQ
    have n : Q ≠ p := fun z => by
      rw [z, h1] at e2
      cases e2
    exact ⟨qs, by rw [upd_ne n]; exact e2, t2⟩
  · have e2 := k.tups b ys e
    rw [upd_ne (fun z => by rw [z, h1] at e2; cases e2)]
    exact e2
theorem ke_wr {F : Addr → Prop} {H H1 : Hp} {p : Addr} {xs : List V} {o : HO} (k : Ke F H H1) (fp : F p) (h1 : H1 p = some (.lst xs)) : Ke F H (upd H1 p o) := by
  refine ⟨fun b x e t m => ?_, fun Q hQ => ?_, fun b ys e => ?_⟩
  · rw [upd_ne (fun z => m (by rw [z]; exact fp))]
    exact k.keep b x e t m
  · obtain ⟨qs, e2, t2⟩ := k.tabs Q hQ
    have n : Q ≠ p := fun z => by
      rw [z, h1] at e2
      cases e2
    exact ⟨qs, by rw [upd_ne n]; exact e2, t2⟩
  · have e2 := k.tups b ys e
    rw [upd_ne (fun z => by rw [z, h1] at e2; cases e2)]
    exact e2
theorem keN {F : Addr → Prop} {H H1 H2 : Hp} (a : Ke Nof H H1) (b : Ke F H1 H2) (n : ∀ x, F x → H x = none) : Ke Nof H H2 :=
  ⟨fun x o e t m => b.keep x o (a.keep x o e t m) t (fun z => by rw [n x z] at e; cases e), fun Q h => b.tabs Q (a.tabs Q h), fun x xs e => b.tups x xs (a.tups x xs e)⟩
section
variable {P : Program} {w : World} {K : PySem.W.Frag} {mg : Str → Option Value} {base : Heap}
abbrev sPut : Stmt := topS 45
theorem scPut : FnScope ["tree", "rows", "numbers", "row", "one", "other"] ["tree", "rows", "numbers"] (defScope sPut) := ⟨rfl, rfl, rfl, by decide +kernel, rfl, by decide +kernel, by decide +kernel⟩
abbrev RD (R D : Addr) : Addr → Prop := fun a => a = R ∨ a = D
structure Zl (mg : Str → Option Value) : Prop where
  z_len : mg "len" = none
def spPut (d : Nat) : Sp := fun vs H Q _ => ∃ (v : V) (R D : Addr) (t : T) (ts : List T) (kvs : List (List Key × V)), vs = [v, .ref R, .ref D] ∧ At H t v ∧ t.depth ≤ d ∧ Gd ts ∧ RwL H R (rws ts) ∧ H D = some (.dT kvs) ∧ Dc ts kvs ∧ R ≠ D ∧ ts.length + t.pieces ≤ 500 ∧
  ∀ kvs' H', Ke (RD R D) H H' → RwL H' R (rws (dd ts t.all)) → H' D = some (.dT kvs') → Dc (dd ts t.all) kvs' → Q (.int (ix (dd ts t.all) t : Nat)) H'
theorem ok_put {f : Addr} {fd : FuncData} (F : Fun K "put_rows" "put_rows" sPut f fd) (T : Zl mg) (bS : Binds K fd ["tree", "rows", "numbers"] []) (gS : mg "put_rows" = some (.ref f)) : ∀ d, FnOk P w K mg base CX0 (d + 1) f fd ["tree", "rows", "numbers"] (spPut d) := by
  intro d
  induction d with
  | zero =>
    refine F.ok scPut (fun vs H Q E h => ?_) (fun cdv A outer s H vs Q E hr h => ?_)
    · obtain ⟨v, R, D, t, ts, kvs, rfl, _⟩ := h
      rfl
    · obtain ⟨v, R, D, t, ts, kvs, rfl, _, h0, _⟩ := h
      have := t.pos
      omega
  | succ d ih =>
    refine F.ok scPut (fun vs H Q E h => ?_) (fun cdv A outer s H vs Q E hr h => ?_)
    · obtain ⟨v, R, D, t, ts, kvs, rfl, _⟩ := h
      rfl
    · obtain ⟨v, R, D, t, ts, kvs, rfl, ht, hd, g, hR, hD, dc, nRD, sz, q⟩ := h
      have hrd : Room (d + 1) _ := hr
      refine ⟨_, (pss_cons (ps_set (i := 3) scPut.nd rfl (.inl rfl) (pv 0))
      (Evl.pss_cut (ps_if (pt_cmpR op_eq (pe_ix ix_tup (pv 0) pe_int (fun _ _ => rfl)) pe_str (nomark _)) (pss_cons (ps_set (i := 4) scPut.nd rfl (.inl rfl) (pe_call ih hrd (by rfl) gS F.kp bS .nil pass0 (pa_cons (pe_ix ix_tup (pv 0) pe_int (fun _ _ => rfl)) (pa_cons (pv 1) (pa_cons (pv 2) pa_nil)))))
      (pss_cons (ps_set (i := 5) scPut.nd rfl (.inl rfl) (pe_call ih hrd (by rfl) gS F.kp bS .nil pass0 (pa_cons (pe_ix ix_tup (pv 0) pe_int (fun _ _ => rfl)) (pa_cons (pv 1) (pa_cons (pv 2) pa_nil)))))
      (pss_one (ps_set (i := 3) scPut.nd rfl (.inl rfl) (pe_tupN (pa_cons pe_str (pa_cons (pv 4) (pa_cons (pv 5) (pa_cons (pe_ix ix_tup (pv 0) pe_int (fun _ _ => rfl)) pa_nil))))))))) pss_nil)
      (Evl.pss_cut (ps_if (pt_cmp (pc_dnotin (lt1 hr.units) (pv 3) (pv 2))) (pss_cons (ps_dput (lt1 hr.units) (pv 2) (pv 3) (pe_callB call_len_seq (by rfl) T.z_len (by decide +kernel) (pa_cons (pv 1) pa_nil)) rfl)
      (pss_one (ps_expr (pe_bm PySem.F.plainAttrs_list PySem.F.slot_list_append PySem.F.type_list_append mt_append (pv 1) (pa_cons (pv 3) pa_nil))))) pss_nil)
      (pss_one (ps_ret (pe_dget (lt1 hr.units) (pv 2) (pv 3) (fun _ _ => rfl))))))), ?_⟩
      refine ⟨_, rfl, ?_⟩
      -- its row
      refine Evl.q_cut (M := fun σ' H' => ∃ (x : Addr) (y4 y5 : Option V) (ts2 : List Tr.T) (kvs2 : List (List Key × V)), σ' = [some v, some (.ref R), some (.ref D), some (.ref x), y4, y5] ∧ Ke (RD R D) H H' ∧ H' x = some (.tup (rowOf ts2 t).vs) ∧ Gd ts2 ∧ In2 ts2 t ∧ RwL H' R (rws ts2) ∧ H' D = some (.dT kvs2) ∧ Dc ts2 kvs2 ∧ dd ts t.all = dd1 ts2 t ∧ ts2.length + 1 ≤ 500) ?_ ?_
      · cases t with
        | leaf n =>
          obtain ⟨a, rfl, ha⟩ := ht
          refine ⟨_, rfl, a, _, 0, .str "book", rfl, rfl, .of ha, rfl, rfl, false, by simp; decide, ?_⟩
          exact ⟨a, none, none, ts, kvs, rfl, .refl _ _, ha, g, trivial, hR, hD, dc, rfl, sz⟩
        | cut a b k =>
          obtain ⟨a0, x, y, rfl, ha, h1, h2⟩ := ht
          have dp : (Tr.T.cut a b k).depth = 1 + max a.depth b.depth := rfl
          have pp : (Tr.T.cut a b k).pieces = 1 + a.pieces + b.pieces := rfl
          refine ⟨_, rfl, a0, _, 0, .str "cut", rfl, rfl, .of ha, rfl, rfl, true, by simp, ?_⟩
          refine ⟨_, rfl, a0, _, 1, x, rfl, rfl, .of ha, rfl, _, rfl, _, rfl, x, R, D, a, ts, kvs, rfl, h1, by omega, g, hR, hD, dc, nRD, by omega, fun kvs1 H1 k1 hR1 hD1 dc1 => ?_⟩
          obtain ⟨g1, i1, m1, e1⟩ := dd_tree a g
          have l1 := dd_len a.all ts
          rw [Tr.T.all_len] at l1
          refine ⟨_, rfl, a0, _, 2, y, rfl, rfl, .of (k1.tups _ _ ha), rfl, _, rfl, _, rfl, y, R, D, b, dd ts a.all, kvs1, rfl, h2.ke k1, by omega, g1, hR1, hD1, dc1, nRD, by omega, fun kvs2 H2 k2 hR2 hD2 dc2 => ?_⟩
          obtain ⟨g2, i2, m2, e2⟩ := dd_tree b g1
          have l2 := dd_len b.all (dd ts a.all)
          rw [Tr.T.all_len] at l2
          have k12 := k1.trans k2
          have i3 : a ∈ dd (dd ts a.all) b.all := by
            rw [e2]
            exact List.mem_append_left _ i1
          refine ⟨_, rfl, _, rfl, _, rfl, a0, _, 3, .int k, rfl, rfl, .of (k12.tups _ _ ha), rfl, by show 4 ≤ sizeLine; decide, fun p H3 np s3 hp _ => ?_⟩
          have e3 : ix (dd ts a.all) a = ix (dd (dd ts a.all) b.all) a := by
            rw [e2, ix_app i1]
          rw [e3] at hp
          exact ⟨p, _, _, dd (dd ts a.all) b.all, kvs2, rfl, k12.trans (.same s3), hp, g2, ⟨i3, i2⟩, hR2.ke (Ke.same (F := Nof) s3) fun z => z, s3 _ _ hD2, dc2, dd_cut ts a b k, by omega⟩
      rintro σ' H1 ⟨x, y4, y5, ts2, kvs2, rfl, k1, hx, g2, i2, hR1, hD1, dc1, e, sz2⟩
      rw [e] at q
      -- is it new
      refine Evl.q_cut (M := fun σ' H' => ∃ kvs3 : List (List Key × V), σ' = [some v, some (.ref R), some (.ref D), some (.ref x), y4, y5] ∧ Ke (RD R D) H H' ∧ H' x = some (.tup (rowOf (dd1 ts2 t) t).vs) ∧ RwL H' R (rws (dd1 ts2 t)) ∧ H' D = some (.dT kvs3) ∧ Dc (dd1 ts2 t) kvs3) ?_ ?_
      · refine ⟨_, rfl, _, rfl, D, _, rfl, DGet.t (k := keyR (rowOf ts2 t)) hD1 (by rw [keyR_v]; exact hx), _, rfl, ite2 (fun c1 => ?_) (fun c1 => ?_)⟩
        · have nin : t ∉ ts2 := fun z => by
            have c1 : (!(valV kvs2 (keyR (rowOf ts2 t))).isSome) = true := c1
            rw [dc1.at t z] at c1
            cases c1
          obtain ⟨ws, hW, aW⟩ := hR1
          have lw := aW.1
          rw [rws_len] at lw
          refine ⟨_, rfl, R, _, rfl, .inl (.of hW), _, rfl, _, rfl, D, _, rfl, DPut.t (k := keyR (rowOf ts2 t)) hD1 (by rw [keyR_v]; exact hx) (small1000 (by have := dc1.ln; omega)), ?_⟩
          rw [lw]
          have hD2 : upd H1 D (.dT (putK kvs2 (keyR (rowOf ts2 t)) (.int (ts2.length : Nat)))) D = some (.dT (putK kvs2 (keyR (rowOf ts2 t)) (.int (ts2.length : Nat)))) := upd_same
          have k2 : Ke (RD R D) H (upd H1 D (.dT (putK kvs2 (keyR (rowOf ts2 t)) (.int (ts2.length : Nat))))) := ke_put k1 (.inr rfl) hD1
          have k12 : Ke (· = D) H1 (upd H1 D (.dT (putK kvs2 (keyR (rowOf ts2 t)) (.int (ts2.length : Nat))))) := ke_put (.refl _ _) rfl hD1
          have hW2 := k12.keep _ _ hW (fun ps z => nomatch z) nRD
          generalize upd H1 D (.dT (putK kvs2 (keyR (rowOf ts2 t)) (.int (ts2.length : Nat)))) = H2 at hD2 k2 k12 hW2
          have hx2 := k12.tups _ _ hx
          refine ⟨_, rfl, .inl ⟨rfl, _, .of hW2⟩, _, rfl, R, _, _, rfl, rfl, hW2, small1000 (by omega), ?_⟩
          have ed : dd1 ts2 t = ts2 ++ [t] := pick_neg nin
          rw [ed]
          refine ⟨_, rfl, ke_wr k2 (.inl rfl) hW2, ?_, ?_, by rw [upd_ne (Ne.symm nRD)]; exact hD2, dc1.snoc g2 nin i2⟩
          · rw [rowOf_app i2, upd_ne (fun z => by rw [z, hW2] at hx2; cases hx2)]
            exact hx2
          · rw [rws_snoc g2 i2]
            exact ⟨_, upd_same, All2.snoc (aW.imp fun _ _ r => RowAt.wr (r.ke k12) hW2) (RowAt.wr ⟨x, rfl, hx2⟩ hW2)⟩
        · have inn : t ∈ ts2 := Classical.byContradiction fun z => c1 (by
            show (!(valV kvs2 (keyR (rowOf ts2 t))).isSome) = true
            rw [dc1.no _ (rws_no g2 z i2)]
            rfl)
          have ed : dd1 ts2 t = ts2 := pick_pos inn
          rw [ed]
          exact ⟨kvs2, rfl, k1, hx, hR1, hD1, dc1⟩
      rintro σ' H2 ⟨kvs3, rfl, k2, hx2, hR2, hD2, dc2⟩
      have gg := DGet.t (k := keyR (rowOf (dd1 ts2 t) t)) hD2 (by rw [keyR_v]; exact hx2)
      rw [dc2.at t (dd1_step g2 i2).2.1] at gg
      exact ⟨_, rfl, _, rfl, D, _, rfl, gg, q kvs3 H2 k2 hR2 hD2 dc2⟩
abbrev sRof : Stmt := topS 46
theorem scRof : FnScope ["tree", "rows"] ["tree"] (defScope sRof) := ⟨rfl, rfl, rfl, by decide +kernel, rfl, by decide +kernel, by decide +kernel⟩
def spRof (d : Nat) : Sp := fun vs H Q _ => ∃ (v : V) (t : T), vs = [v] ∧ At H t v ∧ t.depth ≤ d ∧ t.pieces ≤ 400 ∧ ∀ R H', H R = none → Ke Nof H H' → RwL H' R (rws (dd [] t.all)) → Q (.ref R) H'
theorem ok_rof {f fP : Addr} {fd fdP : FuncData} (F : Fun K "rows_of" "rows_of" sRof f fd) (FP : Fun K "put_rows" "put_rows" sPut fP fdP) (bP : Binds K fdP ["tree", "rows", "numbers"] []) (gP : mg "put_rows" = some (.ref fP)) (d : Nat) (GP : FnOk P w K mg base CX0 (d + 1) fP fdP ["tree", "rows", "numbers"] (spPut d)) :
    FnOk P w K mg base CX0 (d + 2) f fd ["tree"] (spRof d) := by
  refine F.ok scRof (fun vs H Q E h => ?_) (fun cdv A outer s H vs Q E hr h => ?_)
  · obtain ⟨v, t, rfl, _⟩ := h
    rfl
  · obtain ⟨v, t, rfl, ht, hd, hp, q⟩ := h
    have hrd : Room (d + 1) _ := hr
    refine ⟨_, (pss_cons (ps_set (i := 1) scRof.nd rfl (.inl rfl) (pe_lstN pa_nil))
      (Evl.pss_cut (ps_expr (pe_call GP hrd (by rfl) gP FP.kp bP .nil pass0 (pa_cons (pv 0) (pa_cons (pv 1) (pa_cons pe_dnewT pa_nil)))))
      (pss_one (ps_ret (pv 1))))), ?_⟩
    refine ⟨Nat.zero_le _, fun R H1 nR s1 hR _ => ?_⟩
    refine Evl.q_cut (M := fun σ' H' => σ' = [some v, some (.ref R)] ∧ Ke Nof H H' ∧ RwL H' R (rws (dd [] t.all))) ?_ ?_
    · refine ⟨_, rfl, _, rfl, fun D nD => ?_⟩
      have s2 : Same H1 (upd H1 D (.dT [])) := same_new nD
      have k2 : Ke Nof H (upd H1 D (.dT [])) := .same (s1.trans s2)
      refine ⟨v, R, D, t, [], [], rfl, ht.ke k2, hd, .nil, ⟨[], s2 _ _ hR, .nil⟩, upd_same, .nil, ne_of_none hR nD, by simp only [List.length_nil]; omega, fun kvs' H3 k3 hR3 _ _ => ?_⟩
      refine ⟨rfl, keN k2 k3 fun z hz => ?_, hR3⟩
      rcases hz with rfl | rfl
      · exact nR
      · exact s1.free nD
    rintro σ' H2 ⟨rfl, k2, hR2⟩
    exact ⟨_, rfl, q R H2 nR k2 hR2⟩
end
end Ro
namespace Tsm
open PySem PySem.Spec PyProof.Rows L2
/-! ### sets of unlike tuples of numbers and texts -/
section
variable {P : Program} {w : World} {A : Around} {E : Value → Shared → Prop} {s : Shared}
abbrev Ks := List Key
abbrev hs1 (P : Program) (w : World) (k : Ks) : Int := tupleKeyHash (mixKind P w) k
abbrev TK (P : Program) (w : World) (h : Heap) (k : Ks) (b : Addr) : Prop := IsTupleKey (mixKind P w) h k b
def Leaf (v : Value) : Prop := (∃ i t, v = Value.int i t) ∨ ∃ x t, v = Value.str x t
theorem leaves {k : Ks} {vs : List Value} (z : ItemsAre (mixKind P w) k vs) : ∀ v ∈ vs, Leaf v := by
  induction z with
  | nil => exact fun v m => nomatch m
  | cons h1 _ ih =>
    intro v m
    rcases List.mem_cons.mp m with e | e
    · rw [e]
      rcases keyIs_shape h1 with ⟨i, t, _, e'⟩ | ⟨x, t, _, e'⟩
      · exact .inl ⟨i, t, e'⟩
      · exact .inr ⟨x, t, e'⟩
    · exact ih v e
theorem leaf_class {v : Value} (h : Leaf v) (n : Nat) : ofAClassStatement n v = pure false := by
  rcases h with ⟨i, t, rfl⟩ | ⟨x, t, rfl⟩ <;> cases n <;> rfl
theorem leaf_hash {v : Value} (h : Leaf v) (n : Nat) : hashByValue n v = pure true ∨ hashByValue n v = pure false := by
  rcases h with ⟨i, t, rfl⟩ | ⟨x, t, rfl⟩
  · exact .inl (by cases n <;> rfl)
  · exact .inr (by cases n <;> rfl)
/-- a tuple is of no class statement -/
theorem tup_class {k : Ks} {b : Addr} {Q : Bool → Shared → Prop} (z : TK P w s.heap k b) (q : Q false s) : wpAny (model P w) A (ofAClassStatement 8 (.ref b)) Q E s := by
  have ty := z.typeIs
  obtain ⟨ob, its, nn, g1, _, g2, g3⟩ := z
  unfold ofAClassStatement
  refine wpAny_bind (wpAny_typeOf ty ?_)
  dsimp only
  simp only [show (("tuple" : String) == "tuple") = true by decide, if_true, Bool.not_true, Bool.false_eq_true, if_false]
  try refine wpAny_bind (wpAny_pure ?_)
  try simp only [Bool.not_true, Bool.false_eq_true, if_false]
  show wpAny _ _ (seqItems? (Value.ref b) >>= _) _ _ s
  refine wpAny_bind (wpAny_seqItems g1 g2 ?_)
  dsimp only
  refine wpAny_bind ?_
  show wpAny _ _ (forIn its _ _) _ _ s
  rw [← Array.forIn_toList]
  refine wpAny_forIn_list _ (fun rest r u => r.1 = none ∧ u = s ∧ ∀ v ∈ rest, Leaf v) _ ?_ ?_ _ _ ⟨rfl, rfl, leaves g3⟩
  · rintro v rest r u ⟨_, rfl, al⟩
    rw [leaf_class (al v List.mem_cons_self)]
    refine wpAny_bind (wpAny_pure ?_)
    simp only [Bool.false_eq_true, if_false]
    exact wpAny_pure ⟨rfl, rfl, fun y hy => al y (List.mem_cons_of_mem _ hy)⟩
  · rintro ⟨r1, r2⟩ u ⟨e, rfl, _⟩
    have e : r1 = none := e
    rw [e]
    exact wpAny_pure q
/-- whether its hash is by value -/
theorem tup_hash {k : Ks} {b : Addr} {Q : Bool → Shared → Prop} (z : TK P w s.heap k b) (q : ∀ y, Q y s) : wpAny (model P w) A (hashByValue 8 (.ref b)) Q E s := by
  have ty := z.typeIs
  obtain ⟨ob, its, nn, g1, _, g2, g3⟩ := z
  unfold hashByValue
  refine wpAny_bind (wpAny_specialOf ty F.slot_tuple_hash.lookup ?_)
  show wpAny _ _ (seqItems? (Value.ref b) >>= _) _ _ s
  refine wpAny_bind (wpAny_seqItems g1 g2 ?_)
  refine wpAny_bind ?_
  show wpAny _ _ (forIn its _ _) _ _ s
  rw [← Array.forIn_toList]
  refine wpAny_forIn_list _ (fun rest r u => r.1 = none ∧ u = s ∧ ∀ v ∈ rest, Leaf v) _ ?_ ?_ _ _ ⟨rfl, rfl, leaves g3⟩
  · rintro v rest r u ⟨_, rfl, al⟩
    rcases leaf_hash (al v List.mem_cons_self) 7 with e | e
    · rw [e]
      refine wpAny_bind (wpAny_pure ?_)
      simp only [Bool.not_true, Bool.false_eq_true, if_false]
      exact wpAny_pure ⟨rfl, rfl, fun y hy => al y (List.mem_cons_of_mem _ hy)⟩
    · rw [e]
      refine wpAny_bind (wpAny_pure ?_)
      simp only [Bool.not_false, if_true]
      exact wpAny_pure (wpAny_pure (q false))
  · rintro ⟨r1, r2⟩ u ⟨e, rfl, _⟩
    have e : r1 = none := e
    rw [e]
    exact wpAny_pure (q true)
/-- no search among them shows -/
theorem tup_seen {k : Ks} {b : Addr} {Q : Bool → Shared → Prop} (z : TK P w s.heap k b) {ys : List Value} (al : ∀ y ∈ ys, ∃ k' c, y = Value.ref c ∧ TK P w s.heap k' c) (q : Q false s) : wpAny (model P w) A (searchCouldBeSeen (.ref b) ys) Q E s := by
  unfold searchCouldBeSeen
  refine wpAny_bind ?_
  refine wpAny_forIn_list _ (fun rest r u => r.1 = none ∧ u = s ∧ ∀ y ∈ rest, ∃ k' c, y = Value.ref c ∧ TK P w s.heap k' c) _ ?_ ?_ _ _ ⟨rfl, rfl, al⟩
  · rintro v rest r u ⟨_, rfl, al⟩
    obtain ⟨k', c, rfl, hc⟩ := al v List.mem_cons_self
    have al' : ∀ y ∈ rest, ∃ k' c, y = Value.ref c ∧ TK P w u.heap k' c := fun y hy => al y (List.mem_cons_of_mem _ hy)
    dsimp only
    cases e : (b == c || (carriedByValue (.ref b) && carriedByValue (.ref c))) with
    | true => exact wp_if_pos rfl (wpAny_pure ⟨rfl, rfl, al'⟩)
    | false =>
      refine wp_if_neg Bool.false_ne_true (wpAny_bind (wpAny_eqIsQuiet_tuple z ?_))
      simp only [Bool.not_true, Bool.false_eq_true, if_false]
      refine wpAny_bind (wpAny_eqIsQuiet_tuple hc ?_)
      simp only [Bool.not_true, Bool.false_eq_true, if_false]
      refine wpAny_bind (tup_class z ?_)
      simp only [Bool.false_eq_true, if_false]
      refine wpAny_bind (tup_class hc ?_)
      simp only [Bool.false_eq_true, if_false]
      exact wpAny_pure ⟨rfl, rfl, al'⟩
  · rintro ⟨r1, r2⟩ u ⟨e, rfl, _⟩
    have e : r1 = none := e
    rw [e]
    exact wpAny_pure q
def ents (P : Program) (w : World) (L : List (Addr × Ks)) : List (Int × Value) := L.map fun p => (hs1 P w p.2, Value.ref p.1)
theorem ents_len {L : List (Addr × Ks)} {es : Array (Int × Value)} (e : es.toList = ents P w L) : es.size = L.length := by
  rw [← Array.length_toList, e]
  exact List.length_map _
theorem ents_at {L : List (Addr × Ks)} {es : Array (Int × Value)} (e : es.toList = ents P w L) {i : Nat} {p : Addr × Ks} (hp : L[i]? = some p) : es[i]? = some (hs1 P w p.2, Value.ref p.1) := by
  rw [← Array.getElem?_toList, e]
  unfold ents
  rw [List.getElem?_map, hp]
  rfl
/-- the set's table, and the tuples in it -/
structure Tab (P : Program) (w : World) (h : Heap) (a : Addr) (L : List (Addr × Ks)) (es : Array (Int × Value)) (ep : Nat) (t : SetTable) : Prop where
  ob : ∃ o, h.get? a = some o ∧ o.ExactSet ∧ o.data = .set es ep t
  en : es.toList = ents P w L
  tb : TabOk t (L.map fun p => hs1 P w p.2)
  nd : (L.map (·.2)).Nodup
  tk : ∀ p ∈ L, TK P w h p.2 p.1
  ld : w.params.followText "set-order" = true ∨ t.led = true
  rm : L.length * 5 < t.mask * 3
  fw : L.length < 64
variable {a : Addr} {L : List (Addr × Ks)} {es : Array (Int × Value)} {ep : Nat} {t : SetTable}
theorem Tab.fits (R : Tab P w s.heap a L es ep t) : t.fits es.size = true := by
  have z1 := R.tb.sz
  rw [List.length_map] at z1
  have z2 := ents_len R.en
  have z3 := R.rm
  unfold SetTable.fits SetTable.fill
  rw [R.tb.dm, Bool.and_eq_true, beq_iff_eq, decide_eq_true_eq]
  constructor
  · omega
  · show t.place.size + 0 ≤ t.mask
    omega
/-- where a search begins -/
abbrev st0 (P : Program) (w : World) (t : SetTable) (k : Ks) : SetTable.Probe := runAt t.mask (SetTable.bits (hs1 P w k) % (t.mask + 1)) (SetTable.bits (hs1 P w k))
theorem nth_dm (m : Nat) : ∀ (n : Nat) (p : SetTable.Probe), p.dummy = none → (nth m p n).dummy = none
  | 0, _, h => h
  | n + 1, p, h => by
    refine nth_dm m n (adv m p) ?_
    unfold adv
    split <;> exact h
/-- a tuple that isn't there: the search ends at an empty place -/
theorem seek (R : Tab P w s.heap a L es ep t) {x : Addr} {k : Ks} (hx : TK P w s.heap k x) (hu : A.units < cLine) (nk : k ∉ L.map (·.2)) {K : Nat} (kf : K < 10 * SetTable.turns t.mask)
    (k1 : way t.mask (hs1 P w k) K ∉ t.place.toList) (k2 : ∀ c, c < K → way t.mask (hs1 P w k) c ∈ t.place.toList) {Q : SetFound → Shared → Prop} (q : Q (.free (way t.mask (hs1 P w k) K) false) s) :
    ∀ (f c : Nat) (stand : Option SetTable.Probe), stand.getD (t.probeStart (hs1 P w k)) = nth t.mask (st0 P w t k) c → c ≤ K → K - c < f → wpAny (model P w) A (setSearchFrom a (.ref x) (hs1 P w k) true f stand) Q E s
  | 0, c, stand, _, _, hf => absurd hf (Nat.not_lt_zero _)
  | f + 1, c, stand, e0, hc, hf => by
    obtain ⟨ob, g1, _, g2⟩ := R.ob
    rw [setSearchFrom_succ]
    refine wpAny_bind (wpAny_setState_of g1 g2 R.fits ?_)
    dsimp only
    refine wp_if_neg (by unfold SetTable.gaveWay; rw [mask_odd R.tb.mok]; decide) ?_
    try refine wpAny_bind (wpAny_pure ?_)
    have jj : ∀ y, (nth t.mask (nth t.mask (st0 P w t k) c) y).j = way t.mask (hs1 P w k) (c + y) := fun y => congrArg SetTable.Probe.j (nth_add t.mask c (st0 P w t k) y).symm
    have sp := go_spec t R.tb.ris R.tb.dm (fun i => (es[i]?.map (·.1)).getD 0) (hs1 P w k) (10 * SetTable.turns t.mask) (K - c) (nth t.mask (st0 P w t k) c) (nth_dm t.mask c _ rfl) (by omega)
      (fun y hy => by rw [jj]; exact k2 (c + y) (by omega)) (by rw [jj, show c + (K - c) = K from by omega]; exact k1)
    rcases sp with ⟨y, i, ly, hi, _, _, hpr⟩ | ⟨_, hpr⟩
    · rw [e0, show t.probe (fun i => (es[i]?.map (·.1)).getD 0) (hs1 P w k) (nth t.mask (st0 P w t k) c) = _ from hpr]
      dsimp only
      have le : t.place.toList.length = L.length := by
        have z1 := R.tb.sz
        rw [List.length_map] at z1
        rw [Array.length_toList]
        exact z1
      have li : i < L.length := by
        have := (List.getElem?_eq_some_iff.mp hi).1
        omega
      have hp := List.getElem?_eq_getElem li
      generalize L[i] = p at hp
      have mp := List.mem_of_getElem? hp
      have ne : ¬ p.2 = k := fun z => nk (List.mem_map.mpr ⟨p, mp, z⟩)
      have en := ents_at R.en hp
      have go : wpAny (model P w) A (searchRest a (.ref x) (hs1 P w k) true f es t (nth t.mask (nth t.mask (st0 P w t k) c) y).j i (nth t.mask (nth t.mask (st0 P w t k) c) (y + 1))) Q E s := by
        unfold searchRest
        rw [en]
        dsimp only
        refine wpAny_bind (wpAny_holding (wpAny_eqBool_tuple hu (R.tk p mp) hx ?_))
        refine wpAny_bind (wpAny_setState_of g1 g2 R.fits ?_)
        dsimp only
        refine wp_if_neg (by simp [ne]) ?_
        try refine wpAny_bind (wpAny_pure ?_)
        rw [sameMem]
        dsimp only
        simp only [if_true, slot_live R.tb.ris hi, en]
        refine wpAny_bind (wpAny_isSame_ref_self (wpAny_bind (wpAny_pure ?_)))
        simp only [if_true]
        refine wp_if_neg (by simp [ne]) ?_
        exact seek R hx hu nk kf k1 k2 q f (c + (y + 1)) _ (nth_add t.mask c (st0 P w t k) (y + 1)).symm (by omega) (by omega)
      cases hl : t.led with
      | true =>
        refine wp_if_neg (by simp) ?_
        try refine wpAny_bind (wpAny_pure ?_)
        exact go
      | false =>
        refine wp_if_pos (by simp) ?_
        refine wpAny_bind (tup_seen hx (fun y hy => ?_) ?_)
        · obtain ⟨e, he, rfl⟩ := List.mem_map.mp hy
          have he1 : e ∈ es.toList := by
            have : e ∈ es ∧ e.1 = hs1 P w k := by simpa using he
            simpa using this.1
          rw [R.en] at he1
          obtain ⟨p2, m2, rfl⟩ := List.mem_map.mp he1
          exact ⟨p2.2, p2.1, rfl, R.tk p2 m2⟩
        · refine wp_if_neg (by decide) ?_
          try refine wpAny_bind (wpAny_pure ?_)
          exact go
    · rw [e0, show t.probe (fun i => (es[i]?.map (·.1)).getD 0) (hs1 P w k) (nth t.mask (st0 P w t k) c) = _ from hpr]
      dsimp only
      rw [show (nth t.mask (nth t.mask (st0 P w t k) c) (K - c)).j = way t.mask (hs1 P w k) K by rw [jj, show c + (K - c) = K by omega]]
      exact wpAny_pure q
theorem seek0 (R : Tab P w s.heap a L es ep t) {x : Addr} {k : Ks} (hx : TK P w s.heap k x) (hu : A.units < cLine) (nk : k ∉ L.map (·.2)) {Q : SetFound → Shared → Prop}
    (q : ∀ K, way t.mask (hs1 P w k) K ∉ t.place.toList → (∀ c, c < K → way t.mask (hs1 P w k) c ∈ t.place.toList) → Q (.free (way t.mask (hs1 P w k) K) false) s) : wpAny (model P w) A (setSearch a (.ref x) (hs1 P w k) true) Q E s := by
  have rm := R.rm
  obtain ⟨K, kf, k1, k2⟩ := R.tb.first (by rw [List.length_map]; omega) (hs1 P w k)
  have big : 10 * SetTable.turns t.mask ≤ 1420 := by
    unfold SetTable.turns
    rcases R.tb.mok with e | e | e <;> omega
  unfold setSearch
  exact seek R hx hu nk kf k1 k2 (q K k1 k2) 100000 0 none rfl (Nat.zero_le _) (by omega)
theorem tk_same {h h' : Heap} {k : Ks} {b : Addr} {o : Obj} (z : TK P w h k b) (g1 : h.get? a = some o) (g2 : o.data = .set es ep t) (sb : Heap.SameBut a h h') : TK P w h' k b := by
  obtain ⟨o', its, nn, h1, h2, h3, h4⟩ := z
  refine ⟨o', its, nn, (sb.2 b fun e => ?_).trans h1, h2, h3, h4⟩
  rw [e, g1] at h1
  cases h1
  rw [g2] at h3
  cases h3
theorem tk_keep {h h' : Heap} {k : Ks} {b : Addr} (z : TK P w h k b) (kp : ∀ c o, h.get? c = some o → h'.get? c = some o) : TK P w h' k b := by
  obtain ⟨o, its, nn, h1, h2⟩ := z
  exact ⟨o, its, nn, kp b o h1, h2⟩
theorem at_eq {L : List (Addr × Ks)} {es : Array (Int × Value)} (e : es.toList = ents P w L) (i : Nat) : es[i]? = (L[i]?).map fun p => (hs1 P w p.2, Value.ref p.1) := by
  rw [← Array.getElem?_toList, e]
  unfold ents
  rw [List.getElem?_map]
theorem hash_eq {L : List (Addr × Ks)} {es : Array (Int × Value)} (e : es.toList = ents P w L) : ∀ l : List Nat, (∀ i ∈ l, i < L.length) → ((l.filterMap (L[·]?)).map fun p => hs1 P w p.2) = l.map fun i => (es.map (·.1)).getD i 0
  | [], _ => rfl
  | i :: l, h => by
    have li := h i List.mem_cons_self
    have ih := hash_eq e l fun j hj => h j (List.mem_cons_of_mem _ hj)
    have z : (es.map (·.1))[i]? = some (hs1 P w (L[i]).2) := by
      rw [Array.getElem?_map, at_eq e, List.getElem?_eq_getElem li]
      rfl
    rw [List.filterMap_cons_some (List.getElem?_eq_getElem li), List.map_cons, List.map_cons, ih]
    congr 1
    rw [Array.getD_eq_getD_getElem?, z]
    rfl
theorem reorder {L : List (Addr × Ks)} {es : Array (Int × Value)} {od : Array Nat} (e : es.toList = ents P w L) (pm : od.toList.Perm (List.range L.length)) :
    (od.filterMap (es[·]?)).toList = ents P w (od.toList.filterMap (L[·]?)) ∧ (od.toList.filterMap (L[·]?)).Perm L ∧ ((od.toList.filterMap (L[·]?)).map fun p => hs1 P w p.2) = od.toList.map fun i => (es.map (·.1)).getD i 0 := by
  refine ⟨?_, ?_, hash_eq e _ fun i hi => List.mem_range.mp (pm.mem_iff.mp hi)⟩
  · unfold ents
    rw [Array.toList_filterMap, List.map_filterMap]
    congr 1
    funext i
    exact at_eq e i
  · have z := pm.filterMap (L[·]?)
    have y := PySem.W.krv_all L.toArray
    rw [List.size_toArray] at y
    have y : (List.range L.length).filterMap (L[·]?) = L := by simpa using y
    rw [y] at z
    exact z
/-- the table laid anew -/
theorem relay {o : Obj} (g1 : s.heap.get? a = some o) (gx : o.ExactSet) (g2 : o.data = .set es ep t) (e0 : es.toList = ents P w L) (sz : t.place.size = es.size) (dm : t.dummies = #[]) (fl : es.size ≤ t.mask)
    (nd : (L.map (·.2)).Nodup) (tk : ∀ p ∈ L, TK P w s.heap p.2 p.1) (ld : w.params.followText "set-order" = true ∨ t.led = true) (fw : L.length < 64) {wanted M : Nat}
    (hw : SetTable.sizeAbove wanted - 1 = M) (hM : MaskOk M) (h128 : SetTable.sizeAbove wanted ≤ 128) (hn : L.length * 5 < M * 3) {Q : Unit → Shared → Prop}
    (q : ∀ h' L' es' ep' t', Heap.SameBut a s.heap h' → Tab P w h' a L' es' ep' t' → L'.Perm L → Q () { s with heap := h' }) : wpAny (model P w) A (setRelay a wanted) Q E s := by
  have sl := ents_len e0
  have fits : t.fits es.size = true := by
    unfold SetTable.fits SetTable.fill
    rw [dm, Bool.and_eq_true, beq_iff_eq, decide_eq_true_eq]
    constructor
    · exact sz
    · show t.place.size + 0 ≤ t.mask
      omega
  obtain ⟨t', od, e1, pm, T, em, el, _, _⟩ := relaid_ok t (hs := es.map (·.1)) (wanted := wanted) hw hM (by rw [Array.size_map]; omega)
  rw [Array.size_map, sl] at pm
  obtain ⟨r1, r2, r3⟩ := reorder e0 pm
  generalize od.toList.filterMap (L[·]?) = L2 at r1 r2 r3
  rw [← r3] at T
  have s2 := ents_len r1
  rw [r2.length_eq] at s2
  rw [setRelay_eq]
  refine wpAny_bind (wpAny_setState_of g1 g2 fits ?_)
  dsimp only
  refine wp_if_neg (by rw [sizeLine_eq]; omega) ?_
  try refine wpAny_bind (wpAny_pure ?_)
  rw [e1]
  dsimp only
  refine wpAny_bind ?_
  refine wp_if_neg (by rw [s2, sl]; simp) ?_
  try refine wpAny_bind (wpAny_pure ?_)
  refine wpAny_pure ?_
  dsimp only
  refine wpAny_storeSet_of g1 g2 ?_ (by rw [s2, sizeLine_eq]; omega)
  have sb : Heap.SameBut a s.heap (s.heap.update a (Obj.putSet (od.filterMap (es[·]?)) t')) := Heap.SameBut.update ..
  exact q _ L2 _ (ep + 1) t' sb ⟨⟨_, store_at g1 g2, ⟨gx.1, gx.2.1, gx.2.2⟩, rfl⟩, r1, T, (r2.map (·.2)).nodup_iff.mpr nd, fun p hp => tk_same (tk p (r2.mem_iff.mp hp)) g1 g2 sb, by rw [el]; exact ld, by rw [r2.length_eq, em]; exact hn, by rw [r2.length_eq]; exact fw⟩ r2
/-- one more, unlike all -/
theorem add (R : Tab P w s.heap a L es ep t) {x : Addr} {k : Ks} (hx : TK P w s.heap k x) (hu : A.units < cLine) (nk : k ∉ L.map (·.2)) (fw : L.length + 1 < 64) {Q : Bool → Shared → Prop}
    (q : ∀ y h' L' es' ep' t', Heap.SameBut a s.heap h' → Tab P w h' a L' es' ep' t' → L'.Perm ((x, k) :: L) → Q y { s with heap := h' }) : wpAny (model P w) A (setAddHashed a (.ref x) (hs1 P w k)) Q E s := by
  obtain ⟨o, g1, gx, g2⟩ := R.ob
  have sl := ents_len R.en
  have rm := R.rm
  unfold setAddHashed
  refine wpAny_holding ?_
  rw [show (100000 : Nat) = 99999 + 1 from rfl, setAddHashedIn_succ]
  refine wpAny_bind (wpAny_setState_of g1 g2 R.fits ?_)
  dsimp only
  refine wp_if_neg (by simp [byScan, Value.scannable]) ?_
  try refine wpAny_bind (wpAny_pure ?_)
  refine wpAny_bind (seek0 R hx hu nk fun K k1 k2 => ?_)
  dsimp only
  refine wpAny_bind (wpAny_setState_of g1 g2 R.fits ?_)
  dsimp only
  obtain ⟨p1, p2, p3, p4, p5, p6, p7, p8, p9⟩ := R.tb.put k1 k2
  generalize t.put (way t.mask (hs1 P w k) K) = pt at p1 p3 p4 p5 p6 p7 p8 p9 ⊢
  obtain ⟨t1, at1⟩ := pt
  dsimp only at p1 p3 p4 p5 p6 p7 p8 p9 ⊢
  subst p1
  have hin : (SetTable.insertAt es (SetTable.below t.place (way t.mask (hs1 P w k) K)) (hs1 P w k, Value.ref x)).toList = ents P w (L.take (SetTable.below t.place (way t.mask (hs1 P w k) K)) ++ (x, k) :: L.drop (SetTable.below t.place (way t.mask (hs1 P w k) K))) := by
    rw [SetTable.toList_insertAt, R.en]
    unfold ents
    rw [List.map_append, List.map_cons, List.map_take, List.map_drop]
  generalize SetTable.below t.place (way t.mask (hs1 P w k) K) = n at p2 p3 hin ⊢
  have pm := put_perm L n (x, k)
  have len1 : (L.take n ++ (x, k) :: L.drop n).length = L.length + 1 := pm.length_eq
  have hh : (L.take n ++ (x, k) :: L.drop n).map (fun p => hs1 P w p.2) = (L.map fun p => hs1 P w p.2).take n ++ hs1 P w k :: (L.map fun p => hs1 P w p.2).drop n := by
    rw [List.map_append, List.map_cons, List.map_take, List.map_drop]
  rw [← hh] at p3
  have nd1 : ((L.take n ++ (x, k) :: L.drop n).map (·.2)).Nodup := (pm.map (·.2)).nodup_iff.mpr (List.nodup_cons.mpr ⟨nk, R.nd⟩)
  have sz1 := ents_len hin
  rw [len1] at sz1
  generalize SetTable.insertAt es n (hs1 P w k, Value.ref x) = es1 at hin sz1 ⊢
  generalize L.take n ++ (x, k) :: L.drop n = L1 at pm len1 p3 nd1 hin
  have rest : ∀ y : Bool, wpAny (model P w) A (do
      storeSet a es1 { t1 with plain := y }
      if (!false && SetTable.tooFull { t1 with plain := y }) = true then do
        setRelay a (SetTable.grown (es.size + 1))
        pure true
      else pure true) Q E s := fun y => by
    have tb2 : TabOk { t1 with plain := y } (L1.map fun p => hs1 P w p.2) := ⟨p3.1, p3.2, p3.3, p3.4, p3.5, p3.6⟩
    have f9 : SetTable.fill { t1 with plain := y } = _ := p9
    have m4 : ({ t1 with plain := y } : SetTable).mask = t.mask := p4
    have l5 : ({ t1 with plain := y } : SetTable).led = t.led := p5
    generalize ({ t1 with plain := y } : SetTable) = t2 at tb2 f9 m4 l5 ⊢
    refine wpAny_bind (wpAny_storeSet_of g1 g2 ?_ (by rw [sz1, sizeLine_eq]; omega))
    have sb : Heap.SameBut a s.heap (s.heap.update a (Obj.putSet es1 t2)) := Heap.SameBut.update ..
    have g3 := store_at (es' := es1) (t' := t2) g1 g2
    generalize s.heap.update a (Obj.putSet es1 t2) = h1 at sb g3 ⊢
    have tk1 : ∀ p ∈ L1, TK P w h1 p.2 p.1 := fun p hp => by
      rcases List.mem_cons.mp (pm.mem_iff.mp hp) with e | m
      · rw [e]
        exact tk_same hx g1 g2 sb
      · exact tk_same (R.tk p m) g1 g2 sb
    have ld1 : w.params.followText "set-order" = true ∨ t2.led = true := by rw [l5]; exact R.ld
    have tf : t2.tooFull = decide (t2.mask * 3 ≤ (L.length + 1) * 5) := by
      unfold SetTable.tooFull
      rw [f9, List.length_map]
    cases full : t2.tooFull with
    | true =>
      refine wp_if_pos rfl ?_
      rw [tf] at full
      have full := of_decide_eq_true full
      rw [m4] at full
      rw [sl]
      have cs : (t.mask = 7 ∧ L.length = 4) ∨ (t.mask = 31 ∧ L.length = 18) := by
        rcases R.tb.mok with e | e | e
        · exact .inl ⟨e, by omega⟩
        · exact .inr ⟨e, by omega⟩
        · omega
      have z1 := tb2.sz
      rw [List.length_map, len1] at z1
      have go : ∀ M, SetTable.sizeAbove (SetTable.grown (L.length + 1)) - 1 = M → MaskOk M → SetTable.sizeAbove (SetTable.grown (L.length + 1)) ≤ 128 → (L.length + 1) * 5 < M * 3 →
          wpAny (model P w) A (setRelay a (SetTable.grown (L.length + 1)) >>= fun _ => pure true) Q E { s with heap := h1 } := fun M m1 m2 m3 m5 => by
        refine wpAny_bind (relay (s := { s with heap := h1 }) g3 ⟨gx.1, gx.2.1, gx.2.2⟩ rfl hin (by omega) tb2.dm (by rw [m4]; rcases cs with ⟨_, _⟩ | ⟨_, _⟩ <;> omega) nd1 tk1 ld1 (by omega) m1 m2 m3 (by omega) fun h2 L2 es2 ep2 t3 sb2 R2 pm2 => ?_)
        exact wpAny_pure (q true h2 L2 es2 ep2 t3 (sb.trans sb2) R2 (pm2.trans pm))
      rcases cs with ⟨_, e⟩ | ⟨_, e⟩
      · exact go 31 (by rw [e, size_20]) (.inr (.inl rfl)) (by rw [e, size_20]; decide) (by omega)
      · exact go 127 (by rw [e, size_76]) (.inr (.inr rfl)) (by rw [e, size_76]; decide) (by omega)
    | false =>
      refine wp_if_neg (by decide) ?_
      rw [tf] at full
      have full := of_decide_eq_false full
      exact wpAny_pure (q true h1 L1 es1 (ep + 1) t2 sb ⟨⟨_, g3, ⟨gx.1, gx.2.1, gx.2.2⟩, rfl⟩, hin, tb2, nd1, tk1, ld1, by omega, by omega⟩ pm)
  cases pl : t1.plain with
  | true =>
    first
      | (refine wpAny_bind ?_; refine wp_if_pos rfl ?_; refine tup_hash hx fun y => ?_)
      | refine wp_if_pos rfl (wpAny_bind (tup_hash hx fun y => ?_))
    cases y with
    | true => exact rest t1.plain
    | false => exact rest false
  | false =>
    first
      | (refine wpAny_bind ?_; refine wp_if_neg Bool.false_ne_true ?_; refine wpAny_pure ?_)
      | refine wp_if_neg Bool.false_ne_true (wpAny_bind (wpAny_pure ?_))
      | refine wp_if_neg Bool.false_ne_true ?_
    exact rest t1.plain
theorem Tab.keep {h h' : Heap} (R : Tab P w h a L es ep t) (ka : ∀ o, h.get? a = some o → h'.get? a = some o) (tk : ∀ p ∈ L, TK P w h' p.2 p.1) : Tab P w h' a L es ep t := by
  obtain ⟨o, g1, gx⟩ := R.ob
  exact ⟨⟨o, ka o g1, gx⟩, R.en, R.tb, R.nd, tk, R.ld, R.rm, R.fw⟩
theorem tab_new {h : Heap} {a : Addr} (g : h.get? a = some { cls := .type "set", dict := none, data := .set #[] 0 (.fresh 0 0 (!w.params.followText "set-order")) }) : Tab P w h a [] #[] 0 (.fresh 0 0 (!w.params.followText "set-order")) := by
  refine ⟨⟨_, g, ⟨rfl, rfl, rfl⟩, rfl⟩, rfl, ⟨.nil, rfl, rfl, .inl rfl, fun x hx => (nomatch hx), fun i y j e => by simp at e⟩, List.nodup_nil, fun p hp => (nomatch hp), ?_, by show 0 * 5 < 7 * 3; decide, by show 0 < 64; decide⟩
  show _ ∨ (!w.params.followText "set-order") = true
  cases w.params.followText "set-order" with
  | true => exact .inl rfl
  | false => exact .inr rfl
/-- all items of a walk are put into the set -/
theorem put_all {I : Addr} {fp wr : List Addr} {G : Array GenState → Array GenState → Prop} {n : Nat} {Pv : Nat → Value → Prop} {St : Nat → Shared → Prop} {R : Result → Shared → Prop}
    (W : WalksS P w A.in1 I fp wr G n Pv St) (S : Addr) (nS : S ∉ fp) (ks : List (Addr × Ks)) (en : n = ks.length) (fw : ks.length < 64) (nd : (ks.map (·.2)).Nodup) (val : ∀ i v, Pv i v → ∃ p, ks[i]? = some p ∧ v = .ref p.1)
    (h0 : Heap) (tk : ∀ p ∈ ks, TK P w h0 p.2 p.1) (h0S : h0.get? S = none) (h0w : ∀ b ∈ wr, h0.get? b = none) (hu : A.in1.units < cLine) :
    ∀ (m i : Nat) (s : Shared), n - i = m → i ≤ n → St i s → (∀ b o, h0.get? b = some o → s.heap.get? b = some o) → (∃ L es ep t, Tab P w s.heap S L es ep t ∧ L.Perm (ks.take i)) →
      (∀ s' L es ep t, Moved (S :: wr) G s s' → Tab P w s'.heap S L es ep t → L.Perm ks → (∀ b o, h0.get? b = some o → s'.heap.get? b = some o) → R (.ok (.ret .none)) s') →
      codeAny (model P w) A (.builtin "set.update.loop" ⟨[.ref S, .ref I], []⟩) R s := by
  have nSw : S ∉ wr := fun z => nS (W.sub _ z)
  have up : ∀ {s s' : Shared}, Moved wr G s s' → (∀ b o, h0.get? b = some o → s.heap.get? b = some o) → ∀ b o, h0.get? b = some o → s'.heap.get? b = some o := fun mv kp b o e =>
    mv.heap b o (fun z => by rw [h0w b z] at e; cases e) (kp b o e)
  intro m
  induction m with
  | zero =>
    intro i s e0 le st kp ⟨L, es, ep, t, T, pm⟩ q
    obtain rfl : i = n := by omega
    refine codeAny_builtin F.entry_set_update_loop ?_
    rw [Around.under_plainId F.plain_set_update_loop (⟨[Value.ref S, Value.ref I], []⟩ : Args)]
    show wpAny _ A.in1 (pyNext (.ref I) >>= _) _ _ s
    refine wpAny_bind (W.done s _ _ st fun s' mv => ?_)
    show wpAny _ A.in1 (ret Value.none) _ _ s'
    rw [en, List.take_length] at pm
    have kp' := up mv kp
    exact wpAny_pure (q s' L es ep t (mv.mono fun b hb => List.mem_cons_of_mem _ hb) (T.keep (fun o e => mv.heap S o nSw e) fun p hp => tk_keep (tk p (pm.mem_iff.mp hp)) kp') pm kp')
  | succ m ih =>
    intro i s e0 le st kp ⟨L, es, ep, t, T, pm⟩ q
    have lt : i < n := by omega
    refine codeAny_builtin F.entry_set_update_loop ?_
    rw [Around.under_plainId F.plain_set_update_loop (⟨[Value.ref S, Value.ref I], []⟩ : Args)]
    show wpAny _ A.in1 (pyNext (.ref I) >>= _) _ _ s
    refine wpAny_bind (W.item i s _ _ lt st fun v s' pv st' mv => ?_)
    obtain ⟨p, hp, rfl⟩ := val i v pv
    have kp' := up mv kp
    have T' : Tab P w s'.heap S L es ep t := T.keep (fun o e => mv.heap S o nSw e) fun y hy => tk_keep (tk y (List.mem_of_mem_take (pm.mem_iff.mp hy))) kp'
    have hx : TK P w s'.heap p.2 p.1 := tk_keep (tk p (List.mem_of_getElem? hp)) kp'
    have tn : ks.take (i + 1) = ks.take i ++ [p] := by
      rw [List.take_succ, hp]
      rfl
    have nk : p.2 ∉ L.map (·.2) := fun z => by
      have z2 := (pm.map (·.2)).mem_iff.mp z
      have nd2 := nd.sublist ((List.take_sublist (i + 1) ks).map (·.2))
      rw [tn, List.map_append, List.nodup_append] at nd2
      exact nd2.2.2 _ z2 _ (List.mem_singleton.mpr rfl) rfl
    have ll : L.length = i := by
      rw [pm.length_eq, List.length_take]
      omega
    show wpAny _ A.in1 (holding [Value.ref p.1] (setAdd S (.ref p.1)) >>= _) _ _ s'
    refine wpAny_bind (wpAny_holding ?_)
    unfold setAdd
    refine wpAny_holding (wpAny_bind (wpAny_pyHash_tuple hu hx ?_))
    refine add (s := { s' with toks := s'.toks + (p.2.length + 1) }) T' hx hu nk (by omega) fun y h' L' es' ep' t' sb T2 pm2 => ?_
    have kp2 : ∀ b o, h0.get? b = some o → h'.get? b = some o := fun b o e => (sb.2 b (fun z => by rw [z, h0S] at e; cases e)).trans (kp' b o e)
    refine wpAny_pure ⟨plainId_quiet F.plain_set_update_loop _, ih (i + 1) _ (by omega) lt (W.frame _ s' _ _ st' (Nat.le_add_right _ _) fun b hb o e => ?_) kp2 ⟨L', es', ep', t', T2, ?_⟩ fun s'' L2 es2 ep2 t2 mv2 T3 pm3 kp3 => ?_⟩
    · rw [sb.2 b fun z : b = S => nS (by rw [← z]; exact hb)]
      exact e
    · rw [tn]
      exact pm2.trans ((pm.cons _).trans (List.perm_append_singleton p (ks.take i)).symm)
    · refine q s'' L2 es2 ep2 t2 (Moved.trans W.gtrans ((mv.mono fun b hb => List.mem_cons_of_mem _ hb).then_heap (Nat.le_add_right _ _) fun b o hb e => ?_) mv2) T3 pm3 kp3
      rw [sb.2 b fun z : b = S => hb (by rw [z]; exact List.mem_cons_self)]
      exact e
abbrev ob0 (w : World) : Obj := { cls := .type "set", dict := none, data := .set #[] 0 (.fresh 0 0 (!w.params.followText "set-order")) }
set_option maxHeartbeats 3200000 in
/-- set(xs), xs a list of unlike tuples -/
theorem set_of {l : Addr} {items : Array Value} (ks : List (Addr × Ks)) {Q : Value → Shared → Prop} (hh : A.handled = none) (hl : s.heap.IsList l items) (hit : items.toList = ks.map fun p => Value.ref p.1)
    (tk : ∀ p ∈ ks, TK P w s.heap p.2 p.1) (fw : ks.length < 64) (nd : (ks.map (·.2)).Nodup) (hu : A.units + 3 < cLine)
    (q : ∀ (h' : Heap) (u : Nat) L es ep t, Tab P w h' s.heap.objs.size L es ep t → L.Perm ks → (∀ b o, s.heap.get? b = some o → h'.get? b = some o) → Q (.ref s.heap.objs.size) { s with heap := h', toks := u }) :
    wpAny (model P w) A (call (.type "set") [.ref l]) Q E s := by
  have en : items.size = ks.length := by
    rw [← Array.length_toList, hit]
    exact List.length_map _
  obtain ⟨mc, ml, mro⟩ := F.called_set.mro
  have made := F.called_set.made
  have sub := F.called_set.sub
  refine wpAny_call (codeAny_of_tree ?_)
  show wpAny _ _ (callAny (.type "set") _) _ _ _
  refine wpAny_pure ⟨Code.quiet_builtin _ (by decide +kernel), codeAny_builtin F.entry_type_call ?_⟩
  rw [Around.under_plain (weight_type_call_type "set" [.ref l] []) rfl]
  have nt := F.called_set.notType
  have cc := F.called_set.canCreate
  have ct := F.typeCall_set_1 (.ref l)
  repeat (any_goals (first | (with_reducible assumption) | assumption | wp_step))
  have g0 : (s.heap.push (ob0 w)).get? s.heap.objs.size = some (ob0 w) := Heap.get?_push_size _ rfl
  refine codeAny_mono (code_set_led1 (.ref l) (E := E) (Q₁ := fun v s1 => v = .ref s.heap.objs.size ∧ s1 = { s with heap := s.heap.push (ob0 w) }) ⟨rfl, rfl⟩) fun r s1 hr => ?_
  match r, hr with
  | .error e, hr => exact hr
  | .ok (.ret v), hr =>
    obtain ⟨rfl, rfl⟩ := hr
    have ty : Shared.TypeIs { s with heap := s.heap.push (ob0 w) } (.ref s.heap.objs.size) "set" := ⟨_, g0, rfl⟩
    have li := F.called_set.init.lookup
    have bi := F.called_set.init.bind (.ref s.heap.objs.size)
    repeat (any_goals (first | (with_reducible assumption) | assumption | wp_step))
    refine codeAny_mono (codeAny_call_builtin (R := wants (fun r s2 => r = .none ∧ ∃ h' u L es ep t, s2 = { s with heap := h', toks := u } ∧ Tab P w h' s.heap.objs.size L es ep t ∧ L.Perm ks ∧ (∀ b o, s.heap.get? b = some o → h'.get? b = some o)) E) F.called_set.init.plain F.entry_set_init (check_set_init_1 ty ?_)) fun r2 s2 hr2 => ?_
    · obtain ⟨ol, hol, hcl, nl, hdl⟩ := hl
      obtain ⟨c0, d0, x0, sl0⟩ := ol
      simp only at hcl hdl
      subst hcl hdl
      have sl1 := F.sub_list_set
      have sl2 := F.sub_list_frozenset
      have ne0 : (Value.type "list" == Value.type "dict") = false := by decide
      have hl1 : (s.heap.push (ob0 w)).IsList l items := ⟨_, Heap.get?_push_of_some _ hol, rfl, nl, rfl⟩
      have hol' : (s.heap.push (ob0 w)).get? l = some { cls := .type "list", dict := d0, data := .seq items nl, slots := sl0 } := Heap.get?_push_of_some _ hol
      unfold Builtin.«set.__init__» noKeywords Builtin.Frozenset.updateFrom
      generalize hPI : pyIter = PI
      wp_walk
      subst hPI
      refine wpAny_pyIter_list hl1 (wpAny_bind (wpAny_runValue ?_))
      have lS : l < s.heap.objs.size := Heap.lt_size hol
      have z1 : (s.heap.push (ob0 w)).objs.size = s.heap.objs.size + 1 := Heap.size_push ..
      have nf : ∀ b, s.heap.objs.size ≤ b → s.heap.get? b = none := fun b hb => by
        cases y : s.heap.get? b with
        | none => rfl
        | some o => exact absurd (Nat.lt_of_lt_of_le (Heap.lt_size y) hb) (Nat.lt_irrefl _)
      have lI : l ≠ (s.heap.push (ob0 w)).objs.size := Nat.ne_of_lt (by rw [z1]; exact Nat.lt_succ_of_lt lS)
      have hh3 : A.in1.in1.in1.handled = none := by simp [hh]
      refine put_all ((Walks.list hh3 _ l lI items).toS) s.heap.objs.size (fun z => by
        simp only [List.mem_cons, List.not_mem_nil, or_false] at z
        rcases z with z | z
        · exact absurd z (Nat.ne_of_lt (by rw [z1]; exact Nat.lt_succ_self _))
        · exact absurd z (Nat.ne_of_gt lS)) ks en fw nd (fun i v hv => ?_) s.heap tk (nf _ (Nat.le_refl _)) (fun b hb => nf b (by rw [List.mem_singleton.mp hb, z1]; exact Nat.le_succ _)) hu (items.size - 0) 0 _ (by omega) (Nat.zero_le _)
        ⟨⟨_, Heap.get?_push_size _ rfl, rfl, rfl⟩, (hl1.push _)⟩ (fun b o e => Heap.get?_push_of_some _ (Heap.get?_push_of_some _ e)) ⟨[], #[], 0, _, tab_new (Heap.get?_push_of_some _ g0), by rw [List.take_zero]⟩ fun s' L es ep t mv T pm kp => ?_
      · have y : items.toList[i]? = some v := by rw [Array.getElem?_toList]; exact hv
        rw [hit, List.getElem?_map] at y
        obtain ⟨p, h1, h2⟩ := Option.map_eq_some_iff.mp y
        exact ⟨p, h1, h2.symm⟩
      · obtain ⟨h', g2, d', u', os'⟩ := s'
        obtain rfl : g2 = s.gens := mv.gens
        obtain rfl : d' = s.drawn := mv.drawn
        obtain rfl : os' = s.os := mv.os
        refine wpAny_pure ?_
        show wpAny _ _ (ret Value.none) _ _ _
        exact wpAny_pure ⟨rfl, h', u', L, es, ep, t, rfl, T, pm, kp⟩
    · match r2, hr2 with
      | .error e, hr2 => exact hr2
      | .ok (.ret v), hr2 =>
        obtain ⟨rfl, h', u, L, es, ep, t, rfl, T, pm, kp⟩ := hr2
        repeat (any_goals (first | (with_reducible assumption) | assumption | wp_step))
        exact q _ _ _ _ _ _ T pm kp
      | .ok .next, hr2 => exact hr2.elim
      | .ok .brk, hr2 => exact hr2.elim
      | .ok .cont, hr2 => exact hr2.elim
  | .ok .next, hr => exact hr.elim
  | .ok .brk, hr => exact hr.elim
  | .ok .cont, hr => exact hr.elim
end
/-- a set of so many things, no more said of it -/
structure St0 (h : Heap) (a : Addr) (n : Nat) : Prop where
  ex : ∃ (es : Array (Int × Value)) (ep : Nat) (t : SetTable), (∃ o, h.get? a = some o ∧ o.ExactSet ∧ o.data = .set es ep t) ∧ es.size = n ∧ t.fits es.size = true ∧ n < 64
def SetN (a : Addr) (n : Nat) : HO := .ext fun h => St0 h a n
theorem setN_ok {P : Program} {w : World} {H : Hp} {h : Heap} {a : Addr} {n : Nat} (z : St0 h a n) : ObjOk P w H h a (SetN a n) := by
  obtain ⟨es, ep, t, ⟨o, g, r⟩, q⟩ := id z.ex
  refine ⟨z, ⟨o, g⟩, fun h1 h2 p k => ?_⟩
  obtain ⟨es', ep', t', ⟨o', g', r'⟩, q'⟩ := St0.ex p
  exact ⟨es', ep', t', ⟨o', k o' g', r'⟩, q'⟩
theorem keys_are {P : Program} {w : World} : ∀ {k : Ks} {us : List Value}, Vals (k.map kV) us → ItemsAre (mixKind P w) k us
  | [], _, .nil => .nil
  | .inl i :: k, _, .cons r z => by
    obtain ⟨t, rfl⟩ := r
    exact .cons (mixKind_int P w i t) (keys_are z)
  | .inr x :: k, _, .cons r z => by
    obtain ⟨t, rfl⟩ := r
    exact .cons (mixKind_str P w x t) (keys_are z)
theorem refs_are : ∀ {ks : List (Addr × Ks)} {us : List Value}, Vals (ks.map fun p => V.ref p.1) us → us = ks.map fun p => Value.ref p.1
  | [], _, .nil => rfl
  | _ :: ks, _, .cons r z => by
    cases r
    rw [refs_are z]
    rfl
section
variable {X : Cx}
/-- set(xs) -/
theorem cr_setK (hc : X.calm = true) (hu : X.A.units + 64 < cLine) : CallR X (.type "set") (fun xs H Q => ∃ (l : Addr) (ks : List (Addr × Ks)), xs = [V.ref l] ∧ SqL X.K H l (ks.map fun p => V.ref p.1) ∧ (∀ p ∈ ks, SqT X.K H p.1 (p.2.map kV)) ∧ ks.length < 64 ∧ (ks.map (·.2)).Nodup ∧
    ∀ a H', H a = none → Same H H' → H' a = some (SetN a ks.length) → Q (.ref a) H') := by
  intro pins s σ H xs us Q I r h
  obtain ⟨l, ks, rfl, hl, hk, fw, nd, q⟩ := h
  rw [Vals.ref1 r]
  obtain ⟨its, rv, pl, _⟩ := I.list hl
  have hn : H s.heap.objs.size = none := I.hok.fresh (Nat.le_refl _)
  refine set_of (P := X.prog) (w := X.w) ks (I.ok.hd hc) pl.isList (by simpa using refs_are rv) (fun p hp => ?_) fw nd (by omega) fun h' u L es ep t R pm kp => ?_
  · obtain ⟨its, r, ⟨o, ho, hc, n, hd⟩, _⟩ := I.tuple (hk p hp)
    exact ⟨o, its.toArray, n, ho, hc, hd, by simpa using keys_are r⟩
  · have ll := pm.length_eq
    have z : St0 h' s.heap.objs.size ks.length := ⟨es, ep, t, R.ob, (ents_len R.en).trans ll, Tab.fits (s := { s with heap := h' }) R, fw⟩
    exact ⟨.ref s.heap.objs.size, upd H s.heap.objs.size (SetN s.heap.objs.size ks.length), I.laid (t' := u) kp (Nat.le_refl _) (setN_ok z), rfl, q _ _ hn (Nw.same_new hn) upd_same⟩
/-- how many it has -/
theorem cr_lenSN : CallR X (.builtin "len") (fun xs H Q => ∃ (a : Addr) (n : Nat), xs = [V.ref a] ∧ H a = some (SetN a n) ∧ Q (.int (n : Nat)) H) := by
  intro pins s σ H xs us Q I r h
  obtain ⟨a, n, rfl, ha, q⟩ := h
  have z : St0 s.heap a n := (I.hok a _ ha).1
  rw [Vals.ref1 r]
  obtain ⟨es, ep, t, ⟨o, g, gx, gd⟩, e, ft, fw⟩ := z.ex
  exact call_len_set g gx gd ft (by omega) ⟨.int (n : Nat), H, I.tok _, ⟨_, by rw [e]⟩, q⟩
end
end Tsm
namespace Wtm
open PySem PySem.Spec PyProof.Rows L2 Lr Lp Tr Bkg Ro Un
/-! ### trees and their rows: the mathematics of k25 -/
theorem pieces_cuts : ∀ t : T, t.pieces = 2 * t.cuts + 1
  | .leaf _ => rfl
  | .cut t u _ => by
    have h1 := pieces_cuts t
    have h2 := pieces_cuts u
    show 1 + t.pieces + u.pieces = 2 * (1 + t.cuts + u.cuts) + 1
    omega
theorem dep_cuts : ∀ t : T, t.depth ≤ t.cuts + 1
  | .leaf _ => Nat.le_refl _
  | .cut t u _ => by
    have h1 := dep_cuts t
    have h2 := dep_cuts u
    show 1 + max t.depth u.depth ≤ 1 + t.cuts + u.cuts + 1
    omega
theorem cuts_le {t u : T} (h : t.pieces ≤ u.pieces) : t.cuts ≤ u.cuts := by
  have h1 := pieces_cuts t
  have h2 := pieces_cuts u
  omega
theorem self_all (t : T) : t ∈ t.all := by
  cases t with
  | leaf n => exact List.mem_singleton.mpr rfl
  | cut a b k => exact List.mem_append_right _ (List.mem_singleton.mpr rfl)
/-- each piece's row is one on which the tree's row stands -/
theorem und_sub {ts : List T} (g : Gd ts) : ∀ {t : T}, t ∈ ts → ∀ s ∈ t.all, s ∈ ts ∧ Und (rws ts) (ix ts t) (ix ts s)
  | .leaf n, h, s, hs => by
    rw [List.mem_singleton.mp hs]
    exact ⟨h, .self⟩
  | .cut a b k, h, s, hs => by
    obtain ⟨ha, hb⟩ := g.in2 h
    have e : (rws ts)[ix ts (.cut a b k)]? = some (.cut (ix ts a) (ix ts b) k) := rws_at (ix_mem h)
    rcases List.mem_append.mp hs with hs | hs
    · rcases List.mem_append.mp hs with hs | hs
      · obtain ⟨m, u⟩ := und_sub g ha s hs
        exact ⟨m, Und.trans (.l .self e) u⟩
      · obtain ⟨m, u⟩ := und_sub g hb s hs
        exact ⟨m, Und.trans (.r .self e) u⟩
    · rw [List.mem_singleton.mp hs]
      exact ⟨h, .self⟩
theorem rws_nodup {ts : List T} (g : Gd ts) : (rws ts).Nodup := by
  unfold rws
  refine List.pairwise_map.mpr (List.Pairwise.imp_of_mem (fun {s t} hs ht ne e => ne ?_) g.nd)
  exact rowOf_inj (g.in2 hs) (g.in2 ht) e
theorem ix_at {ts : List T} (g : Gd ts) {n : Nat} {t : T} (h : ts[n]? = some t) : ix ts t = n := by
  have m := List.mem_of_getElem? h
  have l := (List.getElem?_eq_some_iff.mp h).1
  exact ((List.getElem?_inj (ix_lt m) g.nd).mp ((ix_mem m).trans h.symm))
def upTo (n : Nat) : List Int := (List.range n).map fun i : Nat => (i : Int)
theorem upTo_up (n : Nat) : (upTo n).Pairwise (· < ·) := by
  unfold upTo
  refine List.pairwise_map.mpr (List.Pairwise.imp (fun h => ?_) List.pairwise_lt_range)
  omega
/-- the tree's last row stands on all -/
theorem ul_all {css : List (List Int)} {t : T} {c : List Int} (h : Tr.Cl css t c) (dn : Dn (rws (dd [] t.all))) : UL (rws (dd [] t.all)) ((rws (dd [] t.all)).length - 1) (upTo (rws (dd [] t.all)).length) := by
  have g := gd_all t
  have hl := dd_last h
  have m := List.mem_of_getElem? hl
  have e := ix_at g hl
  refine ⟨upTo_up _, fun x => ⟨fun hx => ?_, fun ⟨n, en, u⟩ => ?_⟩⟩
  · obtain ⟨n, hn, rfl⟩ := List.mem_map.mp hx
    have ln := List.mem_range.mp hn
    rw [rws_len] at ln
    have es := List.getElem?_eq_getElem ln
    generalize (dd [] t.all)[n] = s at es
    have ms := (dd_sub t.all [] s (List.mem_of_getElem? es)).resolve_left fun z => (nomatch z)
    obtain ⟨_, u⟩ := und_sub g m s ms
    rw [e, ix_at g es] at u
    exact ⟨n, rfl, by rw [rws_len]; exact u⟩
  · have le : n ≤ (rws (dd [] t.all)).length - 1 := Und.le dn u
    have lp : 0 < (rws (dd [] t.all)).length := by
      rw [rws_len]
      exact Nat.lt_of_le_of_lt (Nat.zero_le _) (List.getElem?_eq_some_iff.mp hl).1
    exact List.mem_map.mpr ⟨n, List.mem_range.mpr (by omega), en.symm⟩
theorem und_trs {rows : List Rw} (p : Par rows) : ∀ (n : Nat) {t : T}, (trs rows)[n]? = some t → ∀ s ∈ t.all, ∃ x, Und rows n x ∧ (trs rows)[x]? = some s := by
  intro n
  induction n using Nat.strongRecOn with
  | ind n ih =>
    intro t e s hs
    have l := (List.getElem?_eq_some_iff.mp e).1
    rw [trs_len] at l
    have er := List.getElem?_eq_getElem l
    generalize rows[n] = r at er
    cases r with
    | book m =>
      have e2 := trs_book er
      rw [e2] at e
      cases e
      rw [List.mem_singleton.mp hs]
      exact ⟨n, .self, e2⟩
    | cut i j k =>
      obtain ⟨li, lj⟩ := p n i j k er
      obtain ⟨ti, tj, e1, e2, e3⟩ := trs_at p er
      have e0 := e
      rw [e3] at e
      cases e
      rcases List.mem_append.mp hs with hs | hs
      · rcases List.mem_append.mp hs with hs | hs
        · obtain ⟨x, u, ex⟩ := ih i li e1 s hs
          exact ⟨x, Und.trans (.l .self er) u, ex⟩
        · obtain ⟨x, u, ex⟩ := ih j lj e2 s hs
          exact ⟨x, Und.trans (.r .self er) u, ex⟩
      · rw [List.mem_singleton.mp hs]
        exact ⟨n, .self, e0⟩
theorem nd_len' {α : Type} : ∀ (l m : List α), l.Nodup → (∀ x ∈ l, x ∈ m) → l.length ≤ m.length
  | [], _, _, _ => Nat.zero_le _
  | x :: l, m, nd, h => by
    obtain ⟨a, b, rfl⟩ := List.append_of_mem (h x List.mem_cons_self)
    obtain ⟨n1, n2⟩ := List.nodup_cons.mp nd
    have ih := nd_len' l (a ++ b) n2 fun y hy => by
      have := h y (List.mem_cons_of_mem _ hy)
      rcases List.mem_append.mp this with z | z
      · exact List.mem_append_left _ z
      · rcases List.mem_cons.mp z with z | z
        · exact absurd (z ▸ hy) n1
        · exact List.mem_append_right _ z
    rw [List.length_append] at ih
    rw [List.length_cons, List.length_append, List.length_cons]
    omega
/-- no more rows than the needed ones -/
theorem rows_le {rows : List Rw} (p : Par rows) {n : Nat} {t : T} (e : (trs rows)[n]? = some t) {ns : List Int} (u : UL rows n ns) : (rws (dd [] t.all)).length ≤ ns.length := by
  rw [rws_len]
  have z := nd_len' (dd [] t.all) (ns.map fun x => (trs rows).getD x.toNat (.leaf 0)) (gd_all t).nd fun s hs => by
    have ms := (dd_sub t.all [] s hs).resolve_left fun z => (nomatch z)
    obtain ⟨x, ux, ex⟩ := und_trs p n e s ms
    refine List.mem_map.mpr ⟨(x : Int), (u.me _).mpr ⟨x, rfl, ux⟩, ?_⟩
    show (trs rows).getD ((x : Int)).toNat (.leaf 0) = s
    rw [Int.toNat_natCast, List.getD_eq_getElem?_getD, ex]
    rfl
  rw [List.length_map] at z
  exact z
/-- the trees of a ladder's rows tell its claims -/
theorem cl_trs {css cls : List (List Int)} {rows : List Rw} (h : Lad css rows cls) : ∀ (n : Nat) {t : T} {c : List Int}, (trs rows)[n]? = some t → cls[n]? = some c → Tr.Cl css t c := by
  intro n
  induction n using Nat.strongRecOn with
  | ind n ih =>
    intro t c e ec
    have l := (List.getElem?_eq_some_iff.mp e).1
    rw [trs_len] at l
    have er := List.getElem?_eq_getElem l
    generalize rows[n] = r at er
    have rc := h.2 n r c er ec
    cases r with
    | book m =>
      rw [trs_book er] at e
      cases e
      exact rc
    | cut i j k =>
      obtain ⟨li, lj⟩ := lad_par h n i j k er
      obtain ⟨ti, tj, e1, e2, e3⟩ := trs_at (lad_par h) er
      rw [e3] at e
      cases e
      obtain ⟨x, y, h1, h2, cm⟩ := rc
      rw [List.getElem?_take_of_lt li] at h1
      rw [List.getElem?_take_of_lt lj] at h2
      exact ⟨x, y, ih i li e1 h1, ih j lj e2 h2, cm⟩
end Wtm
namespace Wtr
open PySem PySem.Spec PyProof.Rows L2 GxR Nw Dr Kp Se Cl Ct Lr Lp Ll Od Wg Wd Tr Tp Bkg Bkp Ro Rg Un Ub Um So Xb Wtm
open Tr (T At)
theorem cut_13 (a b c d : V) : cutV [a, b, c, d] (some 1) (some 3) = [b, c] := by rfl
section
variable {P : Program} {w : World} {K : PySem.W.Frag} {mg : Str → Option Value} {base : Heap}
structure Zh (mg : Str → Option Value) : Prop where
  z_max : mg "max" = none
abbrev sShe : Stmt := topS 82
abbrev nShe : List Str := ["tree", "part"]
theorem scShe : FnScope nShe ["tree"] (defScope sShe) := ⟨rfl, rfl, rfl, by decide +kernel, rfl, by decide +kernel, by decide +kernel⟩
def spShe (d : Nat) : Sp := fun vs H Q _ => ∃ (v : V) (t : T), vs = [v] ∧ At H t v ∧ t.depth ≤ d ∧ ∀ H', Same H H' → Q (.int (hOf t)) H'
theorem ok_she {f : Addr} {fd : FuncData} (F : Fun K "_law_s_height" "_law_s_height" sShe f fd) (T : Zh mg) (bS : Binds K fd ["tree"] []) (gS : mg "_law_s_height" = some (.ref f)) : ∀ d, FnOk P w K mg base CX0 (d + 1) f fd ["tree"] (spShe d) := by
  intro d
  induction d with
  | zero =>
    refine F.ok scShe (fun vs H Q E h => ?_) (fun cdv A outer s H vs Q E hr h => ?_)
    · obtain ⟨v, t, rfl, _⟩ := h
      rfl
    · obtain ⟨v, t, rfl, _, hd, _⟩ := h
      have := (Tr.T.pos t).1
      omega
  | succ d ih =>
    refine F.ok scShe (fun vs H Q E h => ?_) (fun cdv A outer s H vs Q E hr h => ?_)
    · obtain ⟨v, t, rfl, _⟩ := h
      rfl
    · obtain ⟨v, t, rfl, ht, hd, q⟩ := h
      have hrd : Room (d + 1) _ := hr
      refine ⟨_, (Evl.pss_cut (ps_if (pt_cmpR op_eq (pe_ix ix_tup (pv 0) pe_int (fun _ _ => rfl)) pe_str (nomark _)) (pss_one (ps_ret pe_int)) pss_nil)
      (pss_one (ps_ret (pe_op op_add pe_int (pe_callB (cr_max rfl) (by rfl) T.z_max (by decide +kernel) (pa_cons (pe_lc (own := [("part", 1)]) (g := (gName 1)) (tt := tYes) rfl scShe.nd (pi_tup (pe_slice sl_tupN (pv 0) (po_some pe_int) (po_some pe_int))) (blkOk_by (N := nShe) (sc := defScope sShe) (by decide +kernel)) (fun _ _ _ _ _ => (pg_name (i := 1) scShe.nd rfl (.inl rfl))) (fun _ _ _ _ _ => pts_nil) (fun _ _ _ _ _ => (pe_call ih hrd (by rfl) gS F.kp bS .nil pass0 (pa_cons (pv 1) pa_nil)))) pa_nil)))))), ?_⟩
      cases t with
      | leaf n =>
        obtain ⟨a, rfl, ha⟩ := ht
        refine Evl.q_cut (M := fun σ' H' => False) ?_ ?_
        · refine ⟨_, rfl, a, _, 0, .str "book", rfl, rfl, .of ha, at_of (j := 0) rfl rfl, rfl, _, rfl, ite2 (fun e => ?_) (fun e => absurd rfl e)⟩
          exact q H (Same.refl H)
        · rintro _ _ ⟨⟩
      | cut t1 t2 k =>
        obtain ⟨a, x, y, rfl, ha, h1, h2⟩ := ht
        have e0 : (Tr.T.cut t1 t2 k).depth = 1 + max t1.depth t2.depth := rfl
        refine Evl.q_cut (M := fun σ' H' => σ' = [some (.ref a), none] ∧ H' = H) ?_ ?_
        · exact ⟨_, rfl, a, _, 0, .str "cut", rfl, rfl, .of ha, at_of (j := 0) rfl rfl, rfl, _, rfl, ite2 (fun e => absurd e (by decide)) (fun e => ⟨rfl, rfl⟩)⟩
        rintro σ' H' ⟨rfl, rfl⟩
        refine ⟨_, rfl, _, rfl, _, rfl, a, _, rfl, ha, fun p H1 s1 hp => ?_⟩
        rw [cut_13] at hp
        refine ⟨p, rfl, ⟨_, .of hp⟩, fun D nD => ?_⟩
        refine lc_tup (xs := [x, y]) (Pv := fun i G => Same H1 G ∧ G D = some (.lst (([hOf t1, hOf t2].take i).map V.int))) ⟨same_new nD, upd_same⟩ (fun i G _ z => .of (z.1 _ _ hp)) ?_ ?_
        · rintro i v G hv ⟨sg, hD⟩
          have sG := s1.trans sg
          have tv : ∃ t, [t1, t2][i]? = some t ∧ At G t v := by
            match i, hv with
            | 0, hv =>
              cases hv
              exact ⟨t1, rfl, h1.ke (Ke.same (F := Nof) sG)⟩
            | 1, hv =>
              cases hv
              exact ⟨t2, rfl, h2.ke (Ke.same (F := Nof) sG)⟩
          obtain ⟨t, et, ht⟩ := tv
          have dt : t.depth ≤ d := by
            have m := List.mem_of_getElem? et
            simp only [List.mem_cons, List.not_mem_nil, or_false] at m
            rcases m with rfl | rfl <;> omega
          refine ⟨rfl, _, rfl, v, t, rfl, ht, dt, fun G2 s2 => ?_⟩
          have hD2 := s2 _ _ hD
          refine ⟨_, hD2, small1000 (by rw [List.length_map, List.length_take]; show min i 2 ≤ 1000; omega), fun c o z => ?_, ?_⟩
          · rw [upd_ne (ne_of_none z nD)]
            exact s2 _ _ (sg _ _ z)
          · have eh : [hOf t1, hOf t2][i]? = some (hOf t) := by
              have := congrArg (Option.map hOf) et
              rw [← List.getElem?_map] at this
              exact this
            rw [upd_same, take_snoc eh, List.map_append]
            rfl
        · rintro G ⟨sg, hD⟩
          refine ⟨D, [hOf t1, hOf t2], rfl, .of hD, by show 0 < 2; decide, fun m hm al => ⟨_, _, rfl, rfl, ?_⟩⟩
          have em : 1 + m = hOf (.cut t1 t2 k) := by
            have a1 := al (hOf t1) List.mem_cons_self
            have a2 := al (hOf t2) (List.mem_cons_of_mem _ List.mem_cons_self)
            simp only [List.mem_cons, List.not_mem_nil, or_false] at hm
            unfold hOf at a1 a2 hm ⊢
            rw [e0]
            rcases hm with rfl | rfl <;> omega
          have := q G (s1.trans sg)
          rw [← em] at this
          exact this
/-! ### a tree looked at -/
structure Zq (mg : Str → Option Value) : Prop where
  z_len : mg "len" = none
  z_list : mg "list" = none
  z_range : mg "range" = none
  z_set : mg "set" = none
theorem keys_of {H : Hp} : ∀ {vs : List V} {rows : List Rw}, All2 (RowAt H) vs rows → ∃ ks : List (Addr × List Key), vs = ks.map (fun p => V.ref p.1) ∧ ks.map (·.2) = rows.map keyR ∧ ∀ p ∈ ks, H p.1 = some (.tup (p.2.map kV))
  | [], [], _ => ⟨[], rfl, rfl, fun p h => nomatch h⟩
  | [], r :: t, h => by cases h.1
  | v :: t, [], h => by cases h.1
  | v :: t, r :: u, h => by
    obtain ⟨a, rfl, ha⟩ := h.2 0 v r rfl rfl
    obtain ⟨ks, e1, e2, al⟩ := keys_of (vs := t) (rows := u) ⟨by have := h.1; simp only [List.length_cons] at this; omega, fun i x y h1 h2 => h.2 (i + 1) x y h1 h2⟩
    refine ⟨(a, keyR r) :: ks, by rw [List.map_cons, e1], by rw [List.map_cons, List.map_cons, e2], fun p hp => ?_⟩
    rcases List.mem_cons.mp hp with z | z
    · rw [z]
      show H a = some (.tup ((keyR r).map kV))
      rw [keyR_v]
      exact ha
    · exact al p z
theorem rows_facts {css : List (List Int)} {t : T} {c : List Int} (ct : Tr.Cl css t c) : ∃ cls, Lad css (rws (dd [] t.all)) cls ∧ (trs (rws (dd [] t.all)))[(rws (dd [] t.all)).length - 1]? = some t ∧ 0 < (rws (dd [] t.all)).length ∧ (rws (dd [] t.all)).length ≤ t.pieces ∧ cls[cls.length - 1]? = some c := by
  have g := gd_all t
  have hl := dd_last ct
  have dl := dd_len t.all []
  rw [Tr.T.all_len, List.length_nil] at dl
  obtain ⟨cls, ld⟩ := lad_rws (css := css) g fun s hs => by
    have ms := (dd_sub t.all [] s hs).resolve_left fun z => (nomatch z)
    exact (Tr.T.all_sub ct s ms).2.2
  have rl := rws_len (dd [] t.all)
  have et : (trs (rws (dd [] t.all)))[(rws (dd [] t.all)).length - 1]? = some t := by
    rw [trs_all g, rl]
    exact hl
  have l0 : 0 < (rws (dd [] t.all)).length := by
    rw [rl]
    exact Nat.lt_of_le_of_lt (Nat.zero_le _) (List.getElem?_eq_some_iff.mp hl).1
  have lcl := ld.1
  refine ⟨cls, ld, et, l0, by omega, ?_⟩
  have lc1 : cls.length - 1 < cls.length := by omega
  have e := List.getElem?_eq_getElem lc1
  have z := cl_trs ld _ et (by rw [lcl]; exact e)
  rw [e, z.one ct]
theorem hts_last {css cls : List (List Int)} {rows : List Rw} {t : T} (ld : Lad css rows cls) (et : (trs rows)[rows.length - 1]? = some t) : ((hts rows).map V.int)[((hts rows).map V.int).length - 1]? = some (.int (hOf t)) := by
  have hh := hts_trs (lad_par ld)
  rw [hh, List.length_map, List.length_map, trs_len, List.getElem?_map, List.getElem?_map, et]
  rfl
theorem wide_sub {c c' : List Int} (h : ∀ j ∈ c', j ∈ c) : wideB c' c = true := by
  unfold wideB
  rw [List.all_eq_true]
  exact fun j hj => by
    have := h j hj
    exact (Un.in_ints _ _).mpr this
theorem shc (c : List Int) : SeqAt.shaped (.tuple (c.map .int)) = true := shaped_tuple (flat_ints c)
theorem rg_up (n : Nat) : rgV 0 (n : Int) = (Wtm.upTo n).map V.int := by
  unfold rgV Wtm.upTo
  rw [List.map_map, show ((n : Int) - 0).toNat = n by omega]
  refine List.map_congr_left fun i _ => ?_
  show V.int (0 + (i : Int)) = V.int (i : Int)
  rw [Int.zero_add]
abbrev sTrr : Stmt := topS 83
theorem scTrr : FnScope ["book", "tree", "rows", "claim", "made", "told"] ["book", "tree"] (defScope sTrr) := ⟨rfl, rfl, rfl, by decide +kernel, rfl, by decide +kernel, by decide +kernel⟩
structure Tbs (Po Pw Ph Pa : Addr) (H : Hp) : Prop where
  o : TabG H Po
  w : TabG H Pw
  h : TabG H Ph
  a : TabG H Pa
theorem Tbs.ke {Po Pw Ph Pa : Addr} {F : Addr → Prop} {H H' : Hp} (x : Tbs Po Pw Ph Pa H) (k : Ke F H H') : Tbs Po Pw Ph Pa H' := ⟨k.tabs _ x.o, k.tabs _ x.w, k.tabs _ x.h, k.tabs _ x.a⟩
def spTrr (Po Pw Ph Pa : Addr) : Sp := fun vs H Q _ => ∃ (b v : V) (css : List (List Int)) (t : T) (c : List Int), vs = [b, v] ∧ Bk H b css ∧ (∀ c ∈ css, IsCl c) ∧ At H t v ∧ t.depth ≤ 6 ∧ Tr.Cl css t c ∧ Tbs Po Pw Ph Pa H ∧ ∀ H', Ke Nof H H' → Q (.bl true) H'
theorem ok_trr {f f1 f2 f3 f4 f5 f6 f7 f8 f9 e1 e2 e3 e4 e5 cw e6 e7 C Po Pw Ph Pa : Addr} {fd fd1 fd2 fd3 fd4 fd5 fd6 fd7 fd8 fd9 ed1 ed2 ed3 ed4 ed5 ed6 ed7 : FuncData} (F : Fun K "_law_s_tree_right" "_law_s_tree_right" sTrr f fd) (T : Zq mg)
    (F1 : Fun K "rows_of" "rows_of" sRof f1 fd1) (b1 : Binds K fd1 ["tree"] []) (g1 : mg "rows_of" = some (.ref f1)) (G1 : FnOk P w K mg base CX0 42 f1 fd1 ["tree"] (spRof 40))
    (F2 : Fun K "claim_of_tree" "claim_of_tree" sCot f2 fd2) (b2 : Binds K fd2 ["book", "tree"] []) (g2 : mg "claim_of_tree" = some (.ref f2)) (G2 : FnOk P w K mg base CX0 46 f2 fd2 ["book", "tree"] (spCn Po 40))
    (F3 : Fun K "is_ladder" "is_ladder" sIsl f3 fd3) (b3 : Binds K fd3 ["book", "thing"] []) (g3 : mg "is_ladder" = some (.ref f3)) (G3 : FnOk P w K mg base CX0 7 f3 fd3 ["book", "thing"] (spIsl Po))
    (F4 : Fun K "claims_of" "claims_of" sClo f4 fd4) (b4 : Binds K fd4 ["book", "ladder"] []) (g4 : mg "claims_of" = some (.ref f4)) (G4 : FnOk P w K mg base CX0 7 f4 fd4 ["book", "ladder"] (spClo Po))
    (F5 : Fun K "needed" "needed" sNed f5 fd5) (b5 : Binds K fd5 ["book", "ladder"] []) (g5 : mg "needed" = some (.ref f5)) (G5 : FnOk P w K mg base CX0 9 f5 fd5 ["book", "ladder"] (spNed Po))
    (F6 : Fun K "tree_of" "tree_of" sTof f6 fd6) (b6 : Binds K fd6 ["book", "ladder"] []) (g6 : mg "tree_of" = some (.ref f6)) (G6 : Gx2.FnX P w K mg base CX0 10 f6 fd6 ["book", "ladder"] (fun vs H Q _ => spTof C Po vs H Q fun _ _ _ => False))
    (F7 : Fun K "pieces_of" "pieces_of" sPof f7 fd7) (b7 : Binds K fd7 ["book", "ladder"] []) (g7 : mg "pieces_of" = some (.ref f7)) (G7 : FnOk P w K mg base CX0 9 f7 fd7 ["book", "ladder"] (spPof Po))
    (F8 : Fun K "how_many_pieces" "how_many_pieces" sPcs f8 fd8) (b8 : Binds K fd8 ["tree"] []) (g8 : mg "how_many_pieces" = some (.ref f8)) (G8 : FnOk P w K mg base CX0 41 f8 fd8 ["tree"] (spPcs 40))
    (F9 : Fun K "follows" "follows" sFol f9 fd9) (b9 : Binds K fd9 ["book", "claim"] []) (g9 : mg "follows" = some (.ref f9)) (G9 : FnOk P w K mg base CX0 6 f9 fd9 ["book", "claim"] (spFol Ph Pa))
    (E1 : Fun K "cuts_of_tree" "cuts_of_tree" sCts e1 ed1) (c1 : Binds K ed1 ["tree"] []) (k1 : mg "cuts_of_tree" = some (.ref e1)) (J1 : FnOk P w K mg base CX0 41 e1 ed1 ["tree"] (spCts 40))
    (E2 : Fun K "made_regular" "made_regular" sMrg e2 ed2) (c2 : Binds K ed2 ["book", "tree"] []) (k2 : mg "made_regular" = some (.ref e2)) (J2 : FnOk P w K mg base CX0 47 e2 ed2 ["book", "tree"] (spMrg Po))
    (E3 : Fun K "is_tree" "is_tree" sIst e3 ed3) (c3 : Binds K ed3 ["book", "thing"] []) (k3 : mg "is_tree" = some (.ref e3)) (J3 : FnOk P w K mg base CX0 46 e3 ed3 ["book", "thing"] (spIst Po))
    (E4 : Fun K "is_regular" "is_regular" sIrg e4 ed4) (c4 : Binds K ed4 ["tree"] []) (k4 : mg "is_regular" = some (.ref e4)) (J4 : FnOk P w K mg base CX0 42 e4 ed4 ["tree"] spIrg)
    (E5 : FunC K "is_wide" "is_wide" sWid e5 cw ed5) (c5 : Binds K ed5 ["one", "other"] []) (k5 : mg "is_wide" = some (.ref e5)) (J5 : FnOk P w K mg base CX0 3 e5 ed5 ["one", "other"] (spWid Pw))
    (E6 : Fun K "heights" "heights" sHei e6 ed6) (c6 : Binds K ed6 ["book", "ladder"] []) (k6 : mg "heights" = some (.ref e6)) (J6 : FnOk P w K mg base CX0 9 e6 ed6 ["book", "ladder"] (spHei Po))
    (E7 : Fun K "_law_s_height" "_law_s_height" sShe e7 ed7) (c7 : Binds K ed7 ["tree"] []) (k7 : mg "_law_s_height" = some (.ref e7)) (J7 : FnOk P w K mg base CX0 41 e7 ed7 ["tree"] (spShe 40)) :
    Gx2.FnX P w K mg base CX0 48 f fd ["book", "tree"] (spTrr Po Pw Ph Pa) := by
  refine Gx2.okX F scTrr (fun vs H Q E h => ?_) (fun cdv A outer s H vs Q E gd0 hr h => ?_)
  · obtain ⟨b, v, css, t, c, rfl, _⟩ := h
    rfl
  · obtain ⟨b, v, css, t, c, rfl, hb, ib, ht, d6, ct, tb, q⟩ := h
    have gd : (A.deeper (envOfC "_law_s_tree_right" (defScope sTrr) s.heap.objs.size f cdv)).guards = some [] := gd0
    have hu : (A.deeper (envOfC "_law_s_tree_right" (defScope sTrr) s.heap.objs.size f cdv)).units + 64 < cLine := by
      have := hr.un
      omega
    have hr3 : Room 3 _ := hr.mono (by omega)
    have hr6 : Room 6 _ := hr.mono (by omega)
    have hr7 : Room 7 _ := hr.mono (by omega)
    have hr9 : Room 9 _ := hr.mono (by omega)
    have hr10 : Room 10 _ := hr.mono (by omega)
    have hr41 : Room 41 _ := hr.mono (by omega)
    have hr42 : Room 42 _ := hr.mono (by omega)
    have hr46 : Room 46 _ := hr.mono (by omega)
    have hr47 : Room 47 _ := hr.mono (by omega)
    refine ⟨_, (PSs.nox (Evl.pss_cut (ps_set (i := 2) scTrr.nd rfl (.inl rfl) (pe_call G1 hr42 (by rfl) g1 F1.kp b1 .nil pass0 (pa_cons (pv 1) pa_nil)))
      (Evl.pss_cut (ps_set (i := 3) scTrr.nd rfl (.inl rfl) (pe_call G2 hr46 (by rfl) g2 F2.kp b2 .nil pass0 (pa_cons (pv 0) (pa_cons (pv 1) pa_nil))))
      (Evl.pss_cut (ps_if (PW.pt (pw_or (pt_cmpR op_notBl (pe_call G3 hr7 (by rfl) g3 F3.kp b3 .nil pass0 (pa_cons (pv 0) (pa_cons (pv 2) pa_nil))) pe_bl (nomark _)) (pw_or1 (pt_cmpR (op_neD hr.units) (pe_ix ix_list (pe_call G4 hr7 (by rfl) g4 F4.kp b4 .nil pass0 (pa_cons (pv 0) (pa_cons (pv 2) pa_nil))) (pe_un un_neg pe_int) (fun _ _ => rfl)) (pv 3) (nomark _))))) (pss_one (ps_ret pe_bl)) pss_nil)
      (Evl.pss_cut (ps_if (PW.pt (pw_or (pt_cmpR (op_neD hr.units) (pe_call G5 hr9 (by rfl) g5 F5.kp b5 .nil pass0 (pa_cons (pv 0) (pa_cons (pv 2) pa_nil))) (pe_listRgN rfl (by rfl) T.z_list (prg_1 (by rfl) T.z_range (pe_callB call_len_seq (by rfl) T.z_len (by decide +kernel) (pa_cons (pv 2) pa_nil)))) (nomark _)) (pw_or1 (pt_cmpR op_ne (pe_callB Tsm.cr_lenSN (by rfl) T.z_len (by decide +kernel) (pa_cons (pe_callTy (Tsm.cr_setK rfl hu) (by rfl) T.z_set (by decide +kernel) (pa_cons (pv 2) pa_nil)) pa_nil)) (pe_callB call_len_seq (by rfl) T.z_len (by decide +kernel) (pa_cons (pv 2) pa_nil)) (nomark _))))) (pss_one (ps_ret pe_bl)) pss_nil)
      (Evl.pss_cut (ps_if (PW.pt (pw_or (pt_cmpR (op_neD hr.units) (Gx2.pe_callX G6 gd hr10 (by rfl) g6 F6.kp b6 .nil pass0 (pa_cons (pv 0) (pa_cons (pv 2) pa_nil))) (pv 1) (nomark _)) (pw_or1 (pt_cmpR op_ne (pe_call G7 hr9 (by rfl) g7 F7.kp b7 .nil pass0 (pa_cons (pv 0) (pa_cons (pv 2) pa_nil))) (pe_call G8 hr41 (by rfl) g8 F8.kp b8 .nil pass0 (pa_cons (pv 1) pa_nil)) (nomark _))))) (pss_one (ps_ret pe_bl)) pss_nil)
      (Evl.pss_cut (ps_if (PW.pt (pw_or (pt_cmpR (op_neD hr.units) (pe_call G9 hr6 (by rfl) g9 F9.kp b9 .nil pass0 (pa_cons (pv 0) (pa_cons (pv 3) pa_nil))) (pe_tupN (pa_cons pe_str pa_nil)) (nomark _)) (pw_or1 (pt_cmpR op_ne (pe_call G8 hr41 (by rfl) g8 F8.kp b8 .nil pass0 (pa_cons (pv 1) pa_nil)) (pe_op op_add (pe_op op_mul pe_int (pe_call J1 hr41 (by rfl) k1 E1.kp c1 .nil pass0 (pa_cons (pv 1) pa_nil))) pe_int) (nomark _))))) (pss_one (ps_ret pe_bl)) pss_nil)
      (Evl.pss_cut (ps_set (i := 4) scTrr.nd rfl (.inl rfl) (pe_call J2 hr47 (by rfl) k2 E2.kp c2 .nil pass0 (pa_cons (pv 0) (pa_cons (pv 1) pa_nil))))
      (Evl.pss_cut (ps_if (PW.pt (pw_or (pt_cmpR op_notBl (pe_call J3 hr46 (by rfl) k3 E3.kp c3 .nil pass0 (pa_cons (pv 0) (pa_cons (pv 4) pa_nil))) pe_bl (nomark _)) (pw_or1 (pt_cmpR op_notBl (pe_call J4 hr42 (by rfl) k4 E4.kp c4 .nil pass0 (pa_cons (pv 4) pa_nil)) pe_bl (nomark _))))) (pss_one (ps_ret pe_bl)) pss_nil)
      (Evl.pss_cut (ps_set (i := 5) scTrr.nd rfl (.inl rfl) (pe_call G2 hr46 (by rfl) g2 F2.kp b2 .nil pass0 (pa_cons (pv 0) (pa_cons (pv 4) pa_nil))))
      (Evl.pss_cut (ps_if (PW.pt (pw_or (pt_not (pt_val (pe_call J5 hr3 (by rfl) k5 E5.kp c5 .nil pass0 (pa_cons (pv 5) (pa_cons (pv 3) pa_nil))))) (pw_or1 (pt_cmpR (op_neD hr.units) (pe_call G9 hr6 (by rfl) g9 F9.kp b9 .nil pass0 (pa_cons (pv 0) (pa_cons (pv 5) pa_nil))) (pe_tupN (pa_cons pe_str pa_nil)) (nomark _))))) (pss_one (ps_ret pe_bl)) pss_nil)
      (Evl.pss_cut (ps_if (pt_cmpR op_ne (pe_ix ix_list (pe_call J6 hr9 (by rfl) k6 E6.kp c6 .nil pass0 (pa_cons (pv 0) (pa_cons (pv 2) pa_nil))) (pe_un un_neg pe_int) (fun _ _ => rfl)) (pe_call J7 hr41 (by rfl) k7 E7.kp c7 .nil pass0 (pa_cons (pv 1) pa_nil)) (nomark _)) (pss_one (ps_ret pe_bl)) pss_nil)
      (Evl.pss_cut (ps_if (pt_cmpR op_gt (pe_callB call_len_seq (by rfl) T.z_len (by decide +kernel) (pa_cons (pe_call G1 hr42 (by rfl) g1 F1.kp b1 .nil pass0 (pa_cons (pv 4) pa_nil)) pa_nil)) (pe_call G8 hr41 (by rfl) g8 F8.kp b8 .nil pass0 (pa_cons (pv 4) pa_nil)) (nomark _)) (pss_one (ps_ret pe_bl)) pss_nil)
      (pss_one (ps_ret (pe_chain op_le op_le (pe_ix ix_list (pe_call J6 hr9 (by rfl) k6 E6.kp c6 .nil pass0 (pa_cons (pv 0) (pa_cons (pe_call G1 hr42 (by rfl) g1 F1.kp b1 .nil pass0 (pa_cons (pv 4) pa_nil)) pa_nil))) (pe_un un_neg pe_int) (fun _ _ => rfl)) (pe_call J1 hr41 (by rfl) k1 E1.kp c1 .nil pass0 (pa_cons (pv 4) pa_nil)) (pe_call J1 hr41 (by rfl) k1 E1.kp c1 .nil pass0 (pa_cons (pv 1) pa_nil)))))))))))))))))), ?_⟩
    have p63 : t.pieces ≤ 63 := by
      have h1 := Bkg.T.lt2 t
      have h2 : 2 ^ t.depth ≤ 2 ^ 6 := Nat.pow_le_pow_right (by decide) d6
      have h3 : (2 : Nat) ^ 6 = 64 := by decide
      omega
    have ic := Tr.Cl.isCl ib ct
    -- its rows
    obtain ⟨cls, ld, et, l0, lp, ec⟩ := rows_facts ct
    have nd := rws_nodup (gd_all t)
    have dn := dn_lad ld ib
    have ul := ul_all ct dn
    generalize ers : rws (dd [] t.all) = rs at ld et l0 lp nd ul dn
    have mc : c ∈ cls := List.mem_of_getElem? ec
    -- rows
    refine Evl.q_cut (M := fun σ' H' => ∃ R : Addr, σ' = [some b, some v, some (.ref R), none, none, none] ∧ Ke Nof H H' ∧ RwL H' R rs) ?_ ?_
    · refine ⟨_, rfl, v, t, rfl, ht, by omega, by omega, fun R H1 nR kk hR => ?_⟩
      rw [ers] at hR
      exact ⟨R, rfl, kk, hR⟩
    rintro σ' H1 ⟨R, rfl, kk1, hR⟩
    have hb := hb.ke kk1
    have ht := ht.ke kk1
    have tb := tb.ke kk1
    have q : ∀ G, Ke Nof H1 G → Q (.bl true) G := fun G z => q G (kk1.trans z)
    clear kk1
    -- claim
    refine Evl.q_cut (M := fun σ' G => ∃ cv : V, σ' = [some b, some v, some (.ref R), some cv, none, none] ∧ Ke Nof H1 G ∧ TupI G cv c) ?_ ?_
    · exact ⟨_, rfl, _, rfl, b, v, css, t, c, rfl, hb, ib, ht, by omega, ct, tb.o, fun p H2 kk hp => ⟨_, rfl, kk, p, rfl, hp⟩⟩
    rintro σ' H2 ⟨cv, rfl, kk1, tcv⟩
    have hb := hb.ke kk1
    have ht := ht.ke kk1
    have tb := tb.ke kk1
    have hR := hR.ke kk1 fun z => z
    have q : ∀ G, Ke Nof H2 G → Q (.bl true) G := fun G z => q G (kk1.trans z)
    clear kk1
    have bl : ∀ {G}, Ke Nof H2 G → BL G b R css rs cls := fun z => ⟨hb.ke z, hR.ke z fun z => z, ld, ib, by omega⟩
    have fol : ∀ bs, ¬ Ctr css c bs := fun bs => Lad.noCtr ib ld mc
    -- a ladder of that claim
    refine Evl.q_cut (M := fun σ' G => σ' = [some b, some v, some (.ref R), some cv, none, none] ∧ Ke Nof H2 G) ?_ ?_
    · refine ⟨_, rfl, _, rfl, b, R, css, cls, rs, rfl, bl (.refl _ _), l0, tb.o, fun H3 z3 => ⟨true, true, rfl, rfl, false, rfl, ?_⟩⟩
      refine ⟨_, rfl, _, rfl, b, R, css, cls, rs, rfl, bl z3, l0, (tb.ke z3).o, fun C' H4 nC z4 hC => ?_⟩
      obtain ⟨cvs, hC', aC⟩ := hC
      obtain ⟨cv2, hcv2, tcv2⟩ := aC.atR ec
      obtain ⟨a2, rfl, ha2⟩ := id tcv2
      obtain ⟨a1, rfl, ha1⟩ := (tcv.ke z3).ke z4
      refine ⟨_, rfl, C', cvs, _, .ref a2, rfl, rfl, .of hC', at_last (by rw [aC.1]; exact hcv2), ?_⟩
      refine ⟨_, rfl, .tuple (c.map .int), .tuple (c.map .int), .tup (.of ha2) (dp_ints c), .tup (.of ha1) (dp_ints c), shc c, shc c, false, ?_, rfl, z3.trans z4⟩
      rw [eqv_self (shc c)]
      rfl
    rintro σ' H3 ⟨rfl, z3⟩
    -- all needed, none alike
    refine Evl.q_cut (M := fun σ' G => σ' = [some b, some v, some (.ref R), some cv, none, none] ∧ Ke Nof H2 G) ?_ ?_
    · refine ⟨_, rfl, _, rfl, b, R, css, cls, rs, rfl, bl z3, l0, (tb.ke z3).o, fun ns p H4 un fr z4 hp => ?_⟩
      obtain rfl := UL.one un ul
      have z34 := z3.trans z4
      obtain ⟨rvs, hr4, aR⟩ := hR.ke z34 fun z => z
      have lr := aR.1
      refine ⟨_, rfl, R, _, rfl, .inl (.of hr4), _, rfl, .of_le (by omega) (by omega) (by omega) (by omega), fun p2 H5 n2 s5 h5 _ => ?_⟩
      rw [rg_up, lr] at h5
      have sh := shaped_list (flat_ints (Wtm.upTo rs.length))
      refine ⟨.list ((Wtm.upTo rs.length).map .int), .list ((Wtm.upTo rs.length).map .int), .lst (.of (s5 _ _ hp)) (dp_ints _), .lst (.of h5) (dp_ints _), sh, sh, false, ?_, ?_⟩
      · rw [eqv_self sh]
        rfl
      obtain ⟨ks, e1, e2, al⟩ := keys_of (aR.imp fun _ _ r => r.ke (Ke.same (F := Nof) s5))
      have lk : ks.length = rs.length := by
        have := congrArg List.length e2
        rw [List.length_map, List.length_map] at this
        exact this
      have hr5 := s5 _ _ hr4
      have hr5' := hr5
      rw [e1] at hr5
      refine ⟨_, rfl, R, ks, rfl, .of hr5, fun p hp => .of (al p hp), by omega, ?_, fun a H6 na s6 ha => ⟨a, _, rfl, ha, ?_⟩⟩
      · rw [e2]
        exact List.pairwise_map.mpr (List.Pairwise.imp (fun ne e => ne (keyR_inj e)) nd)
      · refine ⟨_, rfl, R, _, rfl, .inl (.of (s6 _ _ hr5')), rfl, false, ?_, rfl, z34.trans (.same (s5.trans s6))⟩
        rw [lk, lr]
        simp
    clear z3 H3
    rintro σ' H3 ⟨rfl, z3⟩
    -- put back, the tree
    refine Evl.q_cut (M := fun σ' G => σ' = [some b, some v, some (.ref R), some cv, none, none] ∧ Ke Nof H2 G) ?_ ?_
    · refine ⟨_, rfl, _, rfl, b, R, css, cls, rs, t, rfl, bl z3, l0, (tb.ke z3).o, et, fun z => by omega, fun _ _ v2 H4 z4 av => ?_⟩
      have z34 := z3.trans z4
      have sht := shaped_t (t := t) (by omega)
      refine ⟨_, rfl, tdt t, tdt t, Bkg.dp_tree av, Bkg.dp_tree (ht.ke z34), sht, sht, false, ?_, ?_⟩
      · rw [eqv_self sht]
        rfl
      refine ⟨_, rfl, _, rfl, b, R, css, cls, rs, rfl, bl z34, l0, (tb.ke z34).o, fun t2 H5 z5 et2 => ?_⟩
      rw [et] at et2
      cases et2
      refine ⟨_, rfl, v, t, rfl, (ht.ke z34).ke z5, by omega, rfl, false, by simp, rfl, z34.trans z5⟩
    clear z3 H3
    rintro σ' H3 ⟨rfl, z3⟩
    -- its claim follows
    refine Evl.q_cut (M := fun σ' G => σ' = [some b, some v, some (.ref R), some cv, none, none] ∧ Ke Nof H2 G) ?_ ?_
    · refine ⟨_, rfl, _, rfl, b, cv, css, c, rfl, hb.ke z3, tcv.ke z3, ic.says, fun c hc => (ib c hc).says, (tb.ke z3).h, (tb.ke z3).a, fun p H4 z4 hp _ => ?_, fun p r H4 bs _ _ _ ctr => (fol bs ctr).elim⟩
      refine ⟨by show 1 ≤ sizeLine; decide, fun p2 H5 n2 s5 hp2 _ => ?_⟩
      refine ⟨.tuple [.str "follows"], .tuple [.str "follows"], .tup (.of (s5 _ _ hp)) (.cons (.str _) .nil), .tup (.of hp2) (.cons (.str _) .nil), shF, shF, false, ?_, ?_⟩
      · rw [eqv_self shF]
        rfl
      have z35 := (z3.trans z4).trans (.same s5)
      refine ⟨_, rfl, v, t, rfl, ht.ke z35, by omega, _, rfl, v, t, rfl, ht.ke z35, by omega, ?_⟩
      refine ⟨_, _, rfl, rfl, .inl (by decide), _, _, rfl, rfl, rfl, false, ?_, rfl, z35⟩
      have e := pieces_cuts t
      have e : ((t.pieces : Nat) : Int) = 2 * ((t.cuts : Nat) : Int) + 1 := by omega
      rw [e]
      simp
    clear z3 H3
    rintro σ' H3 ⟨rfl, z3⟩
    -- made
    refine Evl.q_cut (M := fun σ' G => ∃ (u : V) (t' : Tr.T) (c' : List Int), σ' = [some b, some v, some (.ref R), some cv, some u, none] ∧ Ke Nof H2 G ∧ At G t' u ∧ Good css [] t c t' c') ?_ ?_
    · exact ⟨_, rfl, _, rfl, b, v, css, t, c, rfl, hb.ke z3, ib, ht.ke z3, by omega, ct, (tb.ke z3).o, fun u t' c' H4 z4 hu' gd' => ⟨u, t', c', rfl, z3.trans z4, hu', gd'⟩⟩
    clear z3 H3
    rintro σ' H3 ⟨u, t', c', rfl, z3, hu', gd'⟩
    have dp' := gd'.dp
    have pc' := gd'.pc
    have ct' := gd'.cl
    have er := gd'.reg [] fun a h => (nomatch h)
    have ic' := Tr.Cl.isCl ib ct'
    have sub : ∀ j ∈ c', j ∈ c := fun j hj => (gd'.sub j hj).resolve_right fun z => (nomatch z)
    obtain ⟨cls2, ld2, et2, l02, lp2, ec2⟩ := rows_facts ct'
    have fol' : ∀ bs, ¬ Ctr css c' bs := fun bs => Lad.noCtr ib ld2 (List.mem_of_getElem? ec2)
    have hb3 := hb.ke z3
    have tb3 := tb.ke z3
    have ht3 := ht.ke z3
    -- a regular tree
    refine Evl.q_cut (M := fun σ' G => σ' = [some b, some v, some (.ref R), some cv, some u, none] ∧ Ke Nof H3 G) ?_ ?_
    · refine ⟨_, rfl, _, rfl, b, u, css, t', c', rfl, hb3, ib, hu', by omega, by omega, ct', tb3.o, fun H4 z4 => ⟨true, true, rfl, rfl, false, rfl, ?_⟩⟩
      refine ⟨_, rfl, u, t', rfl, hu'.ke z4, by omega, fun H5 s5 => ⟨true, true, by rw [er], rfl, false, rfl, rfl, z4.trans (.same s5)⟩⟩
    rintro σ' H4 ⟨rfl, z4⟩
    -- told
    refine Evl.q_cut (M := fun σ' G => ∃ cw' : V, σ' = [some b, some v, some (.ref R), some cv, some u, some cw'] ∧ Ke Nof H3 G ∧ TupI G cw' c') ?_ ?_
    · exact ⟨_, rfl, _, rfl, b, u, css, t', c', rfl, hb3.ke z4, ib, hu'.ke z4, by omega, ct', (tb3.ke z4).o, fun p H5 z5 hp => ⟨_, rfl, z4.trans z5, p, rfl, hp⟩⟩
    clear z4 H4
    rintro σ' H4 ⟨cw', rfl, z4, tcw⟩
    -- as wide, and follows
    refine Evl.q_cut (M := fun σ' G => σ' = [some b, some v, some (.ref R), some cv, some u, some cw'] ∧ Ke Nof H3 G) ?_ ?_
    · refine ⟨_, rfl, _, rfl, cw', cv, c', c, rfl, tcw, (tcv.ke z3).ke z4, (tb3.ke z4).w, fun H5 z5 => ⟨true, by rw [wide_sub sub], ?_⟩⟩
      have z45 := z4.trans z5
      refine ⟨_, rfl, _, rfl, b, cw', css, c', rfl, hb3.ke z45, tcw.ke z5, ic'.says, fun c hc => (ib c hc).says, (tb3.ke z45).h, (tb3.ke z45).a, fun p H6 z6 hp _ => ?_, fun p r H6 bs _ _ _ ctr => (fol' bs ctr).elim⟩
      refine ⟨by show 1 ≤ sizeLine; decide, fun p2 H7 n2 s7 hp2 _ => ?_⟩
      refine ⟨.tuple [.str "follows"], .tuple [.str "follows"], .tup (.of (s7 _ _ hp)) (.cons (.str _) .nil), .tup (.of hp2) (.cons (.str _) .nil), shF, shF, false, ?_, rfl, (z45.trans z6).trans (.same s7)⟩
      rw [eqv_self shF]
      rfl
    clear z4 tcw H4
    rintro σ' H4 ⟨rfl, z4⟩
    -- the heights
    refine Evl.q_cut (M := fun σ' G => σ' = [some b, some v, some (.ref R), some cv, some u, some cw'] ∧ Ke Nof H3 G) ?_ ?_
    · refine ⟨_, rfl, _, rfl, b, R, css, cls, rs, rfl, bl (z3.trans z4), l0, (tb3.ke z4).o, fun p H5 fr z5 hp => ?_⟩
      refine ⟨_, rfl, p, _, _, .int (hOf t), rfl, rfl, .of hp, at_last (hts_last ld et), ?_⟩
      have z45 := z4.trans z5
      refine ⟨_, rfl, v, t, rfl, ht3.ke z45, by omega, fun H6 s6 => ⟨rfl, false, by simp, rfl, z45.trans (.same s6)⟩⟩
    clear z4 H4
    rintro σ' H4 ⟨rfl, z4⟩
    -- how many rows
    refine Evl.q_cut (M := fun σ' G => σ' = [some b, some v, some (.ref R), some cv, some u, some cw'] ∧ Ke Nof H3 G) ?_ ?_
    · refine ⟨_, rfl, u, t', rfl, hu'.ke z4, by omega, by omega, fun R2 H5 nR z5 hR2 => ?_⟩
      obtain ⟨rvs, hr2, aR2⟩ := hR2
      have lr2 := aR2.1
      have z45 := z4.trans z5
      refine ⟨R2, _, rfl, .inl (.of hr2), _, rfl, u, t', rfl, hu'.ke z45, by omega, _, _, rfl, rfl, _, rfl, ite2 (fun e => ?_) (fun _ => ⟨rfl, z45⟩)⟩
      have e := of_decide_eq_true e
      omega
    clear z4 H4
    rintro σ' H4 ⟨rfl, z4⟩
    -- the least height
    refine ⟨_, rfl, _, rfl, u, t', rfl, hu'.ke z4, by omega, by omega, fun R2 H5 nR z5 hR2 => ?_⟩
    have z45 := z4.trans z5
    refine ⟨b, R2, css, cls2, _, rfl, ⟨hb3.ke z45, hR2, ld2, ib, by omega⟩, l02, (tb3.ke z45).o, fun p H6 fr z6 hp => ?_⟩
    refine ⟨_, rfl, p, _, _, .int (hOf t'), rfl, rfl, .of hp, at_last (hts_last ld2 et2), ?_⟩
    have z46 := z45.trans z6
    have dc := dep_cuts t'
    have cc := cuts_le pc'
    refine ⟨_, rfl, u, t', rfl, hu'.ke z46, by omega, _, _, rfl, rfl, true, ?_, ?_⟩
    · have : hOf t' ≤ ((t'.cuts : Nat) : Int) := by
        unfold hOf
        omega
      show V.bl (decide (hOf t' ≤ ((t'.cuts : Nat) : Int))) = _
      rw [decide_eq_true this]
    refine ⟨_, rfl, v, t, rfl, ht3.ke z46, by omega, _, _, rfl, rfl, ?_⟩
    have qq := q H6 (z3.trans z46)
    rw [show true = decide (((t'.cuts : Nat) : Int) ≤ ((t.cuts : Nat) : Int)) from (decide_eq_true (by omega)).symm] at qq
    exact qq
end
end Wtr
namespace Rf3
open PySem PySem.Spec PyProof.Rows L2 GxR Nw Dr Kp Se Cl Ct Lr Lp Ll Od Wg Wl Wk Ev1 Rk Rf Tr Bkg Bkp
section
variable {P : Program} {w : World} {K : PySem.W.Frag} {mg : Str → Option Value} {base : Heap}
/-- what refusing tells: a call with these two things; it may be refused by the class i, or not -/
def spRef3 (fa : Addr) (cs : Nat → Addr) (sp : Sp) : Sp := fun vs H Q _ => ∃ (t : Addr) (x y : V), vs = [.ref t] ∧ H t = some (.tup [.ref fa, x, y]) ∧
  sp [x, y] H (fun _ H1 => ∀ H', Same H1 H' → Q (.str "") H') fun cls d H1 => ∃ i, i < 9 ∧ cls = .ref (cs i) ∧ (d = none ∨ ∃ dx v, d = some dx ∧ H1 dx = some (.xd [(("at" : Str), v)])) ∧ ∀ (wd : Str) (H' : Hp), wd9[i]? = some wd → Same H1 H' → Q (.str wd) H'
theorem ok_ref3 {f fa S : Addr} {cs : Nat → Addr} {fd fda : FuncData} {ps : List Str} {ka : Nat} {sp : Sp} (F : Fun K "_law_srefused" "_law_srefused" sRef f fd) (T : Txt K mg cs S) (kpA : PySem.W.keepIn K (.ref fa) = true) (bA : Binds K fda ps []) (GA : Gx2.FnX P w K mg base (L2.CX P w) ka fa fda ps sp)
    (mono : ∀ (vs : List V) (H : Hp) (Q Q' : VK) (E E' : XK), sp vs H Q E → (∀ v H', Q v H' → Q' v H') → (∀ c d H', E c d H' → E' c d H') → sp vs H Q' E') :
    Gx2.FnX P w K mg base CX0 (ka + 1) f fd ["act"] (spRef3 fa cs sp) := by
  refine Gx2.okX F scRef (fun vs H Q E h => ?_) (fun cdv A outer s H vs Q E gd0 hr h => ?_)
  · obtain ⟨t, x, y, rfl, _⟩ := h
    rfl
  · obtain ⟨t, x, y, rfl, ht, q⟩ := h
    have hrA : Room ka _ := hr
    have gd : (A.deeper (envOfC "_law_srefused" (defScope sRef) s.heap.objs.size f cdv)).guards = some [] := gd0
    refine ⟨_, (Evl.pss_cut (ps_set (i := 1) scRef.nd rfl (.inl rfl) pe_non)
      (Evl.pss_cut (Rk.ps_try_keep (i := 2) rfl rfl rfl scRef.nd rfl rfl ⟨rfl, by decide, .inl T.gS⟩ Rk.takes0 (fun W pn xe tk _ => (pss_one (ps_if (pt_cmpR op_eq (pe_callB (call_len_seqB (K := K) rfl) (by rfl) T.z_len (by decide +kernel) (pa_cons (pv 0) pa_nil)) pe_int (nomark _)) pss_never (pss_one (ps_if (pt_cmpR op_eq (pe_callB (call_len_seqB (K := K) rfl) (by rfl) T.z_len (by decide +kernel) (pa_cons (pv 0) pa_nil)) pe_int (nomark _)) (pss_one (ps_expr (Rk.pe_callV GA gd hrA kpA bA (fun σ => passAt tk σ) (pe_ix (ix_tupB (K := K) rfl) (pv 0) pe_int (fun _ _ => rfl)) (pa_cons (pe_ix (ix_tupB (K := K) rfl) (pv 0) pe_int (fun _ _ => rfl)) (pa_cons (pe_ix (ix_tupB (K := K) rfl) (pv 0) pe_int (fun _ _ => rfl)) pa_nil))))) pss_never))))) (fun a oe cls d pn hz hf => (pss_one (ps_set (i := 1) scRef.nd rfl (.inl rfl) (pv 2)))))
      (pss_cons (ps_if (pt_cmpR op_isN (pv 1) pe_non (nomark _)) (pss_one (ps_ret pe_str)) pss_nil)
      (pss_cons (ps_set (i := 3) scRef.nd rfl (.inl rfl) (pe_lstN (pa_cons (pe_callB Rk.call_isW (by rfl) T.z_isinstance (by decide +kernel) (pa_cons (pv 1) (pa_cons (pe_glob (v := .ref (cs 0)) rfl (T.g 0 _ rfl) rfl) pa_nil))) (pa_cons (pe_callB Rk.call_isW (by rfl) T.z_isinstance (by decide +kernel) (pa_cons (pv 1) (pa_cons (pe_glob (v := .ref (cs 1)) rfl (T.g 1 _ rfl) rfl) pa_nil))) pa_nil))))
      (pss_cons (ps_set (i := 3) scRef.nd rfl (.inl rfl) (pe_op op_catN (pv 3) (pe_lstN (pa_cons (pe_callB Rk.call_isW (by rfl) T.z_isinstance (by decide +kernel) (pa_cons (pv 1) (pa_cons (pe_glob (v := .ref (cs 2)) rfl (T.g 2 _ rfl) rfl) pa_nil))) (pa_cons (pe_callB Rk.call_isW (by rfl) T.z_isinstance (by decide +kernel) (pa_cons (pv 1) (pa_cons (pe_glob (v := .ref (cs 3)) rfl (T.g 3 _ rfl) rfl) pa_nil))) pa_nil)))))
      (pss_cons (ps_set (i := 3) scRef.nd rfl (.inl rfl) (pe_op op_catN (pv 3) (pe_lstN (pa_cons (pe_callB Rk.call_isW (by rfl) T.z_isinstance (by decide +kernel) (pa_cons (pv 1) (pa_cons (pe_glob (v := .ref (cs 4)) rfl (T.g 4 _ rfl) rfl) pa_nil))) (pa_cons (pe_callB Rk.call_isW (by rfl) T.z_isinstance (by decide +kernel) (pa_cons (pv 1) (pa_cons (pe_glob (v := .ref (cs 5)) rfl (T.g 5 _ rfl) rfl) pa_nil))) pa_nil)))))
      (Evl.pss_cut (ps_set (i := 3) scRef.nd rfl (.inl rfl) (pe_op op_catN (pv 3) (pe_lstN (pa_cons (pe_callB Rk.call_isW (by rfl) T.z_isinstance (by decide +kernel) (pa_cons (pv 1) (pa_cons (pe_glob (v := .ref (cs 6)) rfl (T.g 6 _ rfl) rfl) pa_nil))) (pa_cons (pe_callB Rk.call_isW (by rfl) T.z_isinstance (by decide +kernel) (pa_cons (pv 1) (pa_cons (pe_glob (v := .ref (cs 7)) rfl (T.g 7 _ rfl) rfl) pa_nil))) pa_nil)))))
      (Evl.pss_cut (ps_expr (pe_bm PySem.F.plainAttrs_list PySem.F.slot_list_append PySem.F.type_list_append mt_append (pv 3) (pa_cons (pe_callB Rk.call_isW (by rfl) T.z_isinstance (by decide +kernel) (pa_cons (pv 1) (pa_cons (pe_glob (v := .ref (cs 8)) rfl (T.g 8 _ rfl) rfl) pa_nil))) pa_nil)))
      (pss_cons (ps_if (PW.pt (pw_or (pt_cmpR op_ne (pe_bm PySem.F.plainAttrs_list PySem.F.slot_list_count PySem.F.type_list_count Rk.mt_countV (pv 3) (pa_cons pe_bl pa_nil)) pe_int (nomark _)) (pw_or1 (pt_not (pt_val (pe_callB Rk.call_isW (by rfl) T.z_isinstance (by decide +kernel) (pa_cons (pv 1) (pa_cons (pe_bltn (v := .ty "ValueError") (by rfl) T.z_ValueError PyProof.Rows.Boot.«ValueError» rfl) pa_nil)))))))) (pss_one (ps_ret pe_str)) pss_nil)
      (pss_cons (ps_set (i := 4) scRef.nd rfl (.inl rfl) (pe_lstN (pa_cons pe_str (pa_cons pe_str (pa_cons pe_str (pa_cons pe_str (pa_cons pe_str (pa_cons pe_str (pa_cons pe_str (pa_cons pe_str (pa_cons pe_str pa_nil)))))))))))
      (pss_one (ps_ret (pe_ix ix_list (pv 4) (pe_bm PySem.F.plainAttrs_list PySem.F.slot_list_index PySem.F.type_list_index mt_index (pv 3) (pa_cons pe_bl pa_nil)) (fun _ _ => rfl)))))))))))))), ?_⟩
    refine Evl.q_cut (M := fun σ' H' => σ' = [some (.ref t), some .non, none, none, none] ∧ H' = H) ⟨rfl, rfl⟩ ?_
    rintro σ' H' ⟨rfl, rfl⟩
    refine Evl.q_cut (M := fun σ' H' => (σ' = [some (.ref t), some .non, none, none, none] ∧ (∀ H'', Same H' H'' → Q (.str "") H'')) ∨ ∃ (a : Addr) (i : Nat), σ' = [some (.ref t), some (.ref a), none, none, none] ∧ i < 9 ∧ ExW H' a (cs i) ∧ (∀ (wd : Str) (H'' : Hp), wd9[i]? = some wd → Same H' H'' → Q (.str wd) H'')) ?_ ?_
    · refine ⟨_, rfl, t, _, rfl, .inr (.of ht), rfl, false, rfl, ?_⟩
      refine ⟨_, rfl, t, _, rfl, .inr (.of ht), rfl, true, rfl, ?_⟩
      refine ⟨_, rfl, t, _, 0, .ref fa, rfl, rfl, .of ht, rfl, rfl, ?_⟩
      refine ⟨_, rfl, t, _, 1, x, rfl, rfl, .of ht, rfl, ?_⟩
      refine ⟨_, rfl, t, _, 2, y, rfl, rfl, .of ht, rfl, ?_⟩
      refine mono _ _ _ _ _ _ q (fun v H1 h1 => .inl ⟨rfl, h1⟩) fun c d H1 h1 => ?_
      obtain ⟨i, hi, rfl, hd, h2⟩ := h1
      refine ⟨true, T.xm i hi, fun _ a na => ?_, fun z => nomatch z⟩
      refine ⟨.ref a, rfl, fun nb => .inr ⟨a, i, rfl, hi, ?_, fun wd H'' e s2 => h2 wd H'' e ((same_new na).trans s2)⟩⟩
      rcases hd with rfl | ⟨dx, v, rfl, hx⟩
      · exact .inl upd_same
      · exact .inr ⟨v, dx, upd_same, by rw [upd_ne (ne_of_none hx na)]; exact hx⟩
    · rintro σ' H1 (⟨rfl, q1⟩ | ⟨a, i, rfl, hi, hE, q1⟩)
      · refine ⟨_, rfl, rfl, true, rfl, ?_⟩
        exact q1 _ (Same.refl _)
      · refine ⟨_, rfl, rfl, false, rfl, ?_⟩
        refine ⟨_, rfl, a, cs i, .ref (cs 0), .ref (cs 0), decide (0 = i), rfl, hE, T.ec i hi, fun u r => r, T.ap i 0 hi (by decide), ?_⟩
        refine ⟨_, rfl, a, cs i, .ref (cs 1), .ref (cs 1), decide (1 = i), rfl, hE, T.ec i hi, fun u r => r, T.ap i 1 hi (by decide), ?_⟩
        refine ⟨by show 2 ≤ sizeLine; decide, fun q1' J1 nq1 u1 k1 _ => ?_⟩
        refine ⟨_, rfl, _, rfl, a, cs i, .ref (cs 2), .ref (cs 2), decide (2 = i), rfl, hE.same u1, T.ec i hi, fun u r => r, T.ap i 2 hi (by decide), ?_⟩
        refine ⟨_, rfl, a, cs i, .ref (cs 3), .ref (cs 3), decide (3 = i), rfl, hE.same u1, T.ec i hi, fun u r => r, T.ap i 3 hi (by decide), ?_⟩
        refine ⟨by show 2 ≤ sizeLine; decide, fun q2 J2 nq2 u2 k2 _ => ?_⟩
        refine ⟨q1', q2, _, _, rfl, rfl, u2 _ _ k1, k2, by show 4 ≤ sizeLine; decide, fun q3 J3 nq3 u3 k3 _ => ?_⟩
        have v3 := u1.trans (u2.trans u3)
        refine ⟨_, rfl, _, rfl, a, cs i, .ref (cs 4), .ref (cs 4), decide (4 = i), rfl, hE.same v3, T.ec i hi, fun u r => r, T.ap i 4 hi (by decide), ?_⟩
        refine ⟨_, rfl, a, cs i, .ref (cs 5), .ref (cs 5), decide (5 = i), rfl, hE.same v3, T.ec i hi, fun u r => r, T.ap i 5 hi (by decide), ?_⟩
        refine ⟨by show 2 ≤ sizeLine; decide, fun q4 J4 nq4 u4 k4 _ => ?_⟩
        refine ⟨q3, q4, _, _, rfl, rfl, u4 _ _ k3, k4, by show 6 ≤ sizeLine; decide, fun q5 J5 nq5 u5 k5 _ => ?_⟩
        have v5 := v3.trans (u4.trans u5)
        refine Evl.q_cut (M := fun σ' H2 => ∃ p : Addr, σ' = [some (.ref t), some (.ref a), none, some (.ref p), none] ∧ Same H1 H2 ∧ H1 p = none ∧ H2 p = some (.lst ((List.range 8).map fun j => V.bl (decide (j = i))))) ?_ ?_
        · refine ⟨_, rfl, _, rfl, a, cs i, .ref (cs 6), .ref (cs 6), decide (6 = i), rfl, hE.same v5, T.ec i hi, fun u r => r, T.ap i 6 hi (by decide), ?_⟩
          refine ⟨_, rfl, a, cs i, .ref (cs 7), .ref (cs 7), decide (7 = i), rfl, hE.same v5, T.ec i hi, fun u r => r, T.ap i 7 hi (by decide), ?_⟩
          refine ⟨by show 2 ≤ sizeLine; decide, fun q6 J6 nq6 u6 k6 _ => ?_⟩
          refine ⟨q5, q6, _, _, rfl, rfl, u6 _ _ k5, k6, by show 8 ≤ sizeLine; decide, fun q7 J7 nq7 u7 k7 _ => ?_⟩
          exact ⟨q7, rfl, v5.trans (u6.trans u7), (v5.trans u6).free nq7, k7⟩
        rintro σ' H2 ⟨p, rfl, s2, np, hp⟩
        refine Evl.q_cut (M := fun σ' H3 => σ' = [some (.ref t), some (.ref a), none, some (.ref p), none] ∧ Same H1 H3 ∧ H3 p = some (.lst (tru9 i))) ?_ ?_
        · refine ⟨_, rfl, .inl ⟨rfl, _, .of hp⟩, _, rfl, a, cs i, .ref (cs 8), .ref (cs 8), decide (8 = i), rfl, hE.same s2, T.ec i hi, fun u r => r, T.ap i 8 hi (by decide), ?_⟩
          refine ⟨p, _, _, rfl, rfl, hp, by show 8 < sizeLine; decide, rfl, fun b o e => ?_, upd_same⟩
          rw [upd_ne (ne_of_none e np)]
          exact s2 _ _ e
        rintro σ' H3 ⟨rfl, s3, hp3⟩
        refine ⟨_, rfl, .inl ⟨rfl, _, .of hp3⟩, p, _, .bl true, rfl, rfl, .of hp3, rfl, flat9 ⟨i, hi⟩, ?_⟩
        rw [cnt9 ⟨i, hi⟩]
        refine ⟨rfl, false, by simp, ?_⟩
        refine ⟨_, rfl, a, cs i, .ty "ValueError", .type "ValueError", true, rfl, hE.same s3, T.ec i hi, fun u r => r, T.kv i hi, _, rfl, ?_⟩
        refine ⟨by show 9 ≤ sizeLine; decide, fun pw H4 npw u4 kw _ => ?_⟩
        have lw : i < wd9.length := hi
        have ew : (wd9.map V.str)[i]? = some (V.str wd9[i]) := by rw [List.getElem?_map, List.getElem?_eq_getElem lw]; rfl
        refine ⟨_, rfl, _, rfl, .inl ⟨rfl, _, .of (u4 _ _ hp3)⟩, p, _, .bl true, i, .bl true, rfl, rfl, .of (u4 _ _ hp3), rfl, flat9 ⟨i, hi⟩, ix9 ⟨i, hi⟩, rfl, fun m z hm hz => no9 hm hi hz, ?_⟩
        refine ⟨pw, _, _, .str wd9[i], rfl, rfl, .of kw, at_of (j := i) rfl ew, ?_⟩
        exact q1 _ _ (List.getElem?_eq_getElem lw) (s3.trans u4)

theorem mono_tof (C Po : Addr) : ∀ (vs : List V) (H : Hp) (Q Q' : VK) (E E' : XK), spTof C Po vs H Q E → (∀ v H', Q v H' → Q' v H') → (∀ c d H', E c d H' → E' c d H') → spTof C Po vs H Q' E' := fun vs H Q Q' E E' h i1 i2 => by
  obtain ⟨b, L, css, cls, rows, t, e, bl, l0, to, et, q1, q2⟩ := h
  exact ⟨b, L, css, cls, rows, t, e, bl, l0, to, et, fun n H' k => i2 _ _ _ (q1 n H' k), fun a b v H' k x => i1 _ _ (q2 a b v H' k x)⟩
end
end Rf3
namespace Wlr
open PySem PySem.Spec PyProof.Rows L2 GxR Nw Dr Kp Se Cl Ct Lr Lp Ll Od Wg Wl Wk Ev1 Rk Rf Rf3 Wd Tr Tp Bkg Bkp Ro Rg Un Ub Um So Xb Wtm Wtr
open Tr (T At)
section
variable {P : Program} {w : World} {K : PySem.W.Frag} {mg : Str → Option Value} {base : Heap}
abbrev sLrr : Stmt := topS 84
theorem scLrr : FnScope ["book", "ladder", "tree", "rows"] ["book", "ladder"] (defScope sLrr) := ⟨rfl, rfl, rfl, by decide +kernel, rfl, by decide +kernel, by decide +kernel⟩
def spLrr (Po : Addr) : Sp := fun vs H Q _ => ∃ (b : V) (L : Addr) (css cls : List (List Int)) (rows : List Rw), vs = [b, .ref L] ∧ BL H b L css rows cls ∧ 0 < rows.length ∧ TabG H Po ∧ ∀ H', Ke Nof H H' → Q (.bl true) H'
theorem ok_lrr {f f1 f4 f6 f7 f8 e6 e8 e9 Po : Addr} {cs : Nat → Addr} {fd fd1 fd4 fd6 fd7 fd8 ed6 ed8 ed9 : FuncData} (F : Fun K "_law_s_ladder_right" "_law_s_ladder_right" sLrr f fd) (T : Zq mg)
    (F1 : Fun K "rows_of" "rows_of" sRof f1 fd1) (b1 : Binds K fd1 ["tree"] []) (g1 : mg "rows_of" = some (.ref f1)) (G1 : FnOk P w K mg base CX0 42 f1 fd1 ["tree"] (spRof 40))
    (F4 : Fun K "claims_of" "claims_of" sClo f4 fd4) (b4 : Binds K fd4 ["book", "ladder"] []) (g4 : mg "claims_of" = some (.ref f4)) (G4 : FnOk P w K mg base CX0 7 f4 fd4 ["book", "ladder"] (spClo Po))
    (F6 : Fun K "tree_of" "tree_of" sTof f6 fd6) (b6 : Binds K fd6 ["book", "ladder"] []) (g6 : mg "tree_of" = some (.ref f6)) (G6 : Gx2.FnX P w K mg base CX0 10 f6 fd6 ["book", "ladder"] (fun vs H Q _ => spTof (cs 3) Po vs H Q fun _ _ _ => False))
    (F7 : Fun K "pieces_of" "pieces_of" sPof f7 fd7) (b7 : Binds K fd7 ["book", "ladder"] []) (g7 : mg "pieces_of" = some (.ref f7)) (G7 : FnOk P w K mg base CX0 9 f7 fd7 ["book", "ladder"] (spPof Po))
    (F8 : Fun K "how_many_pieces" "how_many_pieces" sPcs f8 fd8) (b8 : Binds K fd8 ["tree"] []) (g8 : mg "how_many_pieces" = some (.ref f8)) (G8 : FnOk P w K mg base CX0 41 f8 fd8 ["tree"] (spPcs 40))
    (E6 : Fun K "heights" "heights" sHei e6 ed6) (c6 : Binds K ed6 ["book", "ladder"] []) (k6 : mg "heights" = some (.ref e6)) (J6 : FnOk P w K mg base CX0 9 e6 ed6 ["book", "ladder"] (spHei Po))
    (E8 : Fun K "trimmed" "trimmed" sTrm e8 ed8) (c8 : Binds K ed8 ["book", "ladder"] []) (k8 : mg "trimmed" = some (.ref e8)) (J8 : FnOk P w K mg base CX0 9 e8 ed8 ["book", "ladder"] (spTrm Po))
    (E9 : Fun K "_law_srefused" "_law_srefused" sRef e9 ed9) (c9 : Binds K ed9 ["act"] []) (k9 : mg "_law_srefused" = some (.ref e9)) (J9 : Gx2.FnX P w K mg base CX0 11 e9 ed9 ["act"] (spRef3 f6 cs (spTof (cs 3) Po))) :
    Gx2.FnX P w K mg base CX0 43 f fd ["book", "ladder"] (spLrr Po) := by
  refine Gx2.okX F scLrr (fun vs H Q E h => ?_) (fun cdv A outer s H vs Q E gd0 hr h => ?_)
  · obtain ⟨b, L, css, cls, rows, rfl, _⟩ := h
    rfl
  · obtain ⟨b, L, css, cls, rows, rfl, x, l0, tg, q⟩ := h
    have gd : (A.deeper (envOfC "_law_s_ladder_right" (defScope sLrr) s.heap.objs.size f cdv)).guards = some [] := gd0
    have hr7 : Room 7 _ := hr.mono (by omega)
    have hr9 : Room 9 _ := hr.mono (by omega)
    have hr10 : Room 10 _ := hr.mono (by omega)
    have hr11 : Room 11 _ := hr.mono (by omega)
    have hr41 : Room 41 _ := hr.mono (by omega)
    have hr42 : Room 42 _ := hr.mono (by omega)
    refine ⟨_, (PSs.nox (Evl.pss_cut (ps_if (pt_cmpR op_ne (Gx2.pe_callX J9 gd hr11 (by rfl) k9 E9.kp c9 .nil pass0 (pa_cons (pe_tupN (pa_cons (pe_glob (v := .ref f6) rfl g6 rfl) (pa_cons (pv 0) (pa_cons (pv 1) pa_nil)))) pa_nil)) pe_str (nomark _)) (pss_one (ps_ret (pe_or (pe_cmpR op_gt (pe_call G7 hr9 (by rfl) g7 F7.kp b7 .nil pass0 (pa_cons (pv 0) (pa_cons (pv 1) pa_nil))) pe_int (nomark _)) (pe_one (pe_cmpR op_gt (pe_ix ix_list (pe_call J6 hr9 (by rfl) k6 E6.kp c6 .nil pass0 (pa_cons (pv 0) (pa_cons (pv 1) pa_nil))) (pe_un un_neg pe_int) (fun _ _ => rfl)) pe_int (nomark _)))))) pss_nil)
      (Evl.pss_cut (ps_set (i := 2) scLrr.nd rfl (.inl rfl) (Gx2.pe_callX G6 gd hr10 (by rfl) g6 F6.kp b6 .nil pass0 (pa_cons (pv 0) (pa_cons (pv 1) pa_nil))))
      (Evl.pss_cut (ps_set (i := 3) scLrr.nd rfl (.inl rfl) (pe_call G1 hr42 (by rfl) g1 F1.kp b1 .nil pass0 (pa_cons (pv 2) pa_nil)))
      (Evl.pss_cut (ps_if (pt_cmpR op_gt (pe_callB call_len_seq (by rfl) T.z_len (by decide +kernel) (pa_cons (pv 3) pa_nil)) (pe_callB call_len_seq (by rfl) T.z_len (by decide +kernel) (pa_cons (pe_call J8 hr9 (by rfl) k8 E8.kp c8 .nil pass0 (pa_cons (pv 0) (pa_cons (pv 1) pa_nil))) pa_nil)) (nomark _)) (pss_one (ps_ret pe_bl)) pss_nil)
      (Evl.pss_cut (ps_if (pt_cmpR op_ne (pe_call G8 hr41 (by rfl) g8 F8.kp b8 .nil pass0 (pa_cons (pv 2) pa_nil)) (pe_call G7 hr9 (by rfl) g7 F7.kp b7 .nil pass0 (pa_cons (pv 0) (pa_cons (pv 1) pa_nil))) (nomark _)) (pss_one (ps_ret pe_bl)) pss_nil)
      (pss_one (ps_ret (pe_cmpR (op_eqD hr.units) (pe_ix ix_list (pe_call G4 hr7 (by rfl) g4 F4.kp b4 .nil pass0 (pa_cons (pv 0) (pa_cons (pv 3) pa_nil))) (pe_un un_neg pe_int) (fun _ _ => rfl)) (pe_ix ix_list (pe_call G4 hr7 (by rfl) g4 F4.kp b4 .nil pass0 (pa_cons (pv 0) (pa_cons (pv 1) pa_nil))) (pe_un un_neg pe_int) (fun _ _ => rfl)) (nomark _)))))))))), ?_⟩
    have par := lad_par x.ld
    have le := x.le
    have lt := trs_len rows
    have et := List.getElem?_eq_getElem (show rows.length - 1 < (trs rows).length by omega)
    generalize (trs rows)[rows.length - 1]'(by omega) = t at et
    have dl := dep_le par _ et
    have dp := (Tr.T.pos t).1
    have lc := x.ld.1
    have ec := List.getElem?_eq_getElem (show rows.length - 1 < cls.length by omega)
    generalize cls[rows.length - 1]'(by omega) = c at ec
    have ct := cl_trs x.ld _ et ec
    -- refused
    refine Evl.q_cut (M := fun σ' H' => σ' = [some b, some (.ref L), none, none] ∧ Ke Nof H H' ∧ t.pieces ≤ 360 ∧ t.depth ≤ 40) ?_ ?_
    · refine ⟨_, rfl, _, rfl, by show 3 ≤ sizeLine; decide, fun tc H3 nt s3 htc _ => ?_⟩
      have k3 : Ke Nof H H3 := .same s3
      refine ⟨tc, b, .ref L, rfl, htc, b, L, css, cls, rows, t, rfl, x.ke k3 fun z => z, l0, k3.tabs _ tg, et, fun gt H4 k4 => ⟨3, by decide, rfl, .inl rfl, fun wd H5 ew s5 => ?_⟩, fun a1 a2 v H4 k4 hv H5 s5 => ?_⟩
      · obtain rfl : wd = "great" := (Option.some.inj ew).symm
        have k5 := k3.trans (k4.trans (.same s5))
        refine ⟨rfl, true, rfl, ?_⟩
        refine ⟨_, rfl, _, rfl, b, L, css, cls, rows, rfl, x.ke k5 fun z => z, l0, k5.tabs _ tg, fun t' H6 k6 et' => ?_⟩
        rw [et] at et'
        cases et'
        by_cases e1 : 360 < t.pieces
        · refine ⟨_, _, rfl, rfl, true, ?_, ?_⟩
          · show V.bl (decide (_)) = _
            rw [decide_eq_true (by omega)]
          · exact q H6 (k5.trans k6)
        · refine ⟨_, _, rfl, rfl, false, ?_, ?_⟩
          · show V.bl (decide (_)) = _
            rw [decide_eq_false (by omega)]
          · have k56 := k5.trans k6
            refine ⟨_, rfl, _, rfl, b, L, css, cls, rows, rfl, x.ke k56 fun z => z, l0, k56.tabs _ tg, fun p H7 fr k7 hp => ⟨_, rfl, p, _, _, .int (hOf t), rfl, rfl, .of hp, at_last (hts_last x.ld et), _, _, rfl, rfl, ?_⟩⟩
            have gh : (39 : Int) < hOf t := by
              unfold hOf
              omega
            show Q (V.bl (decide ((39 : Int) < hOf t))) H7
            rw [decide_eq_true gh]
            exact q H7 (k56.trans k7)
      · have k5 := k3.trans (k4.trans (.same s5))
        exact ⟨rfl, false, rfl, rfl, k5, a1, a2⟩
    rintro σ' H1 ⟨rfl, k1, a1, a2⟩
    have x1 := x.ke k1 fun z => z
    have tg1 := k1.tabs _ tg
    have q : ∀ G, Ke Nof H1 G → Q (.bl true) G := fun G z => q G (k1.trans z)
    -- the tree
    refine Evl.q_cut (M := fun σ' H' => ∃ v : V, σ' = [some b, some (.ref L), some v, none] ∧ Ke Nof H1 H' ∧ At H' t v) ?_ ?_
    · refine ⟨_, rfl, _, rfl, b, L, css, cls, rows, t, rfl, x1, l0, tg1, et, fun z => by omega, fun _ _ v H3 k3 av => ⟨v, rfl, k3, av⟩⟩
    rintro σ' H2 ⟨v, rfl, k2, av⟩
    -- its rows
    obtain ⟨cls2, ld2, et2, l02, lp2, ec2⟩ := rows_facts ct
    refine Evl.q_cut (M := fun σ' H' => ∃ R : Addr, σ' = [some b, some (.ref L), some v, some (.ref R)] ∧ Ke Nof H2 H' ∧ RwL H' R (rws (dd [] t.all))) ?_ ?_
    · exact ⟨_, rfl, v, t, rfl, av, by omega, by omega, fun R H3 nR k3 hR => ⟨R, rfl, k3, hR⟩⟩
    rintro σ' H3 ⟨R, rfl, k3, hR⟩
    have k23 := k2.trans k3
    have x3 := x1.ke k23 fun z => z
    have tg3 := k23.tabs _ tg1
    have av3 := av.ke k3
    have q : ∀ G, Ke Nof H3 G → Q (.bl true) G := fun G z => q G (k23.trans z)
    have rl := nd_len' (dd [] t.all) (trs rows) (gd_all t).nd fun s hs => by
      obtain ⟨y, _, e⟩ := und_trs par _ et s ((dd_sub t.all [] s hs).resolve_left fun z => (nomatch z))
      exact List.mem_of_getElem? e
    rw [lt, ← rws_len] at rl
    have bl : BL H3 b R css (rws (dd [] t.all)) cls2 := ⟨x3.bk, hR, ld2, x3.ib, by omega⟩
    have rlu : ∀ ns, UL rows (rows.length - 1) ns → (rws (dd [] t.all)).length ≤ ns.length := fun ns un => rows_le par et un
    generalize rws (dd [] t.all) = rs at bl ec2 et2 l02 lp2 ld2 rlu
    clear hR
    -- how many rows
    refine Evl.q_cut (M := fun σ' H' => σ' = [some b, some (.ref L), some v, some (.ref R)] ∧ Ke Nof H3 H') ?_ ?_
    · obtain ⟨rvs, hr3, aR⟩ := bl.rw
      refine ⟨_, rfl, R, _, rfl, .inl (.of hr3), _, rfl, _, rfl, b, L, css, cls, rows, rfl, x3, l0, tg3, fun ns ms p H4 un tr ln fr z4 hp => ?_⟩
      obtain ⟨pvs, hp4, aP⟩ := hp
      have lr := aR.1
      have lP := aP.1
      refine ⟨p, _, rfl, .inl (.of hp4), _, _, rfl, rfl, _, rfl, ite2 (fun e => ?_) (fun _ => ⟨rfl, z4⟩)⟩
      have e := of_decide_eq_true e
      have := rlu ns un
      omega
    rintro σ' H4 ⟨rfl, k4⟩
    -- how many pieces
    refine Evl.q_cut (M := fun σ' H' => σ' = [some b, some (.ref L), some v, some (.ref R)] ∧ Ke Nof H3 H') ?_ ?_
    · refine ⟨_, rfl, v, t, rfl, av3.ke k4, by omega, _, rfl, _, rfl, b, L, css, cls, rows, rfl, x3.ke k4 fun z => z, l0, k4.tabs _ tg3, fun t2 H5 z5 et' => ?_⟩
      rw [et] at et'
      cases et'
      exact ⟨rfl, false, by simp, rfl, k4.trans z5⟩
    clear k4 H4
    rintro σ' H4 ⟨rfl, k4⟩
    -- the claims
    refine ⟨_, rfl, _, rfl, b, R, css, cls2, rs, rfl, bl.ke k4 fun z => z, l02, k4.tabs _ tg3, fun C1 H5 nC z5 hC => ?_⟩
    have k5 := k4.trans z5
    obtain ⟨cvs, hC', aC⟩ := hC
    obtain ⟨cv2, hcv2, tcv⟩ := aC.atR ec2
    obtain ⟨a2, rfl, _⟩ := id tcv
    refine ⟨_, rfl, C1, cvs, _, .ref a2, rfl, rfl, .of hC', at_last (by rw [aC.1]; exact hcv2), ?_⟩
    refine ⟨_, rfl, _, rfl, b, L, css, cls, rows, rfl, x3.ke k5 fun z => z, l0, k5.tabs _ tg3, fun C2 H6 nC2 z6 hC2 => ?_⟩
    obtain ⟨dvs, hD', aD⟩ := hC2
    obtain ⟨dv2, hdv2, a3, rfl, ha3⟩ := aD.atR (show cls[cls.length - 1]? = some c by rw [← lc]; exact ec)
    refine ⟨_, rfl, C2, dvs, _, .ref a3, rfl, rfl, .of hD', at_last (by rw [aD.1]; exact hdv2), ?_⟩
    obtain ⟨a4, e4, ha2⟩ := tcv.ke z6
    cases e4
    refine ⟨.tuple (c.map .int), .tuple (c.map .int), .tup (.of ha2) (dp_ints c), .tup (.of ha3) (dp_ints c), shc c, shc c, ?_⟩
    rw [eqv_self (shc c)]
    exact q H6 (k5.trans z6)
end
end Wlr
namespace Tl
open PySem PySem.Spec PyProof.Rows L2 GxR Nw Dr Kp Se Cl Ct Lr Lp Tr
section
variable {P : Program} {w : World} {K : PySem.W.Frag} {mg : Str → Option Value} {base : Heap}
/-- a book and a tree by it, of six within one another at most -/
def spTr : Sp := fun vs H Q _ => ∃ (f c : Addr) (B : Nat), vs = [.ref f] ∧ Feed H f c B ∧ B ≤ 2 ^ 40 ∧
  ∀ (p : Addr) (b x : V) (css : List (List Int)) (t : Tr.T) (ct : List Int) (H' : Hp), Feed H' f c (B + 20000) → Ke (· = f) H H' → H' p = some (.tup [b, x]) → Bk H' b css → (∀ c ∈ css, IsCl c) → At H' t x → Tr.Cl css t ct → t.depth ≤ 6 → css.length ≤ 16 → Q (.ref p) H'
abbrev sSts : Stmt := topS 80
abbrev nSts : List Str := ["feed", "book"]
theorem scSts : FnScope nSts ["feed"] (defScope sSts) := ⟨rfl, rfl, rfl, by decide +kernel, rfl, by decide +kernel, by decide +kernel⟩
theorem ok_sts {f fD fT fB fS : Addr} {fd fdD fdT fdB fdS : FuncData} {k : Nat} (F : Fun K "_law_stree_case" "_law_stree_case" sSts f fd) (FD : Fun K "_law_sdraw" "_law_sdraw" sDrw fD fdD) (bD : Binds K fdD ["feed", "many"] []) (gD : mg "_law_sdraw" = some (.ref fD)) (GD : FnOk P w K mg base CX0 2 fD fdD ["feed", "many"] spDrw)
    (FT : Fun K "_law_sthings" "_law_sthings" sThg fT fdT) (bT : Binds K fdT ["feed", "least", "most"] []) (gT : mg "_law_sthings" = some (.ref fT)) (GT : FnOk P w K mg base CX0 3 fT fdT ["feed", "least", "most"] spThg)
    (FB : Fun K "_law_sbook" "_law_sbook" sBok fB fdB) (bB : Binds K fdB ["feed", "things", "most"] []) (gB : mg "_law_sbook" = some (.ref fB)) (GB : FnOk P w K mg base CX0 4 fB fdB ["feed", "things", "most"] spBok)
    (FS : Fun K "_law_stree" "_law_stree" sStt fS fdS) (bS : Binds K fdS ["feed", "book", "deep"] []) (gS : mg "_law_stree" = some (.ref fS)) (GS : FnOk P w K mg base CX0 13 fS fdS ["feed", "book", "deep"] (spStt 10)) :
    FnOk P w K mg base CX0 (k + 14) f fd ["feed"] (spTr) := by
  refine F.ok scSts (fun vs H Q E h => ?_) (fun cdv A outer s H vs Q E hr h => ?_)
  · obtain ⟨f, c, B, rfl, _⟩ := h
    rfl
  · obtain ⟨f, c, B, rfl, hF, hB, q⟩ := h
    have hr2 : Room 2 _ := hr.mono (by omega)
    have hr3 : Room 3 _ := hr.mono (by omega)
    have hr4 : Room 4 _ := hr.mono (by omega)
    have hr13 : Room 13 _ := hr.mono (by omega)
    refine ⟨_, (Evl.pss_cut (ps_set (i := 1) scSts.nd rfl (.inl rfl) (pe_call GB hr4 (by rfl) gB FB.kp bB .nil pass0 (pa_cons (pv 0) (pa_cons (pe_call GT hr3 (by rfl) gT FT.kp bT .nil pass0 (pa_cons (pv 0) (pa_cons pe_int (pa_cons pe_int pa_nil)))) (pa_cons pe_int pa_nil)))))
      (pss_one (ps_ret (pe_tupN (pa_cons (pv 1) (pa_cons (pe_ix ix_tup (pe_call GS hr13 (by rfl) gS FS.kp bS .nil pass0 (pa_cons (pv 0) (pa_cons (pv 1) (pa_cons (pe_op op_add pe_int (pe_call GD hr2 (by rfl) gD FD.kp bD .nil pass0 (pa_cons (pv 0) (pa_cons pe_int pa_nil)))) pa_nil)))) pe_int (fun _ _ => rfl)) pa_nil)))))), ?_⟩
    refine Evl.q_cut (M := fun σ' H' => ∃ (b : V) (css : List (List Int)), σ' = [some (.ref f), some b] ∧ Feed H' f c (B + 600) ∧ Ke (· = f) H H' ∧ Bk H' b css ∧ (∀ c ∈ css, IsCl c) ∧ 1 ≤ css.length ∧ css.length ≤ 16) ?_ ?_
    · refine ⟨_, rfl, _, rfl, f, c, 2, 5, B, rfl, by decide, by decide, by decide, hF, by omega, fun ks t H1 F1 k1 fr ht Tk l1 l2 => ?_⟩
      have ntf := (not_f fr hF).1
      refine ⟨f, c, t, 7, _, ks, rfl, by decide, by decide, ht, Tk, (fun z => by rw [z] at l1; exact absurd l1 (by decide)), ntf, F1, by omega, fun css p H2 F2 k2 _ hb hc m1 m2 => ?_⟩
      exact ⟨_, css, rfl, F2.mono (by omega), k1.trans k2, hb, fun c hc' => (hc c hc').1, m1, by omega⟩
    rintro σ' H1 ⟨b, css, rfl, F1, k1, hb, ib, m1, m2⟩
    refine ⟨_, rfl, _, rfl, _, rfl, _, rfl, f, c, 4, _, rfl, by decide, by decide, F1, by omega, fun d H2 d0 d1 F2 b2 => ?_⟩
    have k2 : Ke (· = f) H1 H2 := .but F1 b2
    have g4 : 4 ^ ((2 + d).toNat + 1) ≤ 4096 := Nat.le_trans (pow_le (show (2 + d).toNat + 1 ≤ 6 by omega)).1 (by decide)
    have g2 : 2 ^ ((2 + d).toNat + 1) ≤ 64 := Nat.le_trans (pow_le (show (2 + d).toNat + 1 ≤ 6 by omega)).2 (by decide)
    refine ⟨_, _, rfl, rfl, f, c, b, (2 + d).toNat, _, css, ?_, by omega, by omega, hb.ke k2, ib, m1, by omega, F2, by omega, fun v t ct H3 F3 k3 tc cl dp pc => ?_⟩
    · show [V.ref f, b, V.int (2 + d)] = _
      rw [show (((2 + d).toNat : Nat) : Int) = 2 + d by omega]
    obtain ⟨p, x, y, rfl, hp, hx, hy⟩ := tc
    refine ⟨p, _, 0, x, rfl, rfl, .of hp, rfl, ?_⟩
    refine ⟨by show 2 ≤ sizeLine; decide, fun pp H4 np s4 hpp _ => ?_⟩
    have k34 : Ke (· = f) H3 H4 := .same s4
    have k14 : Ke (· = f) H1 H4 := (k2.trans k3).trans k34
    exact q pp b x css t ct H4 ((F3.same s4).mono (by omega)) (k1.trans k14) hpp (hb.ke k14) ib (At.ke k34 hx) cl (by omega) m2

end
end Tl
namespace K25
open PySem PySem.Spec PyProof.Rows L2 GxR Nw Dr Kp Se Cl Ct Lr Lp Ll Od Wg Tr Bkg Bkp Wtr Wlr
structure Zk (mg : Str → Option Value) : Prop where
  z_range : mg "range" = none
abbrev sLaw : Stmt := topS 85
theorem scL : FnScope ["script", "feed", "turn", "book", "tree", "ladder"] ["script"] (defScope sLaw) := ⟨rfl, rfl, rfl, by decide +kernel, rfl, by decide +kernel, by decide +kernel⟩
def spLaw (Ph Pa Po Pw : Addr) (K : PySem.W.Frag) : Sp := fun vs H Q _ => ∃ (a : Addr) (ns : List Int), vs = [.ref a] ∧ SqL K H a (ns.map V.int) ∧ TabG H Ph ∧ TabG H Pa ∧ TabG H Po ∧ TabG H Pw ∧ ∀ H', Q (.bl true) H'
section
variable {P : Program} {w : World} {K : PySem.W.Frag} {mg : Str → Option Value} {base : Heap}
theorem ok_law {f fO fC fS fT fR Po Pw Ph Pa : Addr} {fd fdO fdC fdS fdT fdR : FuncData} (FL : Fun K "law" "law" sLaw f fd) (T : Zk mg)
    (FO : Fun K "_law_sopen" "_law_sopen" sOpn fO fdO) (bO : Binds K fdO ["script"] []) (gO : mg "_law_sopen" = some (.ref fO)) (GO : FnOk P w K mg base CX0 1 fO fdO ["script"] (spOpn K))
    (FC : Fun K "_law_stree_case" "_law_stree_case" Tl.sSts fC fdC) (bC : Binds K fdC ["feed"] []) (gC : mg "_law_stree_case" = some (.ref fC)) (GC : FnOk P w K mg base CX0 14 fC fdC ["feed"] Tl.spTr)
    (FS : Fun K "_law_scase" "_law_scase" sSca fS fdS) (bS : Binds K fdS ["feed"] []) (gS : mg "_law_scase" = some (.ref fS)) (GS : FnOk P w K mg base CX0 5 fS fdS ["feed"] spSca)
    (FT : Fun K "_law_s_tree_right" "_law_s_tree_right" sTrr fT fdT) (bT : Binds K fdT ["book", "tree"] []) (gT : mg "_law_s_tree_right" = some (.ref fT)) (GT : Gx2.FnX P w K mg base CX0 48 fT fdT ["book", "tree"] (spTrr Po Pw Ph Pa))
    (FR : Fun K "_law_s_ladder_right" "_law_s_ladder_right" sLrr fR fdR) (bR : Binds K fdR ["book", "ladder"] []) (gR : mg "_law_s_ladder_right" = some (.ref fR)) (GR : Gx2.FnX P w K mg base CX0 43 fR fdR ["book", "ladder"] (spLrr Po)) :
    Gd.FnG P w K mg base 49 f fd ["script"] (spLaw Ph Pa Po Pw K) := by
  refine Gd.okG FL scL (fun vs H Q E h => ?_) (fun cdv A outer s H vs Q E gd0 hr h => ?_)
  · obtain ⟨a, ns, rfl, _⟩ := h
    rfl
  · obtain ⟨a, ns, rfl, hS, th, ta, to, tw, q⟩ := h
    have tb : Tbs Po Pw Ph Pa H := ⟨to, tw, th, ta⟩
    clear th ta to tw
    have hr1 : Room 1 _ := hr.mono (by decide)
    have hr5 : Room 5 _ := hr.mono (by decide)
    have hr14 : Room 14 _ := hr.mono (by decide)
    have hr43 : Room 43 _ := hr.mono (by decide)
    have hr48 : Room 48 _ := hr
    have gd : (A.deeper (envOfC "law" (defScope sLaw) s.heap.objs.size f cdv)).guards = some [] := gd0
    refine ⟨_, (Evl.pss_cut (ps_set (i := 1) scL.nd rfl (.inl rfl) (pe_call GO hr1 (by rfl) gO FO.kp bO .nil pass0 (pa_cons (pv 0) pa_nil)))
      (Evl.pss_cut (ps_for PassesOwn.never rfl (pi_range1 (by rfl) T.z_range (pa_cons pe_int pa_nil)) (pg_name (i := 2) scL.nd rfl (.inl rfl)) (Evl.pss_cut (ps_asg (pe_call GC hr14 (by rfl) gC FC.kp bC .nil pass0 (pa_cons (pv 1) pa_nil)) (pg_tup rfl (pgs_cons (pg_name (i := 3) scL.nd rfl (.inl rfl)) (pgs_cons (pg_name (i := 4) scL.nd rfl (.inl rfl)) pgs_nil))))
      (Evl.pss_cut (ps_if (pt_not (pt_val (Gx2.pe_callX GT gd hr48 (by rfl) gT FT.kp bT .nil pass0 (pa_cons (pv 3) (pa_cons (pv 4) pa_nil))))) (pss_one (ps_ret pe_bl)) pss_nil)
      (Evl.pss_cut (ps_asg (pe_call GS hr5 (by rfl) gS FS.kp bS .nil pass0 (pa_cons (pv 1) pa_nil)) (pg_tup rfl (pgs_cons (pg_name (i := 3) scL.nd rfl (.inl rfl)) (pgs_cons (pg_name (i := 5) scL.nd rfl (.inl rfl)) pgs_nil))))
      (pss_one (ps_if (pt_not (pt_val (Gx2.pe_callX GR gd hr43 (by rfl) gR FR.kp bR .nil pass0 (pa_cons (pv 3) (pa_cons (pv 5) pa_nil))))) (pss_one (ps_ret pe_bl)) pss_nil))))))
      (pss_one (ps_ret pe_bl)))), ?_⟩
    refine Evl.q_cut (M := fun σ' H' => ∃ fe c : Addr, σ' = [some (.ref a), some (.ref fe), none, none, none, none] ∧ Feed H' fe c 0 ∧ Tbs Po Pw Ph Pa H') ?_ ?_
    · exact ⟨.ref a, rfl, a, ns, rfl, hS, fun fe c H1 nf nc s1 F1 => ⟨fe, c, rfl, F1, tb.ke (Ke.same (F := Nof) s1)⟩⟩
    rintro σ' H1 ⟨fe, c, rfl, F1, t1⟩
    -- two turns
    refine Evl.q_cut (M := fun σ' H' => True) ?_ ?_
    · refine ⟨2, rfl, by decide, by decide, for_range (Pv := fun i σ H' => ∃ y2 y3 y4 y5 : Option V, σ = [some (.ref a), some (.ref fe), y2, y3, y4, y5] ∧ Feed H' fe c (30000 * i) ∧ Tbs Po Pw Ph Pa H') ?_ ?_ ?_⟩
      · exact ⟨none, none, none, none, rfl, F1, t1⟩
      · clear F1 t1 H1
        rintro i σ H1 hi ⟨y2, y3, y4, y5, rfl, F1, t1⟩
        have hi : i < 2 := hi
        -- book, tree
        refine Evl.q_cut (M := fun σ' H' => ∃ (b x : V) (css : List (List Int)) (t : Tr.T) (ct : List Int), σ' = [some (.ref a), some (.ref fe), some (.int (0 + (i : Int))), some b, some x, y5] ∧ Feed H' fe c (30000 * i + 20000) ∧ Tbs Po Pw Ph Pa H' ∧ Bk H' b css ∧ (∀ c ∈ css, IsCl c) ∧ At H' t x ∧ Tr.Cl css t ct ∧ t.depth ≤ 6) ?_ ?_
        · refine ⟨_, rfl, fe, c, _, rfl, F1, by omega, fun p b x css t ct H3 F3 k3 hp hb ib ht cl dp lc => ?_⟩
          exact ⟨p, _, rfl, .of hp, rfl, _, _, rfl, _, _, rfl, rfl, b, x, css, t, ct, rfl, F3, t1.ke k3, hb, ib, ht, cl, dp⟩
        clear F1 t1 H1
        rintro σ' H1 ⟨b, x, css, t, ct, rfl, F1, t1, hb, ib, ht, cl, dp⟩
        -- right
        refine Evl.q_cut (M := fun σ' H' => σ' = [some (.ref a), some (.ref fe), some (.int (0 + (i : Int))), some b, some x, y5] ∧ Ke Nof H1 H') ?_ ?_
        · exact ⟨_, rfl, _, rfl, b, x, css, t, ct, rfl, hb, ib, ht, dp, cl, t1, fun H2 k2 => ⟨_, rfl, rfl, k2⟩⟩
        rintro σ' H2 ⟨rfl, k2⟩
        have F2 := k2.feed F1
        have t2 := t1.ke k2
        clear k2 F1 t1 hb ht H1
        -- book, ladder
        refine Evl.q_cut (M := fun σ' H' => ∃ (b' : V) (L : Addr) (css cls : List (List Int)) (rows : List Rw), σ' = [some (.ref a), some (.ref fe), some (.int (0 + (i : Int))), some b', some x, some (.ref L)] ∧ Feed H' fe c (30000 * i + 23000) ∧ Tbs Po Pw Ph Pa H' ∧ BL H' b' L css rows cls ∧ 1 ≤ rows.length) ?_ ?_
        · refine ⟨_, rfl, fe, c, _, rfl, F2, by omega, fun t L b css cls rows H3 F3 k3 ht nLf nLc fr bl l1 l2 l3 l4 => ?_⟩
          exact ⟨t, _, rfl, .of ht, rfl, _, _, rfl, _, _, rfl, rfl, b, L, css, cls, rows, rfl, F3, t2.ke k3, bl, l3⟩
        clear F2 t2 H2
        rintro σ' H2 ⟨b', L, css', cls', rows', rfl, F2, t2, bl, l1⟩
        exact ⟨_, rfl, _, rfl, b', L, css', cls', rows', rfl, bl, by omega, t2.o, fun H3 k3 => ⟨_, rfl, _, _, _, _, rfl, (k3.feed F2).mono (by omega), t2.ke k3⟩⟩
      · rintro σ H3 _
        trivial
    rintro σ' H2 _
    exact q H2
end
end K25
namespace Eg
open PySem PySem.Spec PyProof.Rows L2 GxR Nw Dr Kp
/-! ### the end of a law that shows lists: defs whose code objects have tables -/
/-- what stands where a def's code object has its table -/
abbrev Own (K : PySem.W.Frag) (h : Heap) (mg : Str → Option Value) (ys : List Str) : Prop := ∀ y ∈ ys, ∀ f, mg y = some (.ref f) → LamX.OwnTab K f h
/-- what is to be known of a law at the heap h -/
def LawG (l : PySem.W.OpenLaw) (w : World) (K : PySem.W.Frag) (k m : Nat) (x : Str) (mg : Str → Option Value) (g : Addr) (h : Heap) : Prop :=
  ∃ (fd : FuncData) (cs : List (Addr × Addr)) (sp : Sp), (∀ p ∈ cs, h.get? p.2 = some (PySem.W.tabObj #[])) ∧ (∀ p ∈ cs, K.lookup p.2 = none) ∧ (∀ p ∈ cs, PySem.W.CodeHd h p.1 p.2) ∧ (∀ (s : Shared) (u : Value), BindsTo s fd ⟨[u], []⟩ [(x, u)]) ∧
    (∀ (H : Hp) (a : Addr) (ns : List Int), ns.length ≤ m → (∀ p ∈ cs, H p.2 = some (.tbl #[])) → SqL K H a (ns.map V.int) → sp [.ref a] H (fun v _ => v = .bl true) fun _ _ _ => False) ∧
    ∀ base : Heap, K.In base → base.Ns mainGlobals mg → (∀ p ∈ cs, LamX.TabB base mg p.1 p.2) → Gd.FnG l.prog w K mg base k g fd [x] sp
theorem walk_own {l : PySem.W.OpenLaw} {m k : Nat} {pr : Program} {ls : List Str} {XP : (Str → Option Value) → Heap → Prop} {YP : World → Heap → Prop} {d : DefRec} {K : Params → PySem.W.Frag} {x : Str} (ys : List Str)
    (e1 : l.most = some m) (e2 : m ≤ sizeLine) (e3 : d.params.defaults = []) (room : Room k callerA) (named : ∀ y ∈ ys, ((recsOf pr).any fun e => e.name == y) = true) (inK : ∀ (w : World) (h : Heap), YP w h → (K w.params).In h)
    (go : ∀ (w : World) (mg : Str → Option Value) (g : Addr) (h : Heap), YP w h → (K w.params).In h → h.Ns mainGlobals mg → mg d.name = some (.ref g) → Own (K w.params) h mg ys → LawG l w (K w.params) k m x mg g h) :
    PySem.W.WalkO pr ls XP YP l.row.toRowW d [] (fun f vs => PySem.call f vs) := by
  refine Att.attach_callB e1 e3 fun w s0 s1 mg mb fa o pm cd doc a us ns G Y ho hd hcd hmg hobj hints hlen hbits hg => ?_
  have inH := inK w _ Y
  have tabs : Own (K w.params) s1.heap mg ys := fun y hy f hf c P ob fd e dd vs sl q1 q2 q3 q4 q5 => by
    obtain ⟨r, hr1, hr2⟩ := List.any_eq_true.mp (named y hy)
    obtain ⟨f', ob', fd', c', P', t1, t2, t3, t4, t5, ⟨⟨oc, vc, u1, _, u3, u4⟩, u5⟩⟩ := G.T.tab r hr1
    rw [show r.name = y from beq_iff_eq.mp hr2, hf] at t1
    cases t1
    rw [inH _ _ q1] at t2
    cases t2
    rw [q2] at t3
    cases t3
    rw [q3] at t4
    cases t4
    rw [inH _ _ q4] at u1
    cases u1
    cases u3
    rw [q5] at u4
    cases u4
    exact u5
  obtain ⟨fd, cs, sp, h1, h2, h3, h4, h5, h6⟩ := go w mg fa _ Y inH G.T.g hmg tabs
  exact Gd.law_at inH G.T.g G.T.b G.T.builtins G.T.nolimit hg h1 h2 h3 G.T.bmain hobj hints (Nat.le_trans hlen e2) room h6 h4 fun H z1 z2 => h5 H a ns hlen z1 z2
end Eg
namespace Cf
open PySem PySem.Spec PyProof.Rows L2
/-! ### classes of the program: isinstance, except -/
theorem cls_s {K : PySem.W.Frag} {C : Addr} (h : PySem.W.isClsIn K C = true) : (PySem.W.clsIn K C).isSome = true := h
theorem kit_cls {K : PySem.W.Frag} {t : Value} {D : Addr} {b : Bool} (h1 : (PySem.W.clsIn K D).isSome = true) (h2 : PySem.W.typeIn K (.ref D) = some (.type "type")) (h : PySem.W.subIn K t (.ref D) = some b) : PySem.W.kitCls K t (.ref D) = some b := by
  have e : ((PySem.W.clsIn K D).isSome && PySem.W.typeIn K (.ref D) == some (.type "type")) = true := by
    rw [h1, h2]
    rfl
  show (if ((PySem.W.clsIn K D).isSome && PySem.W.typeIn K (.ref D) == some (.type "type")) = true then PySem.W.subIn K t (.ref D) else none) = some b
  rw [if_pos e, h]
theorem kit_t {K : PySem.W.Frag} {t : Value} {D : Addr} (h1 : (PySem.W.clsIn K D).isSome = true) (h2 : PySem.W.typeIn K (.ref D) = some (.type "type")) (h : PySem.W.subIn K t (.ref D) = some true) : PySem.W.kitOne K t (.ref D) = some true := by
  unfold PySem.W.kitOne
  split
  · rfl
  · exact kit_cls h1 h2 h
theorem kit_f {K : PySem.W.Frag} {C D : Addr} (h1 : (PySem.W.clsIn K D).isSome = true) (h2 : PySem.W.typeIn K (.ref D) = some (.type "type")) (h : PySem.W.subIn K (.ref C) (.ref D) = some false) (hs : PySem.W.subIn K (.ref C) (.ref C) = some true) : PySem.W.kitOne K (.ref C) (.ref D) = some false := by
  unfold PySem.W.kitOne
  split
  · rename_i e
    have z : C = D := Value.ref.inj (beq_iff_eq.mp e)
    subst z
    rw [h] at hs
    cases hs
  · exact kit_cls h1 h2 h
theorem kit_v {K : PySem.W.Frag} {C : Addr} (h : PySem.W.subIn K (.ref C) (.type "ValueError") = some true) : PySem.W.kitOne K (.ref C) (.type "ValueError") = some true := by
  unfold PySem.W.kitOne
  split
  · rfl
  · show (if PySem.W.kitMeta "ValueError" = true then PySem.W.subIn K (.ref C) (.type "ValueError") else none) = some true
    rw [if_pos (by decide +kernel), h]
theorem exm_t {K : PySem.W.Frag} {t : Value} {D : Addr} (hb : PySem.W.subIn K (.ref D) (.type "BaseException") = some true) (h1 : (PySem.W.clsIn K D).isSome = true) (h2 : PySem.W.typeIn K (.ref D) = some (.type "type")) (h : PySem.W.subIn K t (.ref D) = some true) : PySem.W.exmOne K t (.ref D) = some true := by
  unfold PySem.W.exmOne
  rw [hb, if_pos (by decide)]
  exact kit_cls h1 h2 h
end Cf
namespace K25
open PySem PySem.Spec PyProof.Rows L2 GxR Nw Dr Kp Se Cl Ct Lr Lp Ll Od Wg Wl Wo Wk Ev1 Rk Rf Rf3 Xb Un Ub Um Wd So Tr Tp Rg Bkg Bkp Ro Wtr Wlr Eg
theorem all_mk {l : PySem.W.OpenLaw} {w : World} {K : PySem.W.Frag} {h : Heap} {mg : Str → Option Value} {top : Addr} (X : K.In h) (G : h.Ns mainGlobals mg) (htop : mg "law" = some (.ref top)) (ow : Own K h mg ["has_opposites", "is_wide", "holds", "all_hold"]) {fM fD fO fW fT fC fB fx fr fS fy fl fL fq fw fm fn fb fR fA fI fK fV fQ fZ gO gW uS uH uA uN uE uF oM oN oI xr xP xt xT xh xH yp yr ys yc vF vA vZ vQ vI vK vU vP wI wG wJ wU wR jh jt jl cO PO cW PW cH PH cA PA S c0 c1 c2 c3 c4 c5 c6 c7 c8 : Addr}
    {od_fM an_fM : Option Addr} {sl_fM : Array (Option Value)} {oc_fM kV_fM dc_fM pm_fM ct_fM : Value} {cd_fM : Value} {od_fD an_fD : Option Addr} {sl_fD : Array (Option Value)} {oc_fD kV_fD dc_fD pm_fD ct_fD : Value} {cd_fD : Value} {od_fO an_fO : Option Addr} {sl_fO : Array (Option Value)} {oc_fO kV_fO dc_fO pm_fO ct_fO : Value} {cd_fO : Value} {od_fW an_fW : Option Addr} {sl_fW : Array (Option Value)} {oc_fW kV_fW dc_fW pm_fW ct_fW : Value} {cd_fW : Value} {od_fT an_fT : Option Addr} {sl_fT : Array (Option Value)} {oc_fT kV_fT dc_fT pm_fT ct_fT : Value} {cd_fT : Value} {od_fC an_fC : Option Addr} {sl_fC : Array (Option Value)} {oc_fC kV_fC dc_fC pm_fC ct_fC : Value} {cd_fC : Value} {od_fB an_fB : Option Addr} {sl_fB : Array (Option Value)} {oc_fB kV_fB dc_fB pm_fB ct_fB : Value} {cd_fB : Value} {od_fx an_fx : Option Addr} {sl_fx : Array (Option Value)} {oc_fx kV_fx dc_fx pm_fx ct_fx : Value} {cd_fx : Value} {od_fr an_fr : Option Addr} {sl_fr : Array (Option Value)} {oc_fr kV_fr dc_fr pm_fr ct_fr : Value} {cd_fr : Value} {od_fS an_fS : Option Addr} {sl_fS : Array (Option Value)} {oc_fS kV_fS dc_fS pm_fS ct_fS : Value} {cd_fS : Value} {od_fy an_fy : Option Addr} {sl_fy : Array (Option Value)} {oc_fy kV_fy dc_fy pm_fy ct_fy : Value} {cd_fy : Value} {od_fl an_fl : Option Addr} {sl_fl : Array (Option Value)} {oc_fl kV_fl dc_fl pm_fl ct_fl : Value} {cd_fl : Value} {od_fL an_fL : Option Addr} {sl_fL : Array (Option Value)} {oc_fL kV_fL dc_fL pm_fL ct_fL : Value} {cd_fL : Value} {od_fq an_fq : Option Addr} {sl_fq : Array (Option Value)} {oc_fq kV_fq dc_fq pm_fq ct_fq : Value} {cd_fq : Value} {od_fw an_fw : Option Addr} {sl_fw : Array (Option Value)} {oc_fw kV_fw dc_fw pm_fw ct_fw : Value} {cd_fw : Value} {od_fm an_fm : Option Addr} {sl_fm : Array (Option Value)} {oc_fm kV_fm dc_fm pm_fm ct_fm : Value} {cd_fm : Value} {od_fn an_fn : Option Addr} {sl_fn : Array (Option Value)} {oc_fn kV_fn dc_fn pm_fn ct_fn : Value} {cd_fn : Value} {od_fb an_fb : Option Addr} {sl_fb : Array (Option Value)} {oc_fb kV_fb dc_fb pm_fb ct_fb : Value} {cd_fb : Value} {od_fR an_fR : Option Addr} {sl_fR : Array (Option Value)} {oc_fR kV_fR dc_fR pm_fR ct_fR : Value} {cd_fR : Value} {od_fA an_fA : Option Addr} {sl_fA : Array (Option Value)} {oc_fA kV_fA dc_fA pm_fA ct_fA : Value} {cd_fA : Value} {od_fI an_fI : Option Addr} {sl_fI : Array (Option Value)} {oc_fI kV_fI dc_fI pm_fI ct_fI : Value} {cd_fI : Value} {od_fK an_fK : Option Addr} {sl_fK : Array (Option Value)} {oc_fK kV_fK dc_fK pm_fK ct_fK : Value} {cd_fK : Value} {od_fV an_fV : Option Addr} {sl_fV : Array (Option Value)} {oc_fV kV_fV dc_fV pm_fV ct_fV : Value} {cd_fV : Value} {od_fQ an_fQ : Option Addr} {sl_fQ : Array (Option Value)} {oc_fQ kV_fQ dc_fQ pm_fQ ct_fQ : Value} {cd_fQ : Value} {od_fZ an_fZ : Option Addr} {sl_fZ : Array (Option Value)} {oc_fZ kV_fZ dc_fZ pm_fZ ct_fZ : Value} {cd_fZ : Value} {od_gO an_gO : Option Addr} {sl_gO : Array (Option Value)} {oc_gO kV_gO dc_gO pm_gO ct_gO : Value} {od_gW an_gW : Option Addr} {sl_gW : Array (Option Value)} {oc_gW kV_gW dc_gW pm_gW ct_gW : Value} {od_uS an_uS : Option Addr} {sl_uS : Array (Option Value)} {oc_uS kV_uS dc_uS pm_uS ct_uS : Value} {cd_uS : Value} {od_uH an_uH : Option Addr} {sl_uH : Array (Option Value)} {oc_uH kV_uH dc_uH pm_uH ct_uH : Value} {od_uA an_uA : Option Addr} {sl_uA : Array (Option Value)} {oc_uA kV_uA dc_uA pm_uA ct_uA : Value} {od_uN an_uN : Option Addr} {sl_uN : Array (Option Value)} {oc_uN kV_uN dc_uN pm_uN ct_uN : Value} {cd_uN : Value} {od_uE an_uE : Option Addr} {sl_uE : Array (Option Value)} {oc_uE kV_uE dc_uE pm_uE ct_uE : Value} {cd_uE : Value} {od_uF an_uF : Option Addr} {sl_uF : Array (Option Value)} {oc_uF kV_uF dc_uF pm_uF ct_uF : Value} {cd_uF : Value} {od_oM an_oM : Option Addr} {sl_oM : Array (Option Value)} {oc_oM kV_oM dc_oM pm_oM ct_oM : Value} {cd_oM : Value} {od_oN an_oN : Option Addr} {sl_oN : Array (Option Value)} {oc_oN kV_oN dc_oN pm_oN ct_oN : Value} {cd_oN : Value} {od_oI an_oI : Option Addr} {sl_oI : Array (Option Value)} {oc_oI kV_oI dc_oI pm_oI ct_oI : Value} {cd_oI : Value} {od_xr an_xr : Option Addr} {sl_xr : Array (Option Value)} {oc_xr kV_xr dc_xr pm_xr ct_xr : Value} {cd_xr : Value} {od_xP an_xP : Option Addr} {sl_xP : Array (Option Value)} {oc_xP kV_xP dc_xP pm_xP ct_xP : Value} {cd_xP : Value} {od_xt an_xt : Option Addr} {sl_xt : Array (Option Value)} {oc_xt kV_xt dc_xt pm_xt ct_xt : Value} {cd_xt : Value} {od_xT an_xT : Option Addr} {sl_xT : Array (Option Value)} {oc_xT kV_xT dc_xT pm_xT ct_xT : Value} {cd_xT : Value} {od_xh an_xh : Option Addr} {sl_xh : Array (Option Value)} {oc_xh kV_xh dc_xh pm_xh ct_xh : Value} {cd_xh : Value} {od_xH an_xH : Option Addr} {sl_xH : Array (Option Value)} {oc_xH kV_xH dc_xH pm_xH ct_xH : Value} {cd_xH : Value} {od_yp an_yp : Option Addr} {sl_yp : Array (Option Value)} {oc_yp kV_yp dc_yp pm_yp ct_yp : Value} {cd_yp : Value} {od_yr an_yr : Option Addr} {sl_yr : Array (Option Value)} {oc_yr kV_yr dc_yr pm_yr ct_yr : Value} {cd_yr : Value} {od_ys an_ys : Option Addr} {sl_ys : Array (Option Value)} {oc_ys kV_ys dc_ys pm_ys ct_ys : Value} {cd_ys : Value} {od_yc an_yc : Option Addr} {sl_yc : Array (Option Value)} {oc_yc kV_yc dc_yc pm_yc ct_yc : Value} {cd_yc : Value} {od_vF an_vF : Option Addr} {sl_vF : Array (Option Value)} {oc_vF kV_vF dc_vF pm_vF ct_vF : Value} {cd_vF : Value} {od_vA an_vA : Option Addr} {sl_vA : Array (Option Value)} {oc_vA kV_vA dc_vA pm_vA ct_vA : Value} {cd_vA : Value} {od_vZ an_vZ : Option Addr} {sl_vZ : Array (Option Value)} {oc_vZ kV_vZ dc_vZ pm_vZ ct_vZ : Value} {cd_vZ : Value} {od_vQ an_vQ : Option Addr} {sl_vQ : Array (Option Value)} {oc_vQ kV_vQ dc_vQ pm_vQ ct_vQ : Value} {cd_vQ : Value} {od_vI an_vI : Option Addr} {sl_vI : Array (Option Value)} {oc_vI kV_vI dc_vI pm_vI ct_vI : Value} {cd_vI : Value} {od_vK an_vK : Option Addr} {sl_vK : Array (Option Value)} {oc_vK kV_vK dc_vK pm_vK ct_vK : Value} {cd_vK : Value} {od_vU an_vU : Option Addr} {sl_vU : Array (Option Value)} {oc_vU kV_vU dc_vU pm_vU ct_vU : Value} {cd_vU : Value} {od_vP an_vP : Option Addr} {sl_vP : Array (Option Value)} {oc_vP kV_vP dc_vP pm_vP ct_vP : Value} {cd_vP : Value} {od_wI an_wI : Option Addr} {sl_wI : Array (Option Value)} {oc_wI kV_wI dc_wI pm_wI ct_wI : Value} {cd_wI : Value} {od_wG an_wG : Option Addr} {sl_wG : Array (Option Value)} {oc_wG kV_wG dc_wG pm_wG ct_wG : Value} {cd_wG : Value} {od_wJ an_wJ : Option Addr} {sl_wJ : Array (Option Value)} {oc_wJ kV_wJ dc_wJ pm_wJ ct_wJ : Value} {cd_wJ : Value} {od_wU an_wU : Option Addr} {sl_wU : Array (Option Value)} {oc_wU kV_wU dc_wU pm_wU ct_wU : Value} {cd_wU : Value} {od_wR an_wR : Option Addr} {sl_wR : Array (Option Value)} {oc_wR kV_wR dc_wR pm_wR ct_wR : Value} {cd_wR : Value} {od_jh an_jh : Option Addr} {sl_jh : Array (Option Value)} {oc_jh kV_jh dc_jh pm_jh ct_jh : Value} {cd_jh : Value} {od_jt an_jt : Option Addr} {sl_jt : Array (Option Value)} {oc_jt kV_jt dc_jt pm_jt ct_jt : Value} {cd_jt : Value} {od_jl an_jl : Option Addr} {sl_jl : Array (Option Value)} {oc_jl kV_jl dc_jl pm_jl ct_jl : Value} {cd_jl : Value} {e_O : Value} {dd_O : Option Addr} {vs_O : Array Value} {sf_O : Array (Option Value)} {e_W : Value} {dd_W : Option Addr} {vs_W : Array Value} {sf_W : Array (Option Value)} {e_H : Value} {dd_H : Option Addr} {vs_H : Array Value} {sf_H : Array (Option Value)} {e_A : Value} {dd_A : Option Addr} {vs_A : Array Value} {sf_A : Array (Option Value)} {tk_MOST_THINGS : Tok} {tk_MOST_ROWS : Tok} {tk_MOST_PIECES : Tok} {tk_MOST_WITHIN : Tok}
    (b_fM : PySem.W.nsIn K mainGlobals "_law_smixed" = some (some (.ref fM)))
    (l_fM : K.lookup fM = some ⟨oc_fM, od_fM, .func (PySem.W.fnOf "_law_smixed" "_law_smixed" (defArgs sMix) (defBody sMix) (defScope sMix) .none kV_fM dc_fM pm_fM an_fM cd_fM ct_fM), sl_fM⟩)
    (c_fM : PySem.W.codeIn K cd_fM "_law_smixed" = true)
    (k_fM : PySem.W.keepIn K (.ref fM) = true)
    (b_fD : PySem.W.nsIn K mainGlobals "_law_sdraw" = some (some (.ref fD)))
    (l_fD : K.lookup fD = some ⟨oc_fD, od_fD, .func (PySem.W.fnOf "_law_sdraw" "_law_sdraw" (defArgs sDrw) (defBody sDrw) (defScope sDrw) .none kV_fD dc_fD pm_fD an_fD cd_fD ct_fD), sl_fD⟩)
    (c_fD : PySem.W.codeIn K cd_fD "_law_sdraw" = true)
    (k_fD : PySem.W.keepIn K (.ref fD) = true)
    (b_fO : PySem.W.nsIn K mainGlobals "_law_sopen" = some (some (.ref fO)))
    (l_fO : K.lookup fO = some ⟨oc_fO, od_fO, .func (PySem.W.fnOf "_law_sopen" "_law_sopen" (defArgs sOpn) (defBody sOpn) (defScope sOpn) .none kV_fO dc_fO pm_fO an_fO cd_fO ct_fO), sl_fO⟩)
    (c_fO : PySem.W.codeIn K cd_fO "_law_sopen" = true)
    (k_fO : PySem.W.keepIn K (.ref fO) = true)
    (b_fW : PySem.W.nsIn K mainGlobals "_law_swhole" = some (some (.ref fW)))
    (l_fW : K.lookup fW = some ⟨oc_fW, od_fW, .func (PySem.W.fnOf "_law_swhole" "_law_swhole" (defArgs sSwh) (defBody sSwh) (defScope sSwh) .none kV_fW dc_fW pm_fW an_fW cd_fW ct_fW), sl_fW⟩)
    (c_fW : PySem.W.codeIn K cd_fW "_law_swhole" = true)
    (k_fW : PySem.W.keepIn K (.ref fW) = true)
    (b_fT : PySem.W.nsIn K mainGlobals "_law_sthings" = some (some (.ref fT)))
    (l_fT : K.lookup fT = some ⟨oc_fT, od_fT, .func (PySem.W.fnOf "_law_sthings" "_law_sthings" (defArgs sThg) (defBody sThg) (defScope sThg) .none kV_fT dc_fT pm_fT an_fT cd_fT ct_fT), sl_fT⟩)
    (c_fT : PySem.W.codeIn K cd_fT "_law_sthings" = true)
    (k_fT : PySem.W.keepIn K (.ref fT) = true)
    (b_fC : PySem.W.nsIn K mainGlobals "_law_sclaim" = some (some (.ref fC)))
    (l_fC : K.lookup fC = some ⟨oc_fC, od_fC, .func (PySem.W.fnOf "_law_sclaim" "_law_sclaim" (defArgs sClm) (defBody sClm) (defScope sClm) .none kV_fC dc_fC pm_fC an_fC cd_fC ct_fC), sl_fC⟩)
    (c_fC : PySem.W.codeIn K cd_fC "_law_sclaim" = true)
    (k_fC : PySem.W.keepIn K (.ref fC) = true)
    (b_fB : PySem.W.nsIn K mainGlobals "_law_sbook" = some (some (.ref fB)))
    (l_fB : K.lookup fB = some ⟨oc_fB, od_fB, .func (PySem.W.fnOf "_law_sbook" "_law_sbook" (defArgs sBok) (defBody sBok) (defScope sBok) .none kV_fB dc_fB pm_fB an_fB cd_fB ct_fB), sl_fB⟩)
    (c_fB : PySem.W.codeIn K cd_fB "_law_sbook" = true)
    (k_fB : PySem.W.keepIn K (.ref fB) = true)
    (b_fx : PySem.W.nsIn K mainGlobals "_law_scut" = some (some (.ref fx)))
    (l_fx : K.lookup fx = some ⟨oc_fx, od_fx, .func (PySem.W.fnOf "_law_scut" "_law_scut" (defArgs sSct) (defBody sSct) (defScope sSct) .none kV_fx dc_fx pm_fx an_fx cd_fx ct_fx), sl_fx⟩)
    (c_fx : PySem.W.codeIn K cd_fx "_law_scut" = true)
    (k_fx : PySem.W.keepIn K (.ref fx) = true)
    (b_fr : PySem.W.nsIn K mainGlobals "_law_srow" = some (some (.ref fr)))
    (l_fr : K.lookup fr = some ⟨oc_fr, od_fr, .func (PySem.W.fnOf "_law_srow" "_law_srow" (defArgs sSrw) (defBody sSrw) (defScope sSrw) .none kV_fr dc_fr pm_fr an_fr cd_fr ct_fr), sl_fr⟩)
    (c_fr : PySem.W.codeIn K cd_fr "_law_srow" = true)
    (k_fr : PySem.W.keepIn K (.ref fr) = true)
    (b_fS : PySem.W.nsIn K mainGlobals "_law_scase" = some (some (.ref fS)))
    (l_fS : K.lookup fS = some ⟨oc_fS, od_fS, .func (PySem.W.fnOf "_law_scase" "_law_scase" (defArgs sSca) (defBody sSca) (defScope sSca) .none kV_fS dc_fS pm_fS an_fS cd_fS ct_fS), sl_fS⟩)
    (c_fS : PySem.W.codeIn K cd_fS "_law_scase" = true)
    (k_fS : PySem.W.keepIn K (.ref fS) = true)
    (b_fy : PySem.W.nsIn K mainGlobals "_law_sways" = some (some (.ref fy)))
    (l_fy : K.lookup fy = some ⟨oc_fy, od_fy, .func (PySem.W.fnOf "_law_sways" "_law_sways" (defArgs sSwy) (defBody sSwy) (defScope sSwy) .none kV_fy dc_fy pm_fy an_fy cd_fy ct_fy), sl_fy⟩)
    (c_fy : PySem.W.codeIn K cd_fy "_law_sways" = true)
    (k_fy : PySem.W.keepIn K (.ref fy) = true)
    (b_fl : PySem.W.nsIn K mainGlobals "_law_sladder" = some (some (.ref fl)))
    (l_fl : K.lookup fl = some ⟨oc_fl, od_fl, .func (PySem.W.fnOf "_law_sladder" "_law_sladder" (defArgs sSld) (defBody sSld) (defScope sSld) .none kV_fl dc_fl pm_fl an_fl cd_fl ct_fl), sl_fl⟩)
    (c_fl : PySem.W.codeIn K cd_fl "_law_sladder" = true)
    (k_fl : PySem.W.keepIn K (.ref fl) = true)
    (b_fL : PySem.W.nsIn K mainGlobals "law" = some (some (.ref fL)))
    (l_fL : K.lookup fL = some ⟨oc_fL, od_fL, .func (PySem.W.fnOf "law" "law" (defArgs sLaw) (defBody sLaw) (defScope sLaw) .none kV_fL dc_fL pm_fL an_fL cd_fL ct_fL), sl_fL⟩)
    (c_fL : PySem.W.codeIn K cd_fL "law" = true)
    (k_fL : PySem.W.keepIn K (.ref fL) = true)
    (b_fq : PySem.W.nsIn K mainGlobals "_law_srefused" = some (some (.ref fq)))
    (l_fq : K.lookup fq = some ⟨oc_fq, od_fq, .func (PySem.W.fnOf "_law_srefused" "_law_srefused" (defArgs sRef) (defBody sRef) (defScope sRef) .none kV_fq dc_fq pm_fq an_fq cd_fq ct_fq), sl_fq⟩)
    (c_fq : PySem.W.codeIn K cd_fq "_law_srefused" = true)
    (k_fq : PySem.W.keepIn K (.ref fq) = true)
    (b_fw : PySem.W.nsIn K mainGlobals "is_whole" = some (some (.ref fw)))
    (l_fw : K.lookup fw = some ⟨oc_fw, od_fw, .func (PySem.W.fnOf "is_whole" "is_whole" (defArgs sWho) (defBody sWho) (defScope sWho) .none kV_fw dc_fw pm_fw an_fw cd_fw ct_fw), sl_fw⟩)
    (c_fw : PySem.W.codeIn K cd_fw "is_whole" = true)
    (k_fw : PySem.W.keepIn K (.ref fw) = true)
    (b_fm : PySem.W.nsIn K mainGlobals "can_meet" = some (some (.ref fm)))
    (l_fm : K.lookup fm = some ⟨oc_fm, od_fm, .func (PySem.W.fnOf "can_meet" "can_meet" (defArgs sCme) (defBody sCme) (defScope sCme) .none kV_fm dc_fm pm_fm an_fm cd_fm ct_fm), sl_fm⟩)
    (c_fm : PySem.W.codeIn K cd_fm "can_meet" = true)
    (k_fm : PySem.W.keepIn K (.ref fm) = true)
    (b_fn : PySem.W.nsIn K mainGlobals "cut_or_none" = some (some (.ref fn)))
    (l_fn : K.lookup fn = some ⟨oc_fn, od_fn, .func (PySem.W.fnOf "cut_or_none" "cut_or_none" (defArgs sCon) (defBody sCon) (defScope sCon) .none kV_fn dc_fn pm_fn an_fn cd_fn ct_fn), sl_fn⟩)
    (c_fn : PySem.W.codeIn K cd_fn "cut_or_none" = true)
    (k_fn : PySem.W.keepIn K (.ref fn) = true)
    (b_fb : PySem.W.nsIn K mainGlobals "is_number_of" = some (some (.ref fb)))
    (l_fb : K.lookup fb = some ⟨oc_fb, od_fb, .func (PySem.W.fnOf "is_number_of" "is_number_of" (defArgs sNum) (defBody sNum) (defScope sNum) .none kV_fb dc_fb pm_fb an_fb cd_fb ct_fb), sl_fb⟩)
    (c_fb : PySem.W.codeIn K cd_fb "is_number_of" = true)
    (k_fb : PySem.W.keepIn K (.ref fb) = true)
    (b_fR : PySem.W.nsIn K mainGlobals "claim_of_row" = some (some (.ref fR)))
    (l_fR : K.lookup fR = some ⟨oc_fR, od_fR, .func (PySem.W.fnOf "claim_of_row" "claim_of_row" (defArgs sRow) (defBody sRow) (defScope sRow) .none kV_fR dc_fR pm_fR an_fR cd_fR ct_fR), sl_fR⟩)
    (c_fR : PySem.W.codeIn K cd_fR "claim_of_row" = true)
    (k_fR : PySem.W.keepIn K (.ref fR) = true)
    (b_fA : PySem.W.nsIn K mainGlobals "claims_ahead_of_fault" = some (some (.ref fA)))
    (l_fA : K.lookup fA = some ⟨oc_fA, od_fA, .func (PySem.W.fnOf "claims_ahead_of_fault" "claims_ahead_of_fault" (defArgs sAhe) (defBody sAhe) (defScope sAhe) .none kV_fA dc_fA pm_fA an_fA cd_fA ct_fA), sl_fA⟩)
    (c_fA : PySem.W.codeIn K cd_fA "claims_ahead_of_fault" = true)
    (k_fA : PySem.W.keepIn K (.ref fA) = true)
    (b_fI : PySem.W.nsIn K mainGlobals "claims_of" = some (some (.ref fI)))
    (l_fI : K.lookup fI = some ⟨oc_fI, od_fI, .func (PySem.W.fnOf "claims_of" "claims_of" (defArgs sClo) (defBody sClo) (defScope sClo) .none kV_fI dc_fI pm_fI an_fI cd_fI ct_fI), sl_fI⟩)
    (c_fI : PySem.W.codeIn K cd_fI "claims_of" = true)
    (k_fI : PySem.W.keepIn K (.ref fI) = true)
    (b_fK : PySem.W.nsIn K mainGlobals "check_ladder" = some (some (.ref fK)))
    (l_fK : K.lookup fK = some ⟨oc_fK, od_fK, .func (PySem.W.fnOf "check_ladder" "check_ladder" (defArgs sChk) (defBody sChk) (defScope sChk) .none kV_fK dc_fK pm_fK an_fK cd_fK ct_fK), sl_fK⟩)
    (c_fK : PySem.W.codeIn K cd_fK "check_ladder" = true)
    (k_fK : PySem.W.keepIn K (.ref fK) = true)
    (b_fV : PySem.W.nsIn K mainGlobals "rows_under" = some (some (.ref fV)))
    (l_fV : K.lookup fV = some ⟨oc_fV, od_fV, .func (PySem.W.fnOf "rows_under" "rows_under" (defArgs sRun) (defBody sRun) (defScope sRun) .none kV_fV dc_fV pm_fV an_fV cd_fV ct_fV), sl_fV⟩)
    (c_fV : PySem.W.codeIn K cd_fV "rows_under" = true)
    (k_fV : PySem.W.keepIn K (.ref fV) = true)
    (b_fQ : PySem.W.nsIn K mainGlobals "moved_row" = some (some (.ref fQ)))
    (l_fQ : K.lookup fQ = some ⟨oc_fQ, od_fQ, .func (PySem.W.fnOf "moved_row" "moved_row" (defArgs sMov) (defBody sMov) (defScope sMov) .none kV_fQ dc_fQ pm_fQ an_fQ cd_fQ ct_fQ), sl_fQ⟩)
    (c_fQ : PySem.W.codeIn K cd_fQ "moved_row" = true)
    (k_fQ : PySem.W.keepIn K (.ref fQ) = true)
    (b_fZ : PySem.W.nsIn K mainGlobals "trimmed_to" = some (some (.ref fZ)))
    (l_fZ : K.lookup fZ = some ⟨oc_fZ, od_fZ, .func (PySem.W.fnOf "trimmed_to" "trimmed_to" (defArgs sTrt) (defBody sTrt) (defScope sTrt) .none kV_fZ dc_fZ pm_fZ an_fZ cd_fZ ct_fZ), sl_fZ⟩)
    (c_fZ : PySem.W.codeIn K cd_fZ "trimmed_to" = true)
    (k_fZ : PySem.W.keepIn K (.ref fZ) = true)
    (b_gO : PySem.W.nsIn K mainGlobals "has_opposites" = some (some (.ref gO)))
    (l_gO : K.lookup gO = some ⟨oc_gO, od_gO, .func (PySem.W.fnOf "has_opposites" "has_opposites" (defArgs sHop) (defBody sHop) (defScope sHop) .none kV_gO dc_gO pm_gO an_gO (.ref cO) ct_gO), sl_gO⟩)
    (c_gO : PySem.W.codeIn K (.ref cO) "has_opposites" = true)
    (k_gO : PySem.W.keepIn K (.ref gO) = true)
    (b_gW : PySem.W.nsIn K mainGlobals "is_wide" = some (some (.ref gW)))
    (l_gW : K.lookup gW = some ⟨oc_gW, od_gW, .func (PySem.W.fnOf "is_wide" "is_wide" (defArgs sWid) (defBody sWid) (defScope sWid) .none kV_gW dc_gW pm_gW an_gW (.ref cW) ct_gW), sl_gW⟩)
    (c_gW : PySem.W.codeIn K (.ref cW) "is_wide" = true)
    (k_gW : PySem.W.keepIn K (.ref gW) = true)
    (b_uS : PySem.W.nsIn K mainGlobals "say_holds" = some (some (.ref uS)))
    (l_uS : K.lookup uS = some ⟨oc_uS, od_uS, .func (PySem.W.fnOf "say_holds" "say_holds" (defArgs sShd) (defBody sShd) (defScope sShd) .none kV_uS dc_uS pm_uS an_uS cd_uS ct_uS), sl_uS⟩)
    (c_uS : PySem.W.codeIn K cd_uS "say_holds" = true)
    (k_uS : PySem.W.keepIn K (.ref uS) = true)
    (b_uH : PySem.W.nsIn K mainGlobals "holds" = some (some (.ref uH)))
    (l_uH : K.lookup uH = some ⟨oc_uH, od_uH, .func (PySem.W.fnOf "holds" "holds" (defArgs sHol) (defBody sHol) (defScope sHol) .none kV_uH dc_uH pm_uH an_uH (.ref cH) ct_uH), sl_uH⟩)
    (c_uH : PySem.W.codeIn K (.ref cH) "holds" = true)
    (k_uH : PySem.W.keepIn K (.ref uH) = true)
    (b_uA : PySem.W.nsIn K mainGlobals "all_hold" = some (some (.ref uA)))
    (l_uA : K.lookup uA = some ⟨oc_uA, od_uA, .func (PySem.W.fnOf "all_hold" "all_hold" (defArgs sAhd) (defBody sAhd) (defScope sAhd) .none kV_uA dc_uA pm_uA an_uA (.ref cA) ct_uA), sl_uA⟩)
    (c_uA : PySem.W.codeIn K (.ref cA) "all_hold" = true)
    (k_uA : PySem.W.keepIn K (.ref uA) = true)
    (b_uN : PySem.W.nsIn K mainGlobals "setting_by_number" = some (some (.ref uN)))
    (l_uN : K.lookup uN = some ⟨oc_uN, od_uN, .func (PySem.W.fnOf "setting_by_number" "setting_by_number" (defArgs sSbn) (defBody sSbn) (defScope sSbn) .none kV_uN dc_uN pm_uN an_uN cd_uN ct_uN), sl_uN⟩)
    (c_uN : PySem.W.codeIn K cd_uN "setting_by_number" = true)
    (k_uN : PySem.W.keepIn K (.ref uN) = true)
    (b_uE : PySem.W.nsIn K mainGlobals "every_setting" = some (some (.ref uE)))
    (l_uE : K.lookup uE = some ⟨oc_uE, od_uE, .func (PySem.W.fnOf "every_setting" "every_setting" (defArgs sEve) (defBody sEve) (defScope sEve) .none kV_uE dc_uE pm_uE an_uE cd_uE ct_uE), sl_uE⟩)
    (c_uE : PySem.W.codeIn K cd_uE "every_setting" = true)
    (k_uE : PySem.W.keepIn K (.ref uE) = true)
    (b_uF : PySem.W.nsIn K mainGlobals "follows" = some (some (.ref uF)))
    (l_uF : K.lookup uF = some ⟨oc_uF, od_uF, .func (PySem.W.fnOf "follows" "follows" (defArgs sFol) (defBody sFol) (defScope sFol) .none kV_uF dc_uF pm_uF an_uF cd_uF ct_uF), sl_uF⟩)
    (c_uF : PySem.W.codeIn K cd_uF "follows" = true)
    (k_uF : PySem.W.keepIn K (.ref uF) = true)
    (b_oM : PySem.W.nsIn K mainGlobals "trimmed" = some (some (.ref oM)))
    (l_oM : K.lookup oM = some ⟨oc_oM, od_oM, .func (PySem.W.fnOf "trimmed" "trimmed" (defArgs sTrm) (defBody sTrm) (defScope sTrm) .none kV_oM dc_oM pm_oM an_oM cd_oM ct_oM), sl_oM⟩)
    (c_oM : PySem.W.codeIn K cd_oM "trimmed" = true)
    (k_oM : PySem.W.keepIn K (.ref oM) = true)
    (b_oN : PySem.W.nsIn K mainGlobals "needed" = some (some (.ref oN)))
    (l_oN : K.lookup oN = some ⟨oc_oN, od_oN, .func (PySem.W.fnOf "needed" "needed" (defArgs sNed) (defBody sNed) (defScope sNed) .none kV_oN dc_oN pm_oN an_oN cd_oN ct_oN), sl_oN⟩)
    (c_oN : PySem.W.codeIn K cd_oN "needed" = true)
    (k_oN : PySem.W.keepIn K (.ref oN) = true)
    (b_oI : PySem.W.nsIn K mainGlobals "is_ladder" = some (some (.ref oI)))
    (l_oI : K.lookup oI = some ⟨oc_oI, od_oI, .func (PySem.W.fnOf "is_ladder" "is_ladder" (defArgs sIsl) (defBody sIsl) (defScope sIsl) .none kV_oI dc_oI pm_oI an_oI cd_oI ct_oI), sl_oI⟩)
    (c_oI : PySem.W.codeIn K cd_oI "is_ladder" = true)
    (k_oI : PySem.W.keepIn K (.ref oI) = true)
    (b_xr : PySem.W.nsIn K mainGlobals "pieces_of_row" = some (some (.ref xr)))
    (l_xr : K.lookup xr = some ⟨oc_xr, od_xr, .func (PySem.W.fnOf "pieces_of_row" "pieces_of_row" (defArgs sPor) (defBody sPor) (defScope sPor) .none kV_xr dc_xr pm_xr an_xr cd_xr ct_xr), sl_xr⟩)
    (c_xr : PySem.W.codeIn K cd_xr "pieces_of_row" = true)
    (k_xr : PySem.W.keepIn K (.ref xr) = true)
    (b_xP : PySem.W.nsIn K mainGlobals "pieces_of" = some (some (.ref xP)))
    (l_xP : K.lookup xP = some ⟨oc_xP, od_xP, .func (PySem.W.fnOf "pieces_of" "pieces_of" (defArgs sPof) (defBody sPof) (defScope sPof) .none kV_xP dc_xP pm_xP an_xP cd_xP ct_xP), sl_xP⟩)
    (c_xP : PySem.W.codeIn K cd_xP "pieces_of" = true)
    (k_xP : PySem.W.keepIn K (.ref xP) = true)
    (b_xt : PySem.W.nsIn K mainGlobals "tree_of_row" = some (some (.ref xt)))
    (l_xt : K.lookup xt = some ⟨oc_xt, od_xt, .func (PySem.W.fnOf "tree_of_row" "tree_of_row" (defArgs sTor) (defBody sTor) (defScope sTor) .none kV_xt dc_xt pm_xt an_xt cd_xt ct_xt), sl_xt⟩)
    (c_xt : PySem.W.codeIn K cd_xt "tree_of_row" = true)
    (k_xt : PySem.W.keepIn K (.ref xt) = true)
    (b_xT : PySem.W.nsIn K mainGlobals "tree_of" = some (some (.ref xT)))
    (l_xT : K.lookup xT = some ⟨oc_xT, od_xT, .func (PySem.W.fnOf "tree_of" "tree_of" (defArgs sTof) (defBody sTof) (defScope sTof) .none kV_xT dc_xT pm_xT an_xT cd_xT ct_xT), sl_xT⟩)
    (c_xT : PySem.W.codeIn K cd_xT "tree_of" = true)
    (k_xT : PySem.W.keepIn K (.ref xT) = true)
    (b_xh : PySem.W.nsIn K mainGlobals "height_of_row" = some (some (.ref xh)))
    (l_xh : K.lookup xh = some ⟨oc_xh, od_xh, .func (PySem.W.fnOf "height_of_row" "height_of_row" (defArgs sHor) (defBody sHor) (defScope sHor) .none kV_xh dc_xh pm_xh an_xh cd_xh ct_xh), sl_xh⟩)
    (c_xh : PySem.W.codeIn K cd_xh "height_of_row" = true)
    (k_xh : PySem.W.keepIn K (.ref xh) = true)
    (b_xH : PySem.W.nsIn K mainGlobals "heights" = some (some (.ref xH)))
    (l_xH : K.lookup xH = some ⟨oc_xH, od_xH, .func (PySem.W.fnOf "heights" "heights" (defArgs sHei) (defBody sHei) (defScope sHei) .none kV_xH dc_xH pm_xH an_xH cd_xH ct_xH), sl_xH⟩)
    (c_xH : PySem.W.codeIn K cd_xH "heights" = true)
    (k_xH : PySem.W.keepIn K (.ref xH) = true)
    (b_yp : PySem.W.nsIn K mainGlobals "put_rows" = some (some (.ref yp)))
    (l_yp : K.lookup yp = some ⟨oc_yp, od_yp, .func (PySem.W.fnOf "put_rows" "put_rows" (defArgs Ro.sPut) (defBody Ro.sPut) (defScope Ro.sPut) .none kV_yp dc_yp pm_yp an_yp cd_yp ct_yp), sl_yp⟩)
    (c_yp : PySem.W.codeIn K cd_yp "put_rows" = true)
    (k_yp : PySem.W.keepIn K (.ref yp) = true)
    (b_yr : PySem.W.nsIn K mainGlobals "rows_of" = some (some (.ref yr)))
    (l_yr : K.lookup yr = some ⟨oc_yr, od_yr, .func (PySem.W.fnOf "rows_of" "rows_of" (defArgs Ro.sRof) (defBody Ro.sRof) (defScope Ro.sRof) .none kV_yr dc_yr pm_yr an_yr cd_yr ct_yr), sl_yr⟩)
    (c_yr : PySem.W.codeIn K cd_yr "rows_of" = true)
    (k_yr : PySem.W.keepIn K (.ref yr) = true)
    (b_ys : PySem.W.nsIn K mainGlobals "_law_stree" = some (some (.ref ys)))
    (l_ys : K.lookup ys = some ⟨oc_ys, od_ys, .func (PySem.W.fnOf "_law_stree" "_law_stree" (defArgs Tl.sStt) (defBody Tl.sStt) (defScope Tl.sStt) .none kV_ys dc_ys pm_ys an_ys cd_ys ct_ys), sl_ys⟩)
    (c_ys : PySem.W.codeIn K cd_ys "_law_stree" = true)
    (k_ys : PySem.W.keepIn K (.ref ys) = true)
    (b_yc : PySem.W.nsIn K mainGlobals "_law_stree_case" = some (some (.ref yc)))
    (l_yc : K.lookup yc = some ⟨oc_yc, od_yc, .func (PySem.W.fnOf "_law_stree_case" "_law_stree_case" (defArgs Tl.sSts) (defBody Tl.sSts) (defScope Tl.sSts) .none kV_yc dc_yc pm_yc an_yc cd_yc ct_yc), sl_yc⟩)
    (c_yc : PySem.W.codeIn K cd_yc "_law_stree_case" = true)
    (k_yc : PySem.W.keepIn K (.ref yc) = true)
    (b_vF : PySem.W.nsIn K mainGlobals "is_fork" = some (some (.ref vF)))
    (l_vF : K.lookup vF = some ⟨oc_vF, od_vF, .func (PySem.W.fnOf "is_fork" "is_fork" (defArgs sFork) (defBody sFork) (defScope sFork) .none kV_vF dc_vF pm_vF an_vF cd_vF ct_vF), sl_vF⟩)
    (c_vF : PySem.W.codeIn K cd_vF "is_fork" = true)
    (k_vF : PySem.W.keepIn K (.ref vF) = true)
    (b_vA : PySem.W.nsIn K mainGlobals "is_leaf" = some (some (.ref vA)))
    (l_vA : K.lookup vA = some ⟨oc_vA, od_vA, .func (PySem.W.fnOf "is_leaf" "is_leaf" (defArgs sLeaf) (defBody sLeaf) (defScope sLeaf) .none kV_vA dc_vA pm_vA an_vA cd_vA ct_vA), sl_vA⟩)
    (c_vA : PySem.W.codeIn K cd_vA "is_leaf" = true)
    (k_vA : PySem.W.keepIn K (.ref vA) = true)
    (b_vZ : PySem.W.nsIn K mainGlobals "has_size_of_tree" = some (some (.ref vZ)))
    (l_vZ : K.lookup vZ = some ⟨oc_vZ, od_vZ, .func (PySem.W.fnOf "has_size_of_tree" "has_size_of_tree" (defArgs sSize) (defBody sSize) (defScope sSize) .none kV_vZ dc_vZ pm_vZ an_vZ cd_vZ ct_vZ), sl_vZ⟩)
    (c_vZ : PySem.W.codeIn K cd_vZ "has_size_of_tree" = true)
    (k_vZ : PySem.W.keepIn K (.ref vZ) = true)
    (b_vQ : PySem.W.nsIn K mainGlobals "claim_or_none" = some (some (.ref vQ)))
    (l_vQ : K.lookup vQ = some ⟨oc_vQ, od_vQ, .func (PySem.W.fnOf "claim_or_none" "claim_or_none" (defArgs sCn) (defBody sCn) (defScope sCn) .none kV_vQ dc_vQ pm_vQ an_vQ cd_vQ ct_vQ), sl_vQ⟩)
    (c_vQ : PySem.W.codeIn K cd_vQ "claim_or_none" = true)
    (k_vQ : PySem.W.keepIn K (.ref vQ) = true)
    (b_vI : PySem.W.nsIn K mainGlobals "is_tree" = some (some (.ref vI)))
    (l_vI : K.lookup vI = some ⟨oc_vI, od_vI, .func (PySem.W.fnOf "is_tree" "is_tree" (defArgs sIst) (defBody sIst) (defScope sIst) .none kV_vI dc_vI pm_vI an_vI cd_vI ct_vI), sl_vI⟩)
    (c_vI : PySem.W.codeIn K cd_vI "is_tree" = true)
    (k_vI : PySem.W.keepIn K (.ref vI) = true)
    (b_vK : PySem.W.nsIn K mainGlobals "claim_of_tree" = some (some (.ref vK)))
    (l_vK : K.lookup vK = some ⟨oc_vK, od_vK, .func (PySem.W.fnOf "claim_of_tree" "claim_of_tree" (defArgs sCot) (defBody sCot) (defScope sCot) .none kV_vK dc_vK pm_vK an_vK cd_vK ct_vK), sl_vK⟩)
    (c_vK : PySem.W.codeIn K cd_vK "claim_of_tree" = true)
    (k_vK : PySem.W.keepIn K (.ref vK) = true)
    (b_vU : PySem.W.nsIn K mainGlobals "cuts_of_tree" = some (some (.ref vU)))
    (l_vU : K.lookup vU = some ⟨oc_vU, od_vU, .func (PySem.W.fnOf "cuts_of_tree" "cuts_of_tree" (defArgs sCts) (defBody sCts) (defScope sCts) .none kV_vU dc_vU pm_vU an_vU cd_vU ct_vU), sl_vU⟩)
    (c_vU : PySem.W.codeIn K cd_vU "cuts_of_tree" = true)
    (k_vU : PySem.W.keepIn K (.ref vU) = true)
    (b_vP : PySem.W.nsIn K mainGlobals "how_many_pieces" = some (some (.ref vP)))
    (l_vP : K.lookup vP = some ⟨oc_vP, od_vP, .func (PySem.W.fnOf "how_many_pieces" "how_many_pieces" (defArgs sPcs) (defBody sPcs) (defScope sPcs) .none kV_vP dc_vP pm_vP an_vP cd_vP ct_vP), sl_vP⟩)
    (c_vP : PySem.W.codeIn K cd_vP "how_many_pieces" = true)
    (k_vP : PySem.W.keepIn K (.ref vP) = true)
    (b_wI : PySem.W.nsIn K mainGlobals "is_regular_under" = some (some (.ref wI)))
    (l_wI : K.lookup wI = some ⟨oc_wI, od_wI, .func (PySem.W.fnOf "is_regular_under" "is_regular_under" (defArgs sIru) (defBody sIru) (defScope sIru) .none kV_wI dc_wI pm_wI an_wI cd_wI ct_wI), sl_wI⟩)
    (c_wI : PySem.W.codeIn K cd_wI "is_regular_under" = true)
    (k_wI : PySem.W.keepIn K (.ref wI) = true)
    (b_wG : PySem.W.nsIn K mainGlobals "is_regular" = some (some (.ref wG)))
    (l_wG : K.lookup wG = some ⟨oc_wG, od_wG, .func (PySem.W.fnOf "is_regular" "is_regular" (defArgs sIrg) (defBody sIrg) (defScope sIrg) .none kV_wG dc_wG pm_wG an_wG cd_wG ct_wG), sl_wG⟩)
    (c_wG : PySem.W.codeIn K cd_wG "is_regular" = true)
    (k_wG : PySem.W.keepIn K (.ref wG) = true)
    (b_wJ : PySem.W.nsIn K mainGlobals "joined" = some (some (.ref wJ)))
    (l_wJ : K.lookup wJ = some ⟨oc_wJ, od_wJ, .func (PySem.W.fnOf "joined" "joined" (defArgs sJnd) (defBody sJnd) (defScope sJnd) .none kV_wJ dc_wJ pm_wJ an_wJ cd_wJ ct_wJ), sl_wJ⟩)
    (c_wJ : PySem.W.codeIn K cd_wJ "joined" = true)
    (k_wJ : PySem.W.keepIn K (.ref wJ) = true)
    (b_wU : PySem.W.nsIn K mainGlobals "regular_under" = some (some (.ref wU)))
    (l_wU : K.lookup wU = some ⟨oc_wU, od_wU, .func (PySem.W.fnOf "regular_under" "regular_under" (defArgs sRgu) (defBody sRgu) (defScope sRgu) .none kV_wU dc_wU pm_wU an_wU cd_wU ct_wU), sl_wU⟩)
    (c_wU : PySem.W.codeIn K cd_wU "regular_under" = true)
    (k_wU : PySem.W.keepIn K (.ref wU) = true)
    (b_wR : PySem.W.nsIn K mainGlobals "made_regular" = some (some (.ref wR)))
    (l_wR : K.lookup wR = some ⟨oc_wR, od_wR, .func (PySem.W.fnOf "made_regular" "made_regular" (defArgs sMrg) (defBody sMrg) (defScope sMrg) .none kV_wR dc_wR pm_wR an_wR cd_wR ct_wR), sl_wR⟩)
    (c_wR : PySem.W.codeIn K cd_wR "made_regular" = true)
    (k_wR : PySem.W.keepIn K (.ref wR) = true)
    (b_jh : PySem.W.nsIn K mainGlobals "_law_s_height" = some (some (.ref jh)))
    (l_jh : K.lookup jh = some ⟨oc_jh, od_jh, .func (PySem.W.fnOf "_law_s_height" "_law_s_height" (defArgs Wtr.sShe) (defBody Wtr.sShe) (defScope Wtr.sShe) .none kV_jh dc_jh pm_jh an_jh cd_jh ct_jh), sl_jh⟩)
    (c_jh : PySem.W.codeIn K cd_jh "_law_s_height" = true)
    (k_jh : PySem.W.keepIn K (.ref jh) = true)
    (b_jt : PySem.W.nsIn K mainGlobals "_law_s_tree_right" = some (some (.ref jt)))
    (l_jt : K.lookup jt = some ⟨oc_jt, od_jt, .func (PySem.W.fnOf "_law_s_tree_right" "_law_s_tree_right" (defArgs Wtr.sTrr) (defBody Wtr.sTrr) (defScope Wtr.sTrr) .none kV_jt dc_jt pm_jt an_jt cd_jt ct_jt), sl_jt⟩)
    (c_jt : PySem.W.codeIn K cd_jt "_law_s_tree_right" = true)
    (k_jt : PySem.W.keepIn K (.ref jt) = true)
    (b_jl : PySem.W.nsIn K mainGlobals "_law_s_ladder_right" = some (some (.ref jl)))
    (l_jl : K.lookup jl = some ⟨oc_jl, od_jl, .func (PySem.W.fnOf "_law_s_ladder_right" "_law_s_ladder_right" (defArgs Wlr.sLrr) (defBody Wlr.sLrr) (defScope Wlr.sLrr) .none kV_jl dc_jl pm_jl an_jl cd_jl ct_jl), sl_jl⟩)
    (c_jl : PySem.W.codeIn K cd_jl "_law_s_ladder_right" = true)
    (k_jl : PySem.W.keepIn K (.ref jl) = true)
    (lc_O : K.lookup cO = some ⟨e_O, dd_O, .fields vs_O, sf_O⟩)
    (v_O : vs_O[11]? = some (Value.ref PO))
    (hd_O : PySem.W.codeHdIn K cO PO = true)
    (np_O : K.lookup PO = none)
    (lc_W : K.lookup cW = some ⟨e_W, dd_W, .fields vs_W, sf_W⟩)
    (v_W : vs_W[11]? = some (Value.ref PW))
    (hd_W : PySem.W.codeHdIn K cW PW = true)
    (np_W : K.lookup PW = none)
    (lc_H : K.lookup cH = some ⟨e_H, dd_H, .fields vs_H, sf_H⟩)
    (v_H : vs_H[11]? = some (Value.ref PH))
    (hd_H : PySem.W.codeHdIn K cH PH = true)
    (np_H : K.lookup PH = none)
    (lc_A : K.lookup cA = some ⟨e_A, dd_A, .fields vs_A, sf_A⟩)
    (v_A : vs_A[11]? = some (Value.ref PA))
    (hd_A : PySem.W.codeHdIn K cA PA = true)
    (np_A : K.lookup PA = none)
    (b_MOST_THINGS : PySem.W.nsIn K mainGlobals "MOST_THINGS" = some (some (.int 8 tk_MOST_THINGS)))
    (b_MOST_ROWS : PySem.W.nsIn K mainGlobals "MOST_ROWS" = some (some (.int 200 tk_MOST_ROWS)))
    (b_MOST_PIECES : PySem.W.nsIn K mainGlobals "MOST_PIECES" = some (some (.int 360 tk_MOST_PIECES)))
    (b_MOST_WITHIN : PySem.W.nsIn K mainGlobals "MOST_WITHIN" = some (some (.int 40 tk_MOST_WITHIN)))
    (z_zip : PySem.W.nsIn K mainGlobals "zip" = some none)
    (z_range : PySem.W.nsIn K mainGlobals "range" = some none)
    (z_isinstance : PySem.W.nsIn K mainGlobals "isinstance" = some none)
    (z_len : PySem.W.nsIn K mainGlobals "len" = some none)
    (z_list : PySem.W.nsIn K mainGlobals "list" = some none)
    (z_min : PySem.W.nsIn K mainGlobals "min" = some none)
    (z_max : PySem.W.nsIn K mainGlobals "max" = some none)
    (z_tuple : PySem.W.nsIn K mainGlobals "tuple" = some none)
    (z_sorted : PySem.W.nsIn K mainGlobals "sorted" = some none)
    (z_all : PySem.W.nsIn K mainGlobals "all" = some none)
    (z_any : PySem.W.nsIn K mainGlobals "any" = some none)
    (z_bool : PySem.W.nsIn K mainGlobals "bool" = some none)
    (z_int : PySem.W.nsIn K mainGlobals "int" = some none)
    (z_repr : PySem.W.nsIn K mainGlobals "repr" = some none)
    (z_abs : PySem.W.nsIn K mainGlobals "abs" = some none)
    (z_set : PySem.W.nsIn K mainGlobals "set" = some none)
    (z_enumerate : PySem.W.nsIn K mainGlobals "enumerate" = some none)
    (z_str : PySem.W.nsIn K mainGlobals "str" = some none)
    (z_ValueError : PySem.W.nsIn K mainGlobals "ValueError" = some none)
    (z_reversed : PySem.W.nsIn K mainGlobals "reversed" = some none)
    (aS : PySem.W.nsIn K mainGlobals "SpareError" = some (some (.ref S)))
    (bS : PySem.W.subIn K (.ref S) (.type "BaseException") = some true)
    (hn : PySem.W.specialIn K (.builtin "object.__class__") "__get__" = some (some (.builtin "getset_descriptor.__get__")))
    (ht : PySem.W.takesIn K (.builtin "object.__class__") = some true)
    (lS : PySem.W.isClsIn K S = true)
    (tS : PySem.W.typeIn K (.ref S) = some (.type "type"))
    (a0 : PySem.W.nsIn K mainGlobals "NoCut" = some (some (.ref c0)))
    (hg0 : PySem.W.findIn K (.ref c0) "__getattribute__" = some (some (.builtin "BaseException.__getattribute__")))
    (hk0 : PySem.W.findIn K (.ref c0) "__getattr__" = some none)
    (hs0 : PySem.W.subIn K (.ref c0) (.type "BaseException") = some true)
    (hd0 : PySem.W.hasDictIn K c0 = true)
    (ha0 : PySem.W.findIn K (.ref c0) "__class__" = some (some (.builtin "object.__class__")))
    (hm0 : PySem.W.mroIn K c0 (.type "object") = some true)
    (lc0 : PySem.W.isClsIn K c0 = true)
    (ty0 : PySem.W.typeIn K (.ref c0) = some (.type "type"))
    (ss0 : PySem.W.subIn K (.ref c0) (.ref S) = some true)
    (sv0 : PySem.W.subIn K (.ref c0) (.type "ValueError") = some true)
    (a1 : PySem.W.nsIn K mainGlobals "NoLadder" = some (some (.ref c1)))
    (hg1 : PySem.W.findIn K (.ref c1) "__getattribute__" = some (some (.builtin "BaseException.__getattribute__")))
    (hk1 : PySem.W.findIn K (.ref c1) "__getattr__" = some none)
    (hs1 : PySem.W.subIn K (.ref c1) (.type "BaseException") = some true)
    (hd1 : PySem.W.hasDictIn K c1 = true)
    (ha1 : PySem.W.findIn K (.ref c1) "__class__" = some (some (.builtin "object.__class__")))
    (hm1 : PySem.W.mroIn K c1 (.type "object") = some true)
    (lc1 : PySem.W.isClsIn K c1 = true)
    (ty1 : PySem.W.typeIn K (.ref c1) = some (.type "type"))
    (ss1 : PySem.W.subIn K (.ref c1) (.ref S) = some true)
    (sv1 : PySem.W.subIn K (.ref c1) (.type "ValueError") = some true)
    (a2 : PySem.W.nsIn K mainGlobals "NoInstead" = some (some (.ref c2)))
    (hg2 : PySem.W.findIn K (.ref c2) "__getattribute__" = some (some (.builtin "BaseException.__getattribute__")))
    (hk2 : PySem.W.findIn K (.ref c2) "__getattr__" = some none)
    (hs2 : PySem.W.subIn K (.ref c2) (.type "BaseException") = some true)
    (hd2 : PySem.W.hasDictIn K c2 = true)
    (ha2 : PySem.W.findIn K (.ref c2) "__class__" = some (some (.builtin "object.__class__")))
    (hm2 : PySem.W.mroIn K c2 (.type "object") = some true)
    (lc2 : PySem.W.isClsIn K c2 = true)
    (ty2 : PySem.W.typeIn K (.ref c2) = some (.type "type"))
    (ss2 : PySem.W.subIn K (.ref c2) (.ref S) = some true)
    (sv2 : PySem.W.subIn K (.ref c2) (.type "ValueError") = some true)
    (a3 : PySem.W.nsIn K mainGlobals "TooGreat" = some (some (.ref c3)))
    (hg3 : PySem.W.findIn K (.ref c3) "__getattribute__" = some (some (.builtin "BaseException.__getattribute__")))
    (hk3 : PySem.W.findIn K (.ref c3) "__getattr__" = some none)
    (hs3 : PySem.W.subIn K (.ref c3) (.type "BaseException") = some true)
    (hd3 : PySem.W.hasDictIn K c3 = true)
    (ha3 : PySem.W.findIn K (.ref c3) "__class__" = some (some (.builtin "object.__class__")))
    (hm3 : PySem.W.mroIn K c3 (.type "object") = some true)
    (lc3 : PySem.W.isClsIn K c3 = true)
    (ty3 : PySem.W.typeIn K (.ref c3) = some (.type "type"))
    (ss3 : PySem.W.subIn K (.ref c3) (.ref S) = some true)
    (sv3 : PySem.W.subIn K (.ref c3) (.type "ValueError") = some true)
    (a4 : PySem.W.nsIn K mainGlobals "TooMany" = some (some (.ref c4)))
    (hg4 : PySem.W.findIn K (.ref c4) "__getattribute__" = some (some (.builtin "BaseException.__getattribute__")))
    (hk4 : PySem.W.findIn K (.ref c4) "__getattr__" = some none)
    (hs4 : PySem.W.subIn K (.ref c4) (.type "BaseException") = some true)
    (hd4 : PySem.W.hasDictIn K c4 = true)
    (ha4 : PySem.W.findIn K (.ref c4) "__class__" = some (some (.builtin "object.__class__")))
    (hm4 : PySem.W.mroIn K c4 (.type "object") = some true)
    (lc4 : PySem.W.isClsIn K c4 = true)
    (ty4 : PySem.W.typeIn K (.ref c4) = some (.type "type"))
    (ss4 : PySem.W.subIn K (.ref c4) (.ref S) = some true)
    (sv4 : PySem.W.subIn K (.ref c4) (.type "ValueError") = some true)
    (a5 : PySem.W.nsIn K mainGlobals "NoTelling" = some (some (.ref c5)))
    (hg5 : PySem.W.findIn K (.ref c5) "__getattribute__" = some (some (.builtin "BaseException.__getattribute__")))
    (hk5 : PySem.W.findIn K (.ref c5) "__getattr__" = some none)
    (hs5 : PySem.W.subIn K (.ref c5) (.type "BaseException") = some true)
    (hd5 : PySem.W.hasDictIn K c5 = true)
    (ha5 : PySem.W.findIn K (.ref c5) "__class__" = some (some (.builtin "object.__class__")))
    (hm5 : PySem.W.mroIn K c5 (.type "object") = some true)
    (lc5 : PySem.W.isClsIn K c5 = true)
    (ty5 : PySem.W.typeIn K (.ref c5) = some (.type "type"))
    (ss5 : PySem.W.subIn K (.ref c5) (.ref S) = some true)
    (sv5 : PySem.W.subIn K (.ref c5) (.type "ValueError") = some true)
    (a6 : PySem.W.nsIn K mainGlobals "NoText" = some (some (.ref c6)))
    (hg6 : PySem.W.findIn K (.ref c6) "__getattribute__" = some (some (.builtin "BaseException.__getattribute__")))
    (hk6 : PySem.W.findIn K (.ref c6) "__getattr__" = some none)
    (hs6 : PySem.W.subIn K (.ref c6) (.type "BaseException") = some true)
    (hd6 : PySem.W.hasDictIn K c6 = true)
    (ha6 : PySem.W.findIn K (.ref c6) "__class__" = some (some (.builtin "object.__class__")))
    (hm6 : PySem.W.mroIn K c6 (.type "object") = some true)
    (lc6 : PySem.W.isClsIn K c6 = true)
    (ty6 : PySem.W.typeIn K (.ref c6) = some (.type "type"))
    (ss6 : PySem.W.subIn K (.ref c6) (.ref S) = some true)
    (sv6 : PySem.W.subIn K (.ref c6) (.type "ValueError") = some true)
    (a7 : PySem.W.nsIn K mainGlobals "NoRow" = some (some (.ref c7)))
    (hg7 : PySem.W.findIn K (.ref c7) "__getattribute__" = some (some (.builtin "BaseException.__getattribute__")))
    (hk7 : PySem.W.findIn K (.ref c7) "__getattr__" = some none)
    (hs7 : PySem.W.subIn K (.ref c7) (.type "BaseException") = some true)
    (hd7 : PySem.W.hasDictIn K c7 = true)
    (ha7 : PySem.W.findIn K (.ref c7) "__class__" = some (some (.builtin "object.__class__")))
    (hm7 : PySem.W.mroIn K c7 (.type "object") = some true)
    (lc7 : PySem.W.isClsIn K c7 = true)
    (ty7 : PySem.W.typeIn K (.ref c7) = some (.type "type"))
    (ss7 : PySem.W.subIn K (.ref c7) (.ref S) = some true)
    (sv7 : PySem.W.subIn K (.ref c7) (.type "ValueError") = some true)
    (a8 : PySem.W.nsIn K mainGlobals "NoBack" = some (some (.ref c8)))
    (hg8 : PySem.W.findIn K (.ref c8) "__getattribute__" = some (some (.builtin "BaseException.__getattribute__")))
    (hk8 : PySem.W.findIn K (.ref c8) "__getattr__" = some none)
    (hs8 : PySem.W.subIn K (.ref c8) (.type "BaseException") = some true)
    (hd8 : PySem.W.hasDictIn K c8 = true)
    (ha8 : PySem.W.findIn K (.ref c8) "__class__" = some (some (.builtin "object.__class__")))
    (hm8 : PySem.W.mroIn K c8 (.type "object") = some true)
    (lc8 : PySem.W.isClsIn K c8 = true)
    (ty8 : PySem.W.typeIn K (.ref c8) = some (.type "type"))
    (ss8 : PySem.W.subIn K (.ref c8) (.ref S) = some true)
    (sv8 : PySem.W.subIn K (.ref c8) (.type "ValueError") = some true)
    (s00 : PySem.W.subIn K (.ref c0) (.ref c0) = some true)
    (s01 : PySem.W.subIn K (.ref c0) (.ref c1) = some false)
    (s02 : PySem.W.subIn K (.ref c0) (.ref c2) = some false)
    (s03 : PySem.W.subIn K (.ref c0) (.ref c3) = some false)
    (s04 : PySem.W.subIn K (.ref c0) (.ref c4) = some false)
    (s05 : PySem.W.subIn K (.ref c0) (.ref c5) = some false)
    (s06 : PySem.W.subIn K (.ref c0) (.ref c6) = some false)
    (s07 : PySem.W.subIn K (.ref c0) (.ref c7) = some false)
    (s08 : PySem.W.subIn K (.ref c0) (.ref c8) = some false)
    (s10 : PySem.W.subIn K (.ref c1) (.ref c0) = some false)
    (s11 : PySem.W.subIn K (.ref c1) (.ref c1) = some true)
    (s12 : PySem.W.subIn K (.ref c1) (.ref c2) = some false)
    (s13 : PySem.W.subIn K (.ref c1) (.ref c3) = some false)
    (s14 : PySem.W.subIn K (.ref c1) (.ref c4) = some false)
    (s15 : PySem.W.subIn K (.ref c1) (.ref c5) = some false)
    (s16 : PySem.W.subIn K (.ref c1) (.ref c6) = some false)
    (s17 : PySem.W.subIn K (.ref c1) (.ref c7) = some false)
    (s18 : PySem.W.subIn K (.ref c1) (.ref c8) = some false)
    (s20 : PySem.W.subIn K (.ref c2) (.ref c0) = some false)
    (s21 : PySem.W.subIn K (.ref c2) (.ref c1) = some false)
    (s22 : PySem.W.subIn K (.ref c2) (.ref c2) = some true)
    (s23 : PySem.W.subIn K (.ref c2) (.ref c3) = some false)
    (s24 : PySem.W.subIn K (.ref c2) (.ref c4) = some false)
    (s25 : PySem.W.subIn K (.ref c2) (.ref c5) = some false)
    (s26 : PySem.W.subIn K (.ref c2) (.ref c6) = some false)
    (s27 : PySem.W.subIn K (.ref c2) (.ref c7) = some false)
    (s28 : PySem.W.subIn K (.ref c2) (.ref c8) = some false)
    (s30 : PySem.W.subIn K (.ref c3) (.ref c0) = some false)
    (s31 : PySem.W.subIn K (.ref c3) (.ref c1) = some false)
    (s32 : PySem.W.subIn K (.ref c3) (.ref c2) = some false)
    (s33 : PySem.W.subIn K (.ref c3) (.ref c3) = some true)
    (s34 : PySem.W.subIn K (.ref c3) (.ref c4) = some false)
    (s35 : PySem.W.subIn K (.ref c3) (.ref c5) = some false)
    (s36 : PySem.W.subIn K (.ref c3) (.ref c6) = some false)
    (s37 : PySem.W.subIn K (.ref c3) (.ref c7) = some false)
    (s38 : PySem.W.subIn K (.ref c3) (.ref c8) = some false)
    (s40 : PySem.W.subIn K (.ref c4) (.ref c0) = some false)
    (s41 : PySem.W.subIn K (.ref c4) (.ref c1) = some false)
    (s42 : PySem.W.subIn K (.ref c4) (.ref c2) = some false)
    (s43 : PySem.W.subIn K (.ref c4) (.ref c3) = some false)
    (s44 : PySem.W.subIn K (.ref c4) (.ref c4) = some true)
    (s45 : PySem.W.subIn K (.ref c4) (.ref c5) = some false)
    (s46 : PySem.W.subIn K (.ref c4) (.ref c6) = some false)
    (s47 : PySem.W.subIn K (.ref c4) (.ref c7) = some false)
    (s48 : PySem.W.subIn K (.ref c4) (.ref c8) = some false)
    (s50 : PySem.W.subIn K (.ref c5) (.ref c0) = some false)
    (s51 : PySem.W.subIn K (.ref c5) (.ref c1) = some false)
    (s52 : PySem.W.subIn K (.ref c5) (.ref c2) = some false)
    (s53 : PySem.W.subIn K (.ref c5) (.ref c3) = some false)
    (s54 : PySem.W.subIn K (.ref c5) (.ref c4) = some false)
    (s55 : PySem.W.subIn K (.ref c5) (.ref c5) = some true)
    (s56 : PySem.W.subIn K (.ref c5) (.ref c6) = some false)
    (s57 : PySem.W.subIn K (.ref c5) (.ref c7) = some false)
    (s58 : PySem.W.subIn K (.ref c5) (.ref c8) = some false)
    (s60 : PySem.W.subIn K (.ref c6) (.ref c0) = some false)
    (s61 : PySem.W.subIn K (.ref c6) (.ref c1) = some false)
    (s62 : PySem.W.subIn K (.ref c6) (.ref c2) = some false)
    (s63 : PySem.W.subIn K (.ref c6) (.ref c3) = some false)
    (s64 : PySem.W.subIn K (.ref c6) (.ref c4) = some false)
    (s65 : PySem.W.subIn K (.ref c6) (.ref c5) = some false)
    (s66 : PySem.W.subIn K (.ref c6) (.ref c6) = some true)
    (s67 : PySem.W.subIn K (.ref c6) (.ref c7) = some false)
    (s68 : PySem.W.subIn K (.ref c6) (.ref c8) = some false)
    (s70 : PySem.W.subIn K (.ref c7) (.ref c0) = some false)
    (s71 : PySem.W.subIn K (.ref c7) (.ref c1) = some false)
    (s72 : PySem.W.subIn K (.ref c7) (.ref c2) = some false)
    (s73 : PySem.W.subIn K (.ref c7) (.ref c3) = some false)
    (s74 : PySem.W.subIn K (.ref c7) (.ref c4) = some false)
    (s75 : PySem.W.subIn K (.ref c7) (.ref c5) = some false)
    (s76 : PySem.W.subIn K (.ref c7) (.ref c6) = some false)
    (s77 : PySem.W.subIn K (.ref c7) (.ref c7) = some true)
    (s78 : PySem.W.subIn K (.ref c7) (.ref c8) = some false)
    (s80 : PySem.W.subIn K (.ref c8) (.ref c0) = some false)
    (s81 : PySem.W.subIn K (.ref c8) (.ref c1) = some false)
    (s82 : PySem.W.subIn K (.ref c8) (.ref c2) = some false)
    (s83 : PySem.W.subIn K (.ref c8) (.ref c3) = some false)
    (s84 : PySem.W.subIn K (.ref c8) (.ref c4) = some false)
    (s85 : PySem.W.subIn K (.ref c8) (.ref c5) = some false)
    (s86 : PySem.W.subIn K (.ref c8) (.ref c6) = some false)
    (s87 : PySem.W.subIn K (.ref c8) (.ref c7) = some false)
    (s88 : PySem.W.subIn K (.ref c8) (.ref c8) = some true)
    (xc3 : PySem.W.excIn K c3 [.type "ValueError", .type "Exception", .type "BaseException", .type "object"] "ValueError.__new__" = true)
    (kp3 : PySem.W.keepIn K (.ref c3) = true) :
    LawG l w K 49 63 "script" mg top h := by
  have e := htop.symm.trans (PySem.W.mg_of X G b_fL)
  cases e
  have F_fM := fun_mk (st := sMix) l_fM c_fM k_fM
  have B_fM := F_fM.binds (ps := ["cell", "at"]) fun _ _ _ _ _ _ us hl => match us, hl with | [_, _], _ => rfl
  have g_fM := PySem.W.mg_of X G b_fM
  have F_fD := fun_mk (st := sDrw) l_fD c_fD k_fD
  have B_fD := F_fD.binds (ps := ["feed", "many"]) fun _ _ _ _ _ _ us hl => match us, hl with | [_, _], _ => rfl
  have g_fD := PySem.W.mg_of X G b_fD
  have F_fO := fun_mk (st := sOpn) l_fO c_fO k_fO
  have B_fO := F_fO.binds (ps := ["script"]) fun _ _ _ _ _ _ us hl => match us, hl with | [_], _ => rfl
  have g_fO := PySem.W.mg_of X G b_fO
  have F_fW := fun_mk (st := sSwh) l_fW c_fW k_fW
  have B_fW := F_fW.binds (ps := ["thing"]) fun _ _ _ _ _ _ us hl => match us, hl with | [_], _ => rfl
  have g_fW := PySem.W.mg_of X G b_fW
  have F_fT := fun_mk (st := sThg) l_fT c_fT k_fT
  have B_fT := F_fT.binds (ps := ["feed", "least", "most"]) fun _ _ _ _ _ _ us hl => match us, hl with | [_, _, _], _ => rfl
  have g_fT := PySem.W.mg_of X G b_fT
  have F_fC := fun_mk (st := sClm) l_fC c_fC k_fC
  have B_fC := F_fC.binds (ps := ["feed", "things", "most"]) fun _ _ _ _ _ _ us hl => match us, hl with | [_, _, _], _ => rfl
  have g_fC := PySem.W.mg_of X G b_fC
  have F_fB := fun_mk (st := sBok) l_fB c_fB k_fB
  have B_fB := F_fB.binds (ps := ["feed", "things", "most"]) fun _ _ _ _ _ _ us hl => match us, hl with | [_, _, _], _ => rfl
  have g_fB := PySem.W.mg_of X G b_fB
  have F_fx := fun_mk (st := sSct) l_fx c_fx k_fx
  have B_fx := F_fx.binds (ps := ["one", "other", "k"]) fun _ _ _ _ _ _ us hl => match us, hl with | [_, _, _], _ => rfl
  have g_fx := PySem.W.mg_of X G b_fx
  have F_fr := fun_mk (st := sSrw) l_fr c_fr k_fr
  have B_fr := F_fr.binds (ps := ["book", "claims", "row"]) fun _ _ _ _ _ _ us hl => match us, hl with | [_, _, _], _ => rfl
  have g_fr := PySem.W.mg_of X G b_fr
  have F_fS := fun_mk (st := sSca) l_fS c_fS k_fS
  have B_fS := F_fS.binds (ps := ["feed"]) fun _ _ _ _ _ _ us hl => match us, hl with | [_], _ => rfl
  have g_fS := PySem.W.mg_of X G b_fS
  have F_fy := fun_mk (st := sSwy) l_fy c_fy k_fy
  have B_fy := F_fy.binds (ps := ["book", "claims", "i", "j"]) fun _ _ _ _ _ _ us hl => match us, hl with | [_, _, _, _], _ => rfl
  have g_fy := PySem.W.mg_of X G b_fy
  have F_fl := fun_mk (st := sSld) l_fl c_fl k_fl
  have B_fl := F_fl.binds (ps := ["feed", "book", "many"]) fun _ _ _ _ _ _ us hl => match us, hl with | [_, _, _], _ => rfl
  have g_fl := PySem.W.mg_of X G b_fl
  have F_fL := fun_mk (st := sLaw) l_fL c_fL k_fL
  have B_fL := F_fL.binds (ps := ["script"]) fun _ _ _ _ _ _ us hl => match us, hl with | [_], _ => rfl
  have g_fL := PySem.W.mg_of X G b_fL
  have F_fq := fun_mk (st := sRef) l_fq c_fq k_fq
  have B_fq := F_fq.binds (ps := ["act"]) fun _ _ _ _ _ _ us hl => match us, hl with | [_], _ => rfl
  have g_fq := PySem.W.mg_of X G b_fq
  have F_fw := fun_mk (st := sWho) l_fw c_fw k_fw
  have B_fw := F_fw.binds (ps := ["thing"]) fun _ _ _ _ _ _ us hl => match us, hl with | [_], _ => rfl
  have g_fw := PySem.W.mg_of X G b_fw
  have F_fm := fun_mk (st := sCme) l_fm c_fm k_fm
  have B_fm := F_fm.binds (ps := ["one", "other", "k"]) fun _ _ _ _ _ _ us hl => match us, hl with | [_, _, _], _ => rfl
  have g_fm := PySem.W.mg_of X G b_fm
  have F_fn := fun_mk (st := sCon) l_fn c_fn k_fn
  have B_fn := F_fn.binds (ps := ["one", "other", "k"]) fun _ _ _ _ _ _ us hl => match us, hl with | [_, _, _], _ => rfl
  have g_fn := PySem.W.mg_of X G b_fn
  have F_fb := fun_mk (st := sNum) l_fb c_fb k_fb
  have B_fb := F_fb.binds (ps := ["thing", "many"]) fun _ _ _ _ _ _ us hl => match us, hl with | [_, _], _ => rfl
  have g_fb := PySem.W.mg_of X G b_fb
  have F_fR := fun_mk (st := sRow) l_fR c_fR k_fR
  have B_fR := F_fR.binds (ps := ["book", "claims", "row"]) fun _ _ _ _ _ _ us hl => match us, hl with | [_, _, _], _ => rfl
  have g_fR := PySem.W.mg_of X G b_fR
  have F_fA := fun_mk (st := sAhe) l_fA c_fA k_fA
  have B_fA := F_fA.binds (ps := ["book", "thing"]) fun _ _ _ _ _ _ us hl => match us, hl with | [_, _], _ => rfl
  have g_fA := PySem.W.mg_of X G b_fA
  have F_fI := fun_mk (st := sClo) l_fI c_fI k_fI
  have B_fI := F_fI.binds (ps := ["book", "ladder"]) fun _ _ _ _ _ _ us hl => match us, hl with | [_, _], _ => rfl
  have g_fI := PySem.W.mg_of X G b_fI
  have F_fK := fun_mk (st := sChk) l_fK c_fK k_fK
  have B_fK := F_fK.binds (ps := ["book", "ladder"]) fun _ _ _ _ _ _ us hl => match us, hl with | [_, _], _ => rfl
  have g_fK := PySem.W.mg_of X G b_fK
  have F_fV := fun_mk (st := sRun) l_fV c_fV k_fV
  have B_fV := F_fV.binds (ps := ["ladder", "last"]) fun _ _ _ _ _ _ us hl => match us, hl with | [_, _], _ => rfl
  have g_fV := PySem.W.mg_of X G b_fV
  have F_fQ := fun_mk (st := sMov) l_fQ c_fQ k_fQ
  have B_fQ := F_fQ.binds (ps := ["row", "places"]) fun _ _ _ _ _ _ us hl => match us, hl with | [_, _], _ => rfl
  have g_fQ := PySem.W.mg_of X G b_fQ
  have F_fZ := fun_mk (st := sTrt) l_fZ c_fZ k_fZ
  have B_fZ := F_fZ.binds (ps := ["ladder", "last"]) fun _ _ _ _ _ _ us hl => match us, hl with | [_, _], _ => rfl
  have g_fZ := PySem.W.mg_of X G b_fZ
  have F_gO := fun_mk (st := sHop) l_gO c_gO k_gO
  have B_gO := F_gO.binds (ps := ["says"]) fun _ _ _ _ _ _ us hl => match us, hl with | [_], _ => rfl
  have g_gO := PySem.W.mg_of X G b_gO
  have F_gW := fun_mk (st := sWid) l_gW c_gW k_gW
  have B_gW := F_gW.binds (ps := ["one", "other"]) fun _ _ _ _ _ _ us hl => match us, hl with | [_, _], _ => rfl
  have g_gW := PySem.W.mg_of X G b_gW
  have F_uS := fun_mk (st := sShd) l_uS c_uS k_uS
  have B_uS := F_uS.binds (ps := ["say", "setting"]) fun _ _ _ _ _ _ us hl => match us, hl with | [_, _], _ => rfl
  have g_uS := PySem.W.mg_of X G b_uS
  have F_uH := fun_mk (st := sHol) l_uH c_uH k_uH
  have B_uH := F_uH.binds (ps := ["claim", "setting"]) fun _ _ _ _ _ _ us hl => match us, hl with | [_, _], _ => rfl
  have g_uH := PySem.W.mg_of X G b_uH
  have F_uA := fun_mk (st := sAhd) l_uA c_uA k_uA
  have B_uA := F_uA.binds (ps := ["book", "setting"]) fun _ _ _ _ _ _ us hl => match us, hl with | [_, _], _ => rfl
  have g_uA := PySem.W.mg_of X G b_uA
  have F_uN := fun_mk (st := sSbn) l_uN c_uN k_uN
  have B_uN := F_uN.binds (ps := ["number"]) fun _ _ _ _ _ _ us hl => match us, hl with | [_], _ => rfl
  have g_uN := PySem.W.mg_of X G b_uN
  have F_uE := fun_mk (st := sEve) l_uE c_uE k_uE
  have B_uE := F_uE.binds (ps := []) fun _ _ _ _ _ _ us hl => match us, hl with | [], _ => rfl
  have g_uE := PySem.W.mg_of X G b_uE
  have F_uF := fun_mk (st := sFol) l_uF c_uF k_uF
  have B_uF := F_uF.binds (ps := ["book", "claim"]) fun _ _ _ _ _ _ us hl => match us, hl with | [_, _], _ => rfl
  have g_uF := PySem.W.mg_of X G b_uF
  have F_oM := fun_mk (st := sTrm) l_oM c_oM k_oM
  have B_oM := F_oM.binds (ps := ["book", "ladder"]) fun _ _ _ _ _ _ us hl => match us, hl with | [_, _], _ => rfl
  have g_oM := PySem.W.mg_of X G b_oM
  have F_oN := fun_mk (st := sNed) l_oN c_oN k_oN
  have B_oN := F_oN.binds (ps := ["book", "ladder"]) fun _ _ _ _ _ _ us hl => match us, hl with | [_, _], _ => rfl
  have g_oN := PySem.W.mg_of X G b_oN
  have F_oI := fun_mk (st := sIsl) l_oI c_oI k_oI
  have B_oI := F_oI.binds (ps := ["book", "thing"]) fun _ _ _ _ _ _ us hl => match us, hl with | [_, _], _ => rfl
  have g_oI := PySem.W.mg_of X G b_oI
  have F_xr := fun_mk (st := sPor) l_xr c_xr k_xr
  have B_xr := F_xr.binds (ps := ["row", "pieces_ahead"]) fun _ _ _ _ _ _ us hl => match us, hl with | [_, _], _ => rfl
  have g_xr := PySem.W.mg_of X G b_xr
  have F_xP := fun_mk (st := sPof) l_xP c_xP k_xP
  have B_xP := F_xP.binds (ps := ["book", "ladder"]) fun _ _ _ _ _ _ us hl => match us, hl with | [_, _], _ => rfl
  have g_xP := PySem.W.mg_of X G b_xP
  have F_xt := fun_mk (st := sTor) l_xt c_xt k_xt
  have B_xt := F_xt.binds (ps := ["row", "trees_ahead"]) fun _ _ _ _ _ _ us hl => match us, hl with | [_, _], _ => rfl
  have g_xt := PySem.W.mg_of X G b_xt
  have F_xT := fun_mk (st := sTof) l_xT c_xT k_xT
  have B_xT := F_xT.binds (ps := ["book", "ladder"]) fun _ _ _ _ _ _ us hl => match us, hl with | [_, _], _ => rfl
  have g_xT := PySem.W.mg_of X G b_xT
  have F_xh := fun_mk (st := sHor) l_xh c_xh k_xh
  have B_xh := F_xh.binds (ps := ["row", "heights_ahead"]) fun _ _ _ _ _ _ us hl => match us, hl with | [_, _], _ => rfl
  have g_xh := PySem.W.mg_of X G b_xh
  have F_xH := fun_mk (st := sHei) l_xH c_xH k_xH
  have B_xH := F_xH.binds (ps := ["book", "ladder"]) fun _ _ _ _ _ _ us hl => match us, hl with | [_, _], _ => rfl
  have g_xH := PySem.W.mg_of X G b_xH
  have F_yp := fun_mk (st := Ro.sPut) l_yp c_yp k_yp
  have B_yp := F_yp.binds (ps := ["tree", "rows", "numbers"]) fun _ _ _ _ _ _ us hl => match us, hl with | [_, _, _], _ => rfl
  have g_yp := PySem.W.mg_of X G b_yp
  have F_yr := fun_mk (st := Ro.sRof) l_yr c_yr k_yr
  have B_yr := F_yr.binds (ps := ["tree"]) fun _ _ _ _ _ _ us hl => match us, hl with | [_], _ => rfl
  have g_yr := PySem.W.mg_of X G b_yr
  have F_ys := fun_mk (st := Tl.sStt) l_ys c_ys k_ys
  have B_ys := F_ys.binds (ps := ["feed", "book", "deep"]) fun _ _ _ _ _ _ us hl => match us, hl with | [_, _, _], _ => rfl
  have g_ys := PySem.W.mg_of X G b_ys
  have F_yc := fun_mk (st := Tl.sSts) l_yc c_yc k_yc
  have B_yc := F_yc.binds (ps := ["feed"]) fun _ _ _ _ _ _ us hl => match us, hl with | [_], _ => rfl
  have g_yc := PySem.W.mg_of X G b_yc
  have F_vF := fun_mk (st := sFork) l_vF c_vF k_vF
  have B_vF := F_vF.binds (ps := ["thing"]) fun _ _ _ _ _ _ us hl => match us, hl with | [_], _ => rfl
  have g_vF := PySem.W.mg_of X G b_vF
  have F_vA := fun_mk (st := sLeaf) l_vA c_vA k_vA
  have B_vA := F_vA.binds (ps := ["thing"]) fun _ _ _ _ _ _ us hl => match us, hl with | [_], _ => rfl
  have g_vA := PySem.W.mg_of X G b_vA
  have F_vZ := fun_mk (st := sSize) l_vZ c_vZ k_vZ
  have B_vZ := F_vZ.binds (ps := ["thing"]) fun _ _ _ _ _ _ us hl => match us, hl with | [_], _ => rfl
  have g_vZ := PySem.W.mg_of X G b_vZ
  have F_vQ := fun_mk (st := sCn) l_vQ c_vQ k_vQ
  have B_vQ := F_vQ.binds (ps := ["book", "thing"]) fun _ _ _ _ _ _ us hl => match us, hl with | [_, _], _ => rfl
  have g_vQ := PySem.W.mg_of X G b_vQ
  have F_vI := fun_mk (st := sIst) l_vI c_vI k_vI
  have B_vI := F_vI.binds (ps := ["book", "thing"]) fun _ _ _ _ _ _ us hl => match us, hl with | [_, _], _ => rfl
  have g_vI := PySem.W.mg_of X G b_vI
  have F_vK := fun_mk (st := sCot) l_vK c_vK k_vK
  have B_vK := F_vK.binds (ps := ["book", "tree"]) fun _ _ _ _ _ _ us hl => match us, hl with | [_, _], _ => rfl
  have g_vK := PySem.W.mg_of X G b_vK
  have F_vU := fun_mk (st := sCts) l_vU c_vU k_vU
  have B_vU := F_vU.binds (ps := ["tree"]) fun _ _ _ _ _ _ us hl => match us, hl with | [_], _ => rfl
  have g_vU := PySem.W.mg_of X G b_vU
  have F_vP := fun_mk (st := sPcs) l_vP c_vP k_vP
  have B_vP := F_vP.binds (ps := ["tree"]) fun _ _ _ _ _ _ us hl => match us, hl with | [_], _ => rfl
  have g_vP := PySem.W.mg_of X G b_vP
  have F_wI := fun_mk (st := sIru) l_wI c_wI k_wI
  have B_wI := F_wI.binds (ps := ["tree", "things"]) fun _ _ _ _ _ _ us hl => match us, hl with | [_, _], _ => rfl
  have g_wI := PySem.W.mg_of X G b_wI
  have F_wG := fun_mk (st := sIrg) l_wG c_wG k_wG
  have B_wG := F_wG.binds (ps := ["tree"]) fun _ _ _ _ _ _ us hl => match us, hl with | [_], _ => rfl
  have g_wG := PySem.W.mg_of X G b_wG
  have F_wJ := fun_mk (st := sJnd) l_wJ c_wJ k_wJ
  have B_wJ := F_wJ.binds (ps := ["one", "other", "k"]) fun _ _ _ _ _ _ us hl => match us, hl with | [_, _, _], _ => rfl
  have g_wJ := PySem.W.mg_of X G b_wJ
  have F_wU := fun_mk (st := sRgu) l_wU c_wU k_wU
  have B_wU := F_wU.binds (ps := ["book", "tree", "says"]) fun _ _ _ _ _ _ us hl => match us, hl with | [_, _, _], _ => rfl
  have g_wU := PySem.W.mg_of X G b_wU
  have F_wR := fun_mk (st := sMrg) l_wR c_wR k_wR
  have B_wR := F_wR.binds (ps := ["book", "tree"]) fun _ _ _ _ _ _ us hl => match us, hl with | [_, _], _ => rfl
  have g_wR := PySem.W.mg_of X G b_wR
  have F_jh := fun_mk (st := Wtr.sShe) l_jh c_jh k_jh
  have B_jh := F_jh.binds (ps := ["tree"]) fun _ _ _ _ _ _ us hl => match us, hl with | [_], _ => rfl
  have g_jh := PySem.W.mg_of X G b_jh
  have F_jt := fun_mk (st := Wtr.sTrr) l_jt c_jt k_jt
  have B_jt := F_jt.binds (ps := ["book", "tree"]) fun _ _ _ _ _ _ us hl => match us, hl with | [_, _], _ => rfl
  have g_jt := PySem.W.mg_of X G b_jt
  have F_jl := fun_mk (st := Wlr.sLrr) l_jl c_jl k_jl
  have B_jl := F_jl.binds (ps := ["book", "ladder"]) fun _ _ _ _ _ _ us hl => match us, hl with | [_, _], _ => rfl
  have g_jl := PySem.W.mg_of X G b_jl
  have C_gO : Se.FunC K "has_opposites" "has_opposites" sHop gO cO _ := ⟨⟨_, _, _, _, _, _, _, _, rfl, l_gO, c_gO⟩, k_gO⟩
  have C_gW : Se.FunC K "is_wide" "is_wide" sWid gW cW _ := ⟨⟨_, _, _, _, _, _, _, _, rfl, l_gW, c_gW⟩, k_gW⟩
  have C_uH : Se.FunC K "holds" "holds" sHol uH cH _ := ⟨⟨_, _, _, _, _, _, _, _, rfl, l_uH, c_uH⟩, k_uH⟩
  have C_uA : Se.FunC K "all_hold" "all_hold" sAhd uA cA _ := ⟨⟨_, _, _, _, _, _, _, _, rfl, l_uA, c_uA⟩, k_uA⟩
  have M_MOST_THINGS := PySem.W.mg_of X G b_MOST_THINGS
  have M_MOST_ROWS := PySem.W.mg_of X G b_MOST_ROWS
  have M_MOST_PIECES := PySem.W.mg_of X G b_MOST_PIECES
  have M_MOST_WITHIN := PySem.W.mg_of X G b_MOST_WITHIN
  have Z_zip := PySem.W.mg_none_of X G z_zip
  have Z_range := PySem.W.mg_none_of X G z_range
  have Z_isinstance := PySem.W.mg_none_of X G z_isinstance
  have Z_len := PySem.W.mg_none_of X G z_len
  have Z_list := PySem.W.mg_none_of X G z_list
  have Z_min := PySem.W.mg_none_of X G z_min
  have Z_max := PySem.W.mg_none_of X G z_max
  have Z_tuple := PySem.W.mg_none_of X G z_tuple
  have Z_sorted := PySem.W.mg_none_of X G z_sorted
  have Z_all := PySem.W.mg_none_of X G z_all
  have Z_any := PySem.W.mg_none_of X G z_any
  have Z_bool := PySem.W.mg_none_of X G z_bool
  have Z_int := PySem.W.mg_none_of X G z_int
  have Z_repr := PySem.W.mg_none_of X G z_repr
  have Z_abs := PySem.W.mg_none_of X G z_abs
  have Z_set := PySem.W.mg_none_of X G z_set
  have Z_enumerate := PySem.W.mg_none_of X G z_enumerate
  have Z_str := PySem.W.mg_none_of X G z_str
  have Z_ValueError := PySem.W.mg_none_of X G z_ValueError
  have Z_reversed := PySem.W.mg_none_of X G z_reversed
  have Tx : Rf.Txt K mg (fun i => [c0, c1, c2, c3, c4, c5, c6, c7, c8].getD i 0) S := {
    g := fun i x e => match i, e with
    | 0, e => by cases e; exact PySem.W.mg_of X G a0
    | 1, e => by cases e; exact PySem.W.mg_of X G a1
    | 2, e => by cases e; exact PySem.W.mg_of X G a2
    | 3, e => by cases e; exact PySem.W.mg_of X G a3
    | 4, e => by cases e; exact PySem.W.mg_of X G a4
    | 5, e => by cases e; exact PySem.W.mg_of X G a5
    | 6, e => by cases e; exact PySem.W.mg_of X G a6
    | 7, e => by cases e; exact PySem.W.mg_of X G a7
    | 8, e => by cases e; exact PySem.W.mg_of X G a8
    | n + 9, e => by cases e
    gS := PySem.W.mg_of X G aS
    ec := fun i hi => match i, hi with
    | 0, _ => ⟨hg0, hk0, hs0, hd0, ha0, hn, ht, hm0⟩
    | 1, _ => ⟨hg1, hk1, hs1, hd1, ha1, hn, ht, hm1⟩
    | 2, _ => ⟨hg2, hk2, hs2, hd2, ha2, hn, ht, hm2⟩
    | 3, _ => ⟨hg3, hk3, hs3, hd3, ha3, hn, ht, hm3⟩
    | 4, _ => ⟨hg4, hk4, hs4, hd4, ha4, hn, ht, hm4⟩
    | 5, _ => ⟨hg5, hk5, hs5, hd5, ha5, hn, ht, hm5⟩
    | 6, _ => ⟨hg6, hk6, hs6, hd6, ha6, hn, ht, hm6⟩
    | 7, _ => ⟨hg7, hk7, hs7, hd7, ha7, hn, ht, hm7⟩
    | 8, _ => ⟨hg8, hk8, hs8, hd8, ha8, hn, ht, hm8⟩
    ap := fun i j hi hj => match i, hi, j, hj with
    | 0, _, 0, _ => Cf.kit_t (Cf.cls_s lc0) ty0 s00
    | 0, _, 1, _ => Cf.kit_f (Cf.cls_s lc1) ty1 s01 s00
    | 0, _, 2, _ => Cf.kit_f (Cf.cls_s lc2) ty2 s02 s00
    | 0, _, 3, _ => Cf.kit_f (Cf.cls_s lc3) ty3 s03 s00
    | 0, _, 4, _ => Cf.kit_f (Cf.cls_s lc4) ty4 s04 s00
    | 0, _, 5, _ => Cf.kit_f (Cf.cls_s lc5) ty5 s05 s00
    | 0, _, 6, _ => Cf.kit_f (Cf.cls_s lc6) ty6 s06 s00
    | 0, _, 7, _ => Cf.kit_f (Cf.cls_s lc7) ty7 s07 s00
    | 0, _, 8, _ => Cf.kit_f (Cf.cls_s lc8) ty8 s08 s00
    | 1, _, 0, _ => Cf.kit_f (Cf.cls_s lc0) ty0 s10 s11
    | 1, _, 1, _ => Cf.kit_t (Cf.cls_s lc1) ty1 s11
    | 1, _, 2, _ => Cf.kit_f (Cf.cls_s lc2) ty2 s12 s11
    | 1, _, 3, _ => Cf.kit_f (Cf.cls_s lc3) ty3 s13 s11
    | 1, _, 4, _ => Cf.kit_f (Cf.cls_s lc4) ty4 s14 s11
    | 1, _, 5, _ => Cf.kit_f (Cf.cls_s lc5) ty5 s15 s11
    | 1, _, 6, _ => Cf.kit_f (Cf.cls_s lc6) ty6 s16 s11
    | 1, _, 7, _ => Cf.kit_f (Cf.cls_s lc7) ty7 s17 s11
    | 1, _, 8, _ => Cf.kit_f (Cf.cls_s lc8) ty8 s18 s11
    | 2, _, 0, _ => Cf.kit_f (Cf.cls_s lc0) ty0 s20 s22
    | 2, _, 1, _ => Cf.kit_f (Cf.cls_s lc1) ty1 s21 s22
    | 2, _, 2, _ => Cf.kit_t (Cf.cls_s lc2) ty2 s22
    | 2, _, 3, _ => Cf.kit_f (Cf.cls_s lc3) ty3 s23 s22
    | 2, _, 4, _ => Cf.kit_f (Cf.cls_s lc4) ty4 s24 s22
    | 2, _, 5, _ => Cf.kit_f (Cf.cls_s lc5) ty5 s25 s22
    | 2, _, 6, _ => Cf.kit_f (Cf.cls_s lc6) ty6 s26 s22
    | 2, _, 7, _ => Cf.kit_f (Cf.cls_s lc7) ty7 s27 s22
    | 2, _, 8, _ => Cf.kit_f (Cf.cls_s lc8) ty8 s28 s22
    | 3, _, 0, _ => Cf.kit_f (Cf.cls_s lc0) ty0 s30 s33
    | 3, _, 1, _ => Cf.kit_f (Cf.cls_s lc1) ty1 s31 s33
    | 3, _, 2, _ => Cf.kit_f (Cf.cls_s lc2) ty2 s32 s33
    | 3, _, 3, _ => Cf.kit_t (Cf.cls_s lc3) ty3 s33
    | 3, _, 4, _ => Cf.kit_f (Cf.cls_s lc4) ty4 s34 s33
    | 3, _, 5, _ => Cf.kit_f (Cf.cls_s lc5) ty5 s35 s33
    | 3, _, 6, _ => Cf.kit_f (Cf.cls_s lc6) ty6 s36 s33
    | 3, _, 7, _ => Cf.kit_f (Cf.cls_s lc7) ty7 s37 s33
    | 3, _, 8, _ => Cf.kit_f (Cf.cls_s lc8) ty8 s38 s33
    | 4, _, 0, _ => Cf.kit_f (Cf.cls_s lc0) ty0 s40 s44
    | 4, _, 1, _ => Cf.kit_f (Cf.cls_s lc1) ty1 s41 s44
    | 4, _, 2, _ => Cf.kit_f (Cf.cls_s lc2) ty2 s42 s44
    | 4, _, 3, _ => Cf.kit_f (Cf.cls_s lc3) ty3 s43 s44
    | 4, _, 4, _ => Cf.kit_t (Cf.cls_s lc4) ty4 s44
    | 4, _, 5, _ => Cf.kit_f (Cf.cls_s lc5) ty5 s45 s44
    | 4, _, 6, _ => Cf.kit_f (Cf.cls_s lc6) ty6 s46 s44
    | 4, _, 7, _ => Cf.kit_f (Cf.cls_s lc7) ty7 s47 s44
    | 4, _, 8, _ => Cf.kit_f (Cf.cls_s lc8) ty8 s48 s44
    | 5, _, 0, _ => Cf.kit_f (Cf.cls_s lc0) ty0 s50 s55
    | 5, _, 1, _ => Cf.kit_f (Cf.cls_s lc1) ty1 s51 s55
    | 5, _, 2, _ => Cf.kit_f (Cf.cls_s lc2) ty2 s52 s55
    | 5, _, 3, _ => Cf.kit_f (Cf.cls_s lc3) ty3 s53 s55
    | 5, _, 4, _ => Cf.kit_f (Cf.cls_s lc4) ty4 s54 s55
    | 5, _, 5, _ => Cf.kit_t (Cf.cls_s lc5) ty5 s55
    | 5, _, 6, _ => Cf.kit_f (Cf.cls_s lc6) ty6 s56 s55
    | 5, _, 7, _ => Cf.kit_f (Cf.cls_s lc7) ty7 s57 s55
    | 5, _, 8, _ => Cf.kit_f (Cf.cls_s lc8) ty8 s58 s55
    | 6, _, 0, _ => Cf.kit_f (Cf.cls_s lc0) ty0 s60 s66
    | 6, _, 1, _ => Cf.kit_f (Cf.cls_s lc1) ty1 s61 s66
    | 6, _, 2, _ => Cf.kit_f (Cf.cls_s lc2) ty2 s62 s66
    | 6, _, 3, _ => Cf.kit_f (Cf.cls_s lc3) ty3 s63 s66
    | 6, _, 4, _ => Cf.kit_f (Cf.cls_s lc4) ty4 s64 s66
    | 6, _, 5, _ => Cf.kit_f (Cf.cls_s lc5) ty5 s65 s66
    | 6, _, 6, _ => Cf.kit_t (Cf.cls_s lc6) ty6 s66
    | 6, _, 7, _ => Cf.kit_f (Cf.cls_s lc7) ty7 s67 s66
    | 6, _, 8, _ => Cf.kit_f (Cf.cls_s lc8) ty8 s68 s66
    | 7, _, 0, _ => Cf.kit_f (Cf.cls_s lc0) ty0 s70 s77
    | 7, _, 1, _ => Cf.kit_f (Cf.cls_s lc1) ty1 s71 s77
    | 7, _, 2, _ => Cf.kit_f (Cf.cls_s lc2) ty2 s72 s77
    | 7, _, 3, _ => Cf.kit_f (Cf.cls_s lc3) ty3 s73 s77
    | 7, _, 4, _ => Cf.kit_f (Cf.cls_s lc4) ty4 s74 s77
    | 7, _, 5, _ => Cf.kit_f (Cf.cls_s lc5) ty5 s75 s77
    | 7, _, 6, _ => Cf.kit_f (Cf.cls_s lc6) ty6 s76 s77
    | 7, _, 7, _ => Cf.kit_t (Cf.cls_s lc7) ty7 s77
    | 7, _, 8, _ => Cf.kit_f (Cf.cls_s lc8) ty8 s78 s77
    | 8, _, 0, _ => Cf.kit_f (Cf.cls_s lc0) ty0 s80 s88
    | 8, _, 1, _ => Cf.kit_f (Cf.cls_s lc1) ty1 s81 s88
    | 8, _, 2, _ => Cf.kit_f (Cf.cls_s lc2) ty2 s82 s88
    | 8, _, 3, _ => Cf.kit_f (Cf.cls_s lc3) ty3 s83 s88
    | 8, _, 4, _ => Cf.kit_f (Cf.cls_s lc4) ty4 s84 s88
    | 8, _, 5, _ => Cf.kit_f (Cf.cls_s lc5) ty5 s85 s88
    | 8, _, 6, _ => Cf.kit_f (Cf.cls_s lc6) ty6 s86 s88
    | 8, _, 7, _ => Cf.kit_f (Cf.cls_s lc7) ty7 s87 s88
    | 8, _, 8, _ => Cf.kit_t (Cf.cls_s lc8) ty8 s88
    kv := fun i hi => match i, hi with
    | 0, _ => Cf.kit_v sv0
    | 1, _ => Cf.kit_v sv1
    | 2, _ => Cf.kit_v sv2
    | 3, _ => Cf.kit_v sv3
    | 4, _ => Cf.kit_v sv4
    | 5, _ => Cf.kit_v sv5
    | 6, _ => Cf.kit_v sv6
    | 7, _ => Cf.kit_v sv7
    | 8, _ => Cf.kit_v sv8
    xm := fun i hi => match i, hi with
    | 0, _ => Cf.exm_t bS (Cf.cls_s lS) tS ss0
    | 1, _ => Cf.exm_t bS (Cf.cls_s lS) tS ss1
    | 2, _ => Cf.exm_t bS (Cf.cls_s lS) tS ss2
    | 3, _ => Cf.exm_t bS (Cf.cls_s lS) tS ss3
    | 4, _ => Cf.exm_t bS (Cf.cls_s lS) tS ss4
    | 5, _ => Cf.exm_t bS (Cf.cls_s lS) tS ss5
    | 6, _ => Cf.exm_t bS (Cf.cls_s lS) tS ss6
    | 7, _ => Cf.exm_t bS (Cf.cls_s lS) tS ss7
    | 8, _ => Cf.exm_t bS (Cf.cls_s lS) tS ss8
    z_isinstance := Z_isinstance
    z_ValueError := Z_ValueError
    z_len := Z_len }
  refine ⟨PySem.W.fnOf "law" "law" (defArgs sLaw) (defBody sLaw) (defScope sLaw) .none kV_fL dc_fL pm_fL an_fL cd_fL ct_fL, [(cO, PO), (cW, PW), (cH, PH), (cA, PA)], spLaw PH PA PO PW K, ?_, ?_, ?_, fun s u => .of_eq rfl, fun H a ns _ hT hS => ?_, fun base hb hn hT => ?_⟩
  · intro p hp
    simp only [List.mem_cons, List.not_mem_nil, or_false] at hp
    rcases hp with rfl | rfl | rfl | rfl
    · exact ow "has_opposites" (by simp) _ g_gO cO PO _ _ _ _ _ _ l_gO rfl rfl lc_O v_O
    · exact ow "is_wide" (by simp) _ g_gW cW PW _ _ _ _ _ _ l_gW rfl rfl lc_W v_W
    · exact ow "holds" (by simp) _ g_uH cH PH _ _ _ _ _ _ l_uH rfl rfl lc_H v_H
    · exact ow "all_hold" (by simp) _ g_uA cA PA _ _ _ _ _ _ l_uA rfl rfl lc_A v_A
  · intro p hp
    simp only [List.mem_cons, List.not_mem_nil, or_false] at hp
    rcases hp with rfl | rfl | rfl | rfl
    · exact np_O
    · exact np_W
    · exact np_H
    · exact np_A
  · intro p hp
    simp only [List.mem_cons, List.not_mem_nil, or_false] at hp
    rcases hp with rfl | rfl | rfl | rfl
    · exact PySem.W.codeHd_of_K X hd_O
    · exact PySem.W.codeHd_of_K X hd_W
    · exact PySem.W.codeHd_of_K X hd_H
    · exact PySem.W.codeHd_of_K X hd_A
  · exact ⟨a, ns, rfl, hS, ⟨#[], hT (cH, PH) (by simp), trivial⟩, ⟨#[], hT (cA, PA) (by simp), trivial⟩, ⟨#[], hT (cO, PO) (by simp), trivial⟩, ⟨#[], hT (cW, PW) (by simp), trivial⟩, fun _ => rfl⟩
  · have t_O := hT (cO, PO) (by simp)
    have T_O : TabB base mg cO PO := ⟨t_O.code, t_O.bm, t_O.gP⟩
    have t_W := hT (cW, PW) (by simp)
    have T_W : TabB base mg cW PW := ⟨t_W.code, t_W.bm, t_W.gP⟩
    have t_H := hT (cH, PH) (by simp)
    have T_H : TabB base mg cH PH := ⟨t_H.code, t_H.bm, t_H.gP⟩
    have t_A := hT (cA, PA) (by simp)
    have T_A : TabB base mg cA PA := ⟨t_A.code, t_A.bm, t_A.gP⟩
    have Ts : Zs mg := by constructor <;> assumption
    have Tc : Zc mg := by constructor <;> assumption
    have Td : Zd mg := by constructor <;> assumption
    have Tp : Zp mg := by constructor <;> assumption
    have Ty : Zy mg := by constructor <;> assumption
    have Tn : Zn mg := by constructor <;> assumption
    have Tt : Um.Zt mg := by constructor <;> assumption
    have Tk : Zk mg := by constructor <;> assumption
    have Tst : Se.Zt mg := by constructor <;> assumption
    have Tw : Zw mg := by constructor <;> assumption
    have Ttv : Tl.Zv mg := by constructor <;> assumption
    have Tpr : Ro.Zl mg := by constructor <;> assumption
    have T5 : Zt5 mg := by constructor <;> assumption
    have Thh : Wtr.Zh mg := by constructor <;> assumption
    have Tqq : Wtr.Zq mg := by constructor <;> assumption
    have GD : FnOk l.prog w K mg base CX0 2 fD _ ["feed", "many"] spDrw := ok_drw F_fD F_fM B_fM g_fM Z_len
    have GO : FnOk l.prog w K mg base CX0 1 fO _ ["script"] (spOpn K) := ok_opn F_fO Z_list
    have GT : FnOk l.prog w K mg base CX0 3 fT _ ["feed", "least", "most"] spThg := ok_thg F_fT Ts F_fD B_fD g_fD GD
    have GC : FnOk l.prog w K mg base CX0 3 fC _ ["feed", "things", "most"] spClm := ok_clm F_fC Ts F_fD B_fD g_fD GD
    have GB : FnOk l.prog w K mg base CX0 4 fB _ ["feed", "things", "most"] spBok := ok_bok F_fB Ts F_fD B_fD g_fD GD F_fC B_fC g_fC GC
    have GX : FnOk l.prog w K mg base CX0 1 fx _ ["one", "other", "k"] spSct := ok_sct F_fx Td
    have GW : FnOk l.prog w K mg base CX0 1 fW _ ["thing"] spWhG := ok_swG F_fW Ty
    have Gr : FnOk l.prog w K mg base CX0 2 fr _ ["book", "claims", "row"] spSrG := ok_srG F_fr Ty F_fW B_fW g_fW GW F_fx B_fx g_fx GX
    have Gr2 : FnOk l.prog w K mg base CX0 2 fr _ ["book", "claims", "row"] spSrw := sr_weak Gr
    have Gy : FnOk l.prog w K mg base CX0 3 fy _ ["book", "claims", "i", "j"] spSwy := ok_swy F_fy Ty F_fr B_fr g_fr Gr2
    have Gl : FnOk l.prog w K mg base CX0 4 fl _ ["feed", "book", "many"] spSld := ok_sld F_fl Ty F_fD B_fD g_fD GD F_fy B_fy g_fy Gy F_fr B_fr g_fr Gr2
    have GS : FnOk l.prog w K mg base CX0 5 fS _ ["feed"] spSca := ok_sca F_fS F_fD B_fD g_fD GD F_fT B_fT g_fT GT F_fB B_fB g_fB GB F_fl B_fl g_fl Gl
    have Gw : FnOk l.prog w K mg base CX0 1 fw _ ["thing"] spWhG := ok_whp F_fw Tc
    have Gh : FnOk l.prog w K mg base CX0 3 gO _ ["says"] (spHop PO) := ok_hop C_gO Tc T_O
    have Gm : FnOk l.prog w K mg base CX0 2 fm _ ["one", "other", "k"] spCme := ok_cme F_fm Tc M_MOST_THINGS F_fw B_fw g_fw (wh_weak Gw)
    have Gm2 : FnOk l.prog w K mg base CX0 2 fm _ ["one", "other", "k"] spCmN := ok_cmN F_fm Tc M_MOST_THINGS F_fw B_fw g_fw Gw
    have Gn1 : FnOk l.prog w K mg base CX0 4 fn _ ["one", "other", "k"] (spCon PO) := ok_con F_fn Tc F_fm B_fm g_fm Gm k_gO B_gO g_gO Gh
    have Gn2 : FnOk l.prog w K mg base CX0 4 fn _ ["one", "other", "k"] spCoN := ok_coN F_fn Tc F_fm B_fm g_fm Gm2 k_gO B_gO g_gO Gh
    have Gb : FnOk l.prog w K mg base CX0 2 fb _ ["thing", "many"] spNmG := ok_numG F_fb F_fw B_fw g_fw Gw
    have Gb2 : FnOk l.prog w K mg base CX0 2 fb _ ["thing", "many"] spNum := ok_num F_fb F_fw B_fw g_fw (wh_weak Gw)
    have GR : FnOk l.prog w K mg base CX0 5 fR _ ["book", "claims", "row"] (spRoG PO) := ok_roG F_fR Tp F_fb B_fb g_fb Gb F_fn B_fn g_fn (ok_or Gn1 Gn2)
    have GR2 : FnOk l.prog w K mg base CX0 5 fR _ ["book", "claims", "row"] (spRow PO) := ok_row F_fR Tp F_fb B_fb g_fb Gb2 F_fn B_fn g_fn Gn1
    have GA : FnOk l.prog w K mg base CX0 6 fA _ ["book", "thing"] (spAhG PO) := ok_ahG F_fA Tp M_MOST_ROWS F_fR B_fR g_fR GR
    have GA2 : FnOk l.prog w K mg base CX0 6 fA _ ["book", "thing"] (spAhe PO) := ok_ahe F_fA Tp M_MOST_ROWS F_fR B_fR g_fR GR2
    have GI : FnOk l.prog w K mg base CX0 7 fI _ ["book", "ladder"] (spClo PO) := ok_clo F_fI Tp F_fA B_fA g_fA GA2
    have GK : FnOk l.prog w K mg base CX0 8 fK _ ["book", "ladder"] (spChk PO) := ok_chk F_fK F_fI B_fI g_fI GI
    have GV : FnOk l.prog w K mg base CX0 1 fV _ ["ladder", "last"] spRun := ok_run F_fV Tn
    have GQ : FnOk l.prog w K mg base CX0 1 fQ _ ["row", "places"] spMov := ok_mov F_fQ
    have GZ : FnOk l.prog w K mg base CX0 2 fZ _ ["ladder", "last"] spTrt := ok_trt F_fZ Tt F_fV B_fV g_fV GV F_fQ B_fQ g_fQ GQ
    have Gwid : FnOk l.prog w K mg base CX0 3 gW _ ["one", "other"] (spWid PW) := ok_wid C_gW Tw T_W
    have JS : FnOk l.prog w K mg base CX0 1 uS _ ["say", "setting"] spShd := ok_shd F_uS Tst
    have JN : FnOk l.prog w K mg base CX0 2 uN _ ["number"] spSbn := ok_sbn F_uN Tst M_MOST_THINGS
    have JH : FnOk l.prog w K mg base CX0 3 uH _ ["claim", "setting"] (spHol PH) := ok_hol C_uH Tst T_H F_uS B_uS g_uS JS
    have JA : FnOk l.prog w K mg base CX0 5 uA _ ["book", "setting"] (spAhd PH PA) := ok_ahd C_uA Tst T_A k_uH B_uH g_uH JH
    have JF : FnOk l.prog w K mg base CX0 6 uF _ ["book", "claim"] (spFol PH PA) := ok_fol F_uF Tst M_MOST_THINGS F_uN B_uN g_uN JN F_uE B_uE g_uE C_uH.fn B_uH g_uH JH C_uA.fn B_uA g_uA JA
    have JM : FnOk l.prog w K mg base CX0 9 oM _ ["book", "ladder"] (spTrm PO) := ok_trm F_oM Tt F_fK B_fK g_fK GK F_fZ B_fZ g_fZ GZ
    have JD : FnOk l.prog w K mg base CX0 9 oN _ ["book", "ladder"] (spNed PO) := ok_ned F_oN Tn F_fK B_fK g_fK GK F_fV B_fV g_fV GV
    have JI : FnOk l.prog w K mg base CX0 7 oI _ ["book", "thing"] (spIsl PO) := ok_isl F_oI Tp F_fA B_fA g_fA GA2
    have Xr : FnOk l.prog w K mg base CX0 1 xr _ ["row", "pieces_ahead"] spPor := ok_por F_xr
    have XP : FnOk l.prog w K mg base CX0 9 xP _ ["book", "ladder"] (spPof PO) := ok_pof F_xP F_fK B_fK g_fK GK F_xr B_xr g_xr Xr
    have Xh : FnOk l.prog w K mg base CX0 1 xh _ ["row", "heights_ahead"] spHor := ok_hor F_xh Tp
    have XH : FnOk l.prog w K mg base CX0 9 xH _ ["book", "ladder"] (spHei PO) := ok_hei F_xH F_fK B_fK g_fK GK F_xh B_xh g_xh Xh
    have Xt : FnOk l.prog w K mg base CX0 1 xt _ ["row", "trees_ahead"] spTor := ok_tor F_xt
    have C3 : CG K mg c3 := ⟨xc3, PySem.W.mg_of X G a3, kp3, hs3, ty3⟩
    have XT : Gx2.FnX l.prog w K mg base (L2.CX l.prog w) 10 xT _ ["book", "ladder"] (spTof c3 PO) := ok_tof F_xT C3 M_MOST_PIECES M_MOST_WITHIN F_xP B_xP g_xP XP F_xH B_xH g_xH XH F_xt B_xt g_xt Xt
    have XTr : Gx2.FnX l.prog w K mg base CX0 11 fq _ ["act"] (spRef3 xT (fun i => [c0, c1, c2, c3, c4, c5, c6, c7, c8].getD i 0) (spTof c3 PO)) := ok_ref3 F_fq Tx k_xT B_xT XT (mono_tof c3 PO)
    have Ys : FnOk l.prog w K mg base CX0 13 ys _ ["feed", "book", "deep"] (Tl.spStt 10) := Tl.ok_stt F_ys Ttv B_ys g_ys F_fD B_fD g_fD GD F_fx B_fx g_fx GX 10
    have Yc : FnOk l.prog w K mg base CX0 14 yc _ ["feed"] Tl.spTr := Tl.ok_sts F_yc F_fD B_fD g_fD GD F_fT B_fT g_fT GT F_fB B_fB g_fB GB F_ys B_ys g_ys Ys
    have Yp : FnOk l.prog w K mg base CX0 41 yp _ ["tree", "rows", "numbers"] (Ro.spPut 40) := Ro.ok_put F_yp Tpr B_yp g_yp 40
    have Yr : FnOk l.prog w K mg base CX0 42 yr _ ["tree"] (Ro.spRof 40) := Ro.ok_rof F_yr F_yp B_yp g_yp 40 Yp
    have VF : FnOk l.prog w K mg base CX0 1 vF _ ["thing"] spFork := ok_fork F_vF T5
    have VA : FnOk l.prog w K mg base CX0 1 vA _ ["thing"] spLeaf := ok_leaf F_vA T5
    have VZ : FnOk l.prog w K mg base CX0 2 vZ _ ["thing"] spSize := ok_size F_vZ M_MOST_PIECES M_MOST_WITHIN F_vF B_vF g_vF VF
    have VQ : FnOk l.prog w K mg base CX0 45 vQ _ ["book", "thing"] (spCn PO 40) := ok_cn F_vQ T5 B_vQ g_vQ F_vF B_vF g_vF VF F_vA B_vA g_vA VA F_fb B_fb g_fb Gb2 F_fn B_fn g_fn Gn1 40
    have VI : FnOk l.prog w K mg base CX0 46 vI _ ["book", "thing"] (spIst PO) := ok_ist F_vI F_vZ B_vZ g_vZ VZ F_vQ B_vQ g_vQ VQ
    have VK : FnOk l.prog w K mg base CX0 46 vK _ ["book", "tree"] (spCn PO 40) := ok_cot F_vK F_vQ B_vQ g_vQ VQ
    have VU : FnOk l.prog w K mg base CX0 41 vU _ ["tree"] (spCts 40) := ok_cts F_vU B_vU g_vU 40
    have VP : FnOk l.prog w K mg base CX0 41 vP _ ["tree"] (spPcs 40) := ok_pcs F_vP B_vP g_vP 40
    have WI : FnOk l.prog w K mg base CX0 41 wI _ ["tree", "things"] (spIru 40) := ok_iru F_wI B_wI g_wI 40
    have WG : FnOk l.prog w K mg base CX0 42 wG _ ["tree"] spIrg := ok_irg F_wG F_wI B_wI g_wI WI
    have WJ : FnOk l.prog w K mg base CX0 5 wJ _ ["one", "other", "k"] (spJnd PO) := ok_jnd F_wJ F_fn B_fn g_fn Gn1
    have WU : FnOk l.prog w K mg base CX0 46 wU _ ["book", "tree", "says"] (spRgu PO 40) := ok_rgu F_wU B_wU g_wU F_wJ B_wJ g_wJ WJ 40
    have WR : FnOk l.prog w K mg base CX0 47 wR _ ["book", "tree"] (spMrg PO) := ok_mrg F_wR F_wU B_wU g_wU WU
    have JHe : FnOk l.prog w K mg base CX0 41 jh _ ["tree"] (Wtr.spShe 40) := Wtr.ok_she F_jh Thh B_jh g_jh 40
    have JTr : Gx2.FnX l.prog w K mg base CX0 48 jt _ ["book", "tree"] (Wtr.spTrr PO PW PH PA) := Wtr.ok_trr (C := c3) F_jt Tqq F_yr B_yr g_yr Yr F_vK B_vK g_vK VK F_oI B_oI g_oI JI F_fI B_fI g_fI GI F_oN B_oN g_oN JD F_xT B_xT g_xT (Bkp.cx_down XT) F_xP B_xP g_xP XP F_vP B_vP g_vP VP F_uF B_uF g_uF JF F_vU B_vU g_vU VU F_wR B_wR g_wR WR F_vI B_vI g_vI VI F_wG B_wG g_wG WG C_gW B_gW g_gW Gwid F_xH B_xH g_xH XH F_jh B_jh g_jh JHe
    have JLr : Gx2.FnX l.prog w K mg base CX0 43 jl _ ["book", "ladder"] (Wlr.spLrr PO) := Wlr.ok_lrr (cs := (fun i => [c0, c1, c2, c3, c4, c5, c6, c7, c8].getD i 0)) F_jl Tqq F_yr B_yr g_yr Yr F_fI B_fI g_fI GI F_xT B_xT g_xT (Bkp.cx_down XT) F_xP B_xP g_xP XP F_vP B_vP g_vP VP F_xH B_xH g_xH XH F_oM B_oM g_oM JM F_fq B_fq g_fq XTr
    exact ok_law F_fL Tk F_fO B_fO g_fO GO F_yc B_yc g_yc Yc F_fS B_fS g_fS GS F_jt B_jt g_jt JTr F_jl B_jl g_jl JLr
end K25

open PySem PySem.W PyProof.Rows
set_option maxHeartbeats 0 in
theorem PySem.Challenge.cw_sparecut_k25_whole_trees_and_ladders_holds : PySem.Challenge.rw_sparecut_k25_whole_trees_and_ladders.Holds := by
  w_on; o_law; k_head; (case hw => w_witness2)
  k_fill
  refine Eg.walk_own (l := PySem.Challenge.rw_sparecut_k25_whole_trees_and_ladders) (m := 63) (k := 49) (x := "script") ["has_opposites", "is_wide", "holds", "all_hold"] rfl (by decide) rfl ⟨rfl, by decide, by decide⟩ (by decide +kernel) (fun w h Y => PySem.W.kIn_of Y) ?F
  case F =>
    intro w mg fa h Y KX G hmg ow
    refine' K25.all_mk KX G hmg ow ?b_fM ?l_fM ?c_fM ?k_fM ?b_fD ?l_fD ?c_fD ?k_fD ?b_fO ?l_fO ?c_fO ?k_fO ?b_fW ?l_fW ?c_fW ?k_fW ?b_fT ?l_fT ?c_fT ?k_fT ?b_fC ?l_fC ?c_fC ?k_fC ?b_fB ?l_fB ?c_fB ?k_fB ?b_fx ?l_fx ?c_fx ?k_fx ?b_fr ?l_fr ?c_fr ?k_fr ?b_fS ?l_fS ?c_fS ?k_fS ?b_fy ?l_fy ?c_fy ?k_fy ?b_fl ?l_fl ?c_fl ?k_fl ?b_fL ?l_fL ?c_fL ?k_fL ?b_fq ?l_fq ?c_fq ?k_fq ?b_fw ?l_fw ?c_fw ?k_fw ?b_fm ?l_fm ?c_fm ?k_fm ?b_fn ?l_fn ?c_fn ?k_fn ?b_fb ?l_fb ?c_fb ?k_fb ?b_fR ?l_fR ?c_fR ?k_fR ?b_fA ?l_fA ?c_fA ?k_fA ?b_fI ?l_fI ?c_fI ?k_fI ?b_fK ?l_fK ?c_fK ?k_fK ?b_fV ?l_fV ?c_fV ?k_fV ?b_fQ ?l_fQ ?c_fQ ?k_fQ ?b_fZ ?l_fZ ?c_fZ ?k_fZ ?b_gO ?l_gO ?c_gO ?k_gO ?b_gW ?l_gW ?c_gW ?k_gW ?b_uS ?l_uS ?c_uS ?k_uS ?b_uH ?l_uH ?c_uH ?k_uH ?b_uA ?l_uA ?c_uA ?k_uA ?b_uN ?l_uN ?c_uN ?k_uN ?b_uE ?l_uE ?c_uE ?k_uE ?b_uF ?l_uF ?c_uF ?k_uF ?b_oM ?l_oM ?c_oM ?k_oM ?b_oN ?l_oN ?c_oN ?k_oN ?b_oI ?l_oI ?c_oI ?k_oI ?b_xr ?l_xr ?c_xr ?k_xr ?b_xP ?l_xP ?c_xP ?k_xP ?b_xt ?l_xt ?c_xt ?k_xt ?b_xT ?l_xT ?c_xT ?k_xT ?b_xh ?l_xh ?c_xh ?k_xh ?b_xH ?l_xH ?c_xH ?k_xH ?b_yp ?l_yp ?c_yp ?k_yp ?b_yr ?l_yr ?c_yr ?k_yr ?b_ys ?l_ys ?c_ys ?k_ys ?b_yc ?l_yc ?c_yc ?k_yc ?b_vF ?l_vF ?c_vF ?k_vF ?b_vA ?l_vA ?c_vA ?k_vA ?b_vZ ?l_vZ ?c_vZ ?k_vZ ?b_vQ ?l_vQ ?c_vQ ?k_vQ ?b_vI ?l_vI ?c_vI ?k_vI ?b_vK ?l_vK ?c_vK ?k_vK ?b_vU ?l_vU ?c_vU ?k_vU ?b_vP ?l_vP ?c_vP ?k_vP ?b_wI ?l_wI ?c_wI ?k_wI ?b_wG ?l_wG ?c_wG ?k_wG ?b_wJ ?l_wJ ?c_wJ ?k_wJ ?b_wU ?l_wU ?c_wU ?k_wU ?b_wR ?l_wR ?c_wR ?k_wR ?b_jh ?l_jh ?c_jh ?k_jh ?b_jt ?l_jt ?c_jt ?k_jt ?b_jl ?l_jl ?c_jl ?k_jl ?lc_O ?v_O ?hd_O ?np_O ?lc_W ?v_W ?hd_W ?np_W ?lc_H ?v_H ?hd_H ?np_H ?lc_A ?v_A ?hd_A ?np_A ?b_MOST_THINGS ?b_MOST_ROWS ?b_MOST_PIECES ?b_MOST_WITHIN ?z_zip ?z_range ?z_isinstance ?z_len ?z_list ?z_min ?z_max ?z_tuple ?z_sorted ?z_all ?z_any ?z_bool ?z_int ?z_repr ?z_abs ?z_set ?z_enumerate ?z_str ?z_ValueError ?z_reversed ?aS ?bS ?hn ?ht ?lS ?tS ?a0 ?hg0 ?hk0 ?hs0 ?hd0 ?ha0 ?hm0 ?lc0 ?ty0 ?ss0 ?sv0 ?a1 ?hg1 ?hk1 ?hs1 ?hd1 ?ha1 ?hm1 ?lc1 ?ty1 ?ss1 ?sv1 ?a2 ?hg2 ?hk2 ?hs2 ?hd2 ?ha2 ?hm2 ?lc2 ?ty2 ?ss2 ?sv2 ?a3 ?hg3 ?hk3 ?hs3 ?hd3 ?ha3 ?hm3 ?lc3 ?ty3 ?ss3 ?sv3 ?a4 ?hg4 ?hk4 ?hs4 ?hd4 ?ha4 ?hm4 ?lc4 ?ty4 ?ss4 ?sv4 ?a5 ?hg5 ?hk5 ?hs5 ?hd5 ?ha5 ?hm5 ?lc5 ?ty5 ?ss5 ?sv5 ?a6 ?hg6 ?hk6 ?hs6 ?hd6 ?ha6 ?hm6 ?lc6 ?ty6 ?ss6 ?sv6 ?a7 ?hg7 ?hk7 ?hs7 ?hd7 ?ha7 ?hm7 ?lc7 ?ty7 ?ss7 ?sv7 ?a8 ?hg8 ?hk8 ?hs8 ?hd8 ?ha8 ?hm8 ?lc8 ?ty8 ?ss8 ?sv8 ?s00 ?s01 ?s02 ?s03 ?s04 ?s05 ?s06 ?s07 ?s08 ?s10 ?s11 ?s12 ?s13 ?s14 ?s15 ?s16 ?s17 ?s18 ?s20 ?s21 ?s22 ?s23 ?s24 ?s25 ?s26 ?s27 ?s28 ?s30 ?s31 ?s32 ?s33 ?s34 ?s35 ?s36 ?s37 ?s38 ?s40 ?s41 ?s42 ?s43 ?s44 ?s45 ?s46 ?s47 ?s48 ?s50 ?s51 ?s52 ?s53 ?s54 ?s55 ?s56 ?s57 ?s58 ?s60 ?s61 ?s62 ?s63 ?s64 ?s65 ?s66 ?s67 ?s68 ?s70 ?s71 ?s72 ?s73 ?s74 ?s75 ?s76 ?s77 ?s78 ?s80 ?s81 ?s82 ?s83 ?s84 ?s85 ?s86 ?s87 ?s88 ?xc3 ?kp3
    (case b_fM => k_is)
    (case l_fM => k_is)
    (case c_fM => k_is)
    (case k_fM => k_is)
    (case b_fD => k_is)
    (case l_fD => k_is)
    (case c_fD => k_is)
    (case k_fD => k_is)
    (case b_fO => k_is)
    (case l_fO => k_is)
    (case c_fO => k_is)
    (case k_fO => k_is)
    (case b_fW => k_is)
    (case l_fW => k_is)
    (case c_fW => k_is)
    (case k_fW => k_is)
    (case b_fT => k_is)
    (case l_fT => k_is)
    (case c_fT => k_is)
    (case k_fT => k_is)
    (case b_fC => k_is)
    (case l_fC => k_is)
    (case c_fC => k_is)
    (case k_fC => k_is)
    (case b_fB => k_is)
    (case l_fB => k_is)
    (case c_fB => k_is)
    (case k_fB => k_is)
    (case b_fx => k_is)
    (case l_fx => k_is)
    (case c_fx => k_is)
    (case k_fx => k_is)
    (case b_fr => k_is)
    (case l_fr => k_is)
    (case c_fr => k_is)
    (case k_fr => k_is)
    (case b_fS => k_is)
    (case l_fS => k_is)
    (case c_fS => k_is)
    (case k_fS => k_is)
    (case b_fy => k_is)
    (case l_fy => k_is)
    (case c_fy => k_is)
    (case k_fy => k_is)
    (case b_fl => k_is)
    (case l_fl => k_is)
    (case c_fl => k_is)
    (case k_fl => k_is)
    (case b_fL => k_is)
    (case l_fL => k_is)
    (case c_fL => k_is)
    (case k_fL => k_is)
    (case b_fq => k_is)
    (case l_fq => k_is)
    (case c_fq => k_is)
    (case k_fq => k_is)
    (case b_fw => k_is)
    (case l_fw => k_is)
    (case c_fw => k_is)
    (case k_fw => k_is)
    (case b_fm => k_is)
    (case l_fm => k_is)
    (case c_fm => k_is)
    (case k_fm => k_is)
    (case b_fn => k_is)
    (case l_fn => k_is)
    (case c_fn => k_is)
    (case k_fn => k_is)
    (case b_fb => k_is)
    (case l_fb => k_is)
    (case c_fb => k_is)
    (case k_fb => k_is)
    (case b_fR => k_is)
    (case l_fR => k_is)
    (case c_fR => k_is)
    (case k_fR => k_is)
    (case b_fA => k_is)
    (case l_fA => k_is)
    (case c_fA => k_is)
    (case k_fA => k_is)
    (case b_fI => k_is)
    (case l_fI => k_is)
    (case c_fI => k_is)
    (case k_fI => k_is)
    (case b_fK => k_is)
    (case l_fK => k_is)
    (case c_fK => k_is)
    (case k_fK => k_is)
    (case b_fV => k_is)
    (case l_fV => k_is)
    (case c_fV => k_is)
    (case k_fV => k_is)
    (case b_fQ => k_is)
    (case l_fQ => k_is)
    (case c_fQ => k_is)
    (case k_fQ => k_is)
    (case b_fZ => k_is)
    (case l_fZ => k_is)
    (case c_fZ => k_is)
    (case k_fZ => k_is)
    (case b_gO => k_is)
    (case l_gO => k_is)
    (case c_gO => k_is)
    (case k_gO => k_is)
    (case b_gW => k_is)
    (case l_gW => k_is)
    (case c_gW => k_is)
    (case k_gW => k_is)
    (case b_uS => k_is)
    (case l_uS => k_is)
    (case c_uS => k_is)
    (case k_uS => k_is)
    (case b_uH => k_is)
    (case l_uH => k_is)
    (case c_uH => k_is)
    (case k_uH => k_is)
    (case b_uA => k_is)
    (case l_uA => k_is)
    (case c_uA => k_is)
    (case k_uA => k_is)
    (case b_uN => k_is)
    (case l_uN => k_is)
    (case c_uN => k_is)
    (case k_uN => k_is)
    (case b_uE => k_is)
    (case l_uE => k_is)
    (case c_uE => k_is)
    (case k_uE => k_is)
    (case b_uF => k_is)
    (case l_uF => k_is)
    (case c_uF => k_is)
    (case k_uF => k_is)
    (case b_oM => k_is)
    (case l_oM => k_is)
    (case c_oM => k_is)
    (case k_oM => k_is)
    (case b_oN => k_is)
    (case l_oN => k_is)
    (case c_oN => k_is)
    (case k_oN => k_is)
    (case b_oI => k_is)
    (case l_oI => k_is)
    (case c_oI => k_is)
    (case k_oI => k_is)
    (case b_xr => k_is)
    (case l_xr => k_is)
    (case c_xr => k_is)
    (case k_xr => k_is)
    (case b_xP => k_is)
    (case l_xP => k_is)
    (case c_xP => k_is)
    (case k_xP => k_is)
    (case b_xt => k_is)
    (case l_xt => k_is)
    (case c_xt => k_is)
    (case k_xt => k_is)
    (case b_xT => k_is)
    (case l_xT => k_is)
    (case c_xT => k_is)
    (case k_xT => k_is)
    (case b_xh => k_is)
    (case l_xh => k_is)
    (case c_xh => k_is)
    (case k_xh => k_is)
    (case b_xH => k_is)
    (case l_xH => k_is)
    (case c_xH => k_is)
    (case k_xH => k_is)
    (case b_yp => k_is)
    (case l_yp => k_is)
    (case c_yp => k_is)
    (case k_yp => k_is)
    (case b_yr => k_is)
    (case l_yr => k_is)
    (case c_yr => k_is)
    (case k_yr => k_is)
    (case b_ys => k_is)
    (case l_ys => k_is)
    (case c_ys => k_is)
    (case k_ys => k_is)
    (case b_yc => k_is)
    (case l_yc => k_is)
    (case c_yc => k_is)
    (case k_yc => k_is)
    (case b_vF => k_is)
    (case l_vF => k_is)
    (case c_vF => k_is)
    (case k_vF => k_is)
    (case b_vA => k_is)
    (case l_vA => k_is)
    (case c_vA => k_is)
    (case k_vA => k_is)
    (case b_vZ => k_is)
    (case l_vZ => k_is)
    (case c_vZ => k_is)
    (case k_vZ => k_is)
    (case b_vQ => k_is)
    (case l_vQ => k_is)
    (case c_vQ => k_is)
    (case k_vQ => k_is)
    (case b_vI => k_is)
    (case l_vI => k_is)
    (case c_vI => k_is)
    (case k_vI => k_is)
    (case b_vK => k_is)
    (case l_vK => k_is)
    (case c_vK => k_is)
    (case k_vK => k_is)
    (case b_vU => k_is)
    (case l_vU => k_is)
    (case c_vU => k_is)
    (case k_vU => k_is)
    (case b_vP => k_is)
    (case l_vP => k_is)
    (case c_vP => k_is)
    (case k_vP => k_is)
    (case b_wI => k_is)
    (case l_wI => k_is)
    (case c_wI => k_is)
    (case k_wI => k_is)
    (case b_wG => k_is)
    (case l_wG => k_is)
    (case c_wG => k_is)
    (case k_wG => k_is)
    (case b_wJ => k_is)
    (case l_wJ => k_is)
    (case c_wJ => k_is)
    (case k_wJ => k_is)
    (case b_wU => k_is)
    (case l_wU => k_is)
    (case c_wU => k_is)
    (case k_wU => k_is)
    (case b_wR => k_is)
    (case l_wR => k_is)
    (case c_wR => k_is)
    (case k_wR => k_is)
    (case b_jh => k_is)
    (case l_jh => k_is)
    (case c_jh => k_is)
    (case k_jh => k_is)
    (case b_jt => k_is)
    (case l_jt => k_is)
    (case c_jt => k_is)
    (case k_jt => k_is)
    (case b_jl => k_is)
    (case l_jl => k_is)
    (case c_jl => k_is)
    (case k_jl => k_is)
    (case lc_O => k_is)
    (case v_O => exact rfl)
    (case hd_O => kernel_rfl)
    (case np_O => kernel_rfl)
    (case lc_W => k_is)
    (case v_W => exact rfl)
    (case hd_W => kernel_rfl)
    (case np_W => kernel_rfl)
    (case lc_H => k_is)
    (case v_H => exact rfl)
    (case hd_H => kernel_rfl)
    (case np_H => kernel_rfl)
    (case lc_A => k_is)
    (case v_A => exact rfl)
    (case hd_A => kernel_rfl)
    (case np_A => kernel_rfl)
    (case b_MOST_THINGS => k_is)
    (case b_MOST_ROWS => k_is)
    (case b_MOST_PIECES => k_is)
    (case b_MOST_WITHIN => k_is)
    (case z_zip => k_is)
    (case z_range => k_is)
    (case z_isinstance => k_is)
    (case z_len => k_is)
    (case z_list => k_is)
    (case z_min => k_is)
    (case z_max => k_is)
    (case z_tuple => k_is)
    (case z_sorted => k_is)
    (case z_all => k_is)
    (case z_any => k_is)
    (case z_bool => k_is)
    (case z_int => k_is)
    (case z_repr => k_is)
    (case z_abs => k_is)
    (case z_set => k_is)
    (case z_enumerate => k_is)
    (case z_str => k_is)
    (case z_ValueError => k_is)
    (case z_reversed => k_is)
    (case aS => k_is)
    (case bS => k_is)
    (case hn => k_is)
    (case ht => k_is)
    (case lS => k_is)
    (case tS => k_is)
    (case a0 => k_is)
    (case hg0 => k_is)
    (case hk0 => k_is)
    (case hs0 => k_is)
    (case hd0 => k_is)
    (case ha0 => k_is)
    (case hm0 => k_is)
    (case lc0 => k_is)
    (case ty0 => k_is)
    (case ss0 => k_is)
    (case sv0 => k_is)
    (case a1 => k_is)
    (case hg1 => k_is)
    (case hk1 => k_is)
    (case hs1 => k_is)
    (case hd1 => k_is)
    (case ha1 => k_is)
    (case hm1 => k_is)
    (case lc1 => k_is)
    (case ty1 => k_is)
    (case ss1 => k_is)
    (case sv1 => k_is)
    (case a2 => k_is)
    (case hg2 => k_is)
    (case hk2 => k_is)
    (case hs2 => k_is)
    (case hd2 => k_is)
    (case ha2 => k_is)
    (case hm2 => k_is)
    (case lc2 => k_is)
    (case ty2 => k_is)
    (case ss2 => k_is)
    (case sv2 => k_is)
    (case a3 => k_is)
    (case hg3 => k_is)
    (case hk3 => k_is)
    (case hs3 => k_is)
    (case hd3 => k_is)
    (case ha3 => k_is)
    (case hm3 => k_is)
    (case lc3 => k_is)
    (case ty3 => k_is)
    (case ss3 => k_is)
    (case sv3 => k_is)
    (case a4 => k_is)
    (case hg4 => k_is)
    (case hk4 => k_is)
    (case hs4 => k_is)
    (case hd4 => k_is)
    (case ha4 => k_is)
    (case hm4 => k_is)
    (case lc4 => k_is)
    (case ty4 => k_is)
    (case ss4 => k_is)
    (case sv4 => k_is)
    (case a5 => k_is)
    (case hg5 => k_is)
    (case hk5 => k_is)
    (case hs5 => k_is)
    (case hd5 => k_is)
    (case ha5 => k_is)
    (case hm5 => k_is)
    (case lc5 => k_is)
    (case ty5 => k_is)
    (case ss5 => k_is)
    (case sv5 => k_is)
    (case a6 => k_is)
    (case hg6 => k_is)
    (case hk6 => k_is)
    (case hs6 => k_is)
    (case hd6 => k_is)
    (case ha6 => k_is)
    (case hm6 => k_is)
    (case lc6 => k_is)
    (case ty6 => k_is)
    (case ss6 => k_is)
    (case sv6 => k_is)
    (case a7 => k_is)
    (case hg7 => k_is)
    (case hk7 => k_is)
    (case hs7 => k_is)
    (case hd7 => k_is)
    (case ha7 => k_is)
    (case hm7 => k_is)
    (case lc7 => k_is)
    (case ty7 => k_is)
    (case ss7 => k_is)
    (case sv7 => k_is)
    (case a8 => k_is)
    (case hg8 => k_is)
    (case hk8 => k_is)
    (case hs8 => k_is)
    (case hd8 => k_is)
    (case ha8 => k_is)
    (case hm8 => k_is)
    (case lc8 => k_is)
    (case ty8 => k_is)
    (case ss8 => k_is)
    (case sv8 => k_is)
    (case s00 => k_is)
    (case s01 => k_is)
    (case s02 => k_is)
    (case s03 => k_is)
    (case s04 => k_is)
    (case s05 => k_is)
    (case s06 => k_is)
    (case s07 => k_is)
    (case s08 => k_is)
    (case s10 => k_is)
    (case s11 => k_is)
    (case s12 => k_is)
    (case s13 => k_is)
    (case s14 => k_is)
    (case s15 => k_is)
    (case s16 => k_is)
    (case s17 => k_is)
    (case s18 => k_is)
    (case s20 => k_is)
    (case s21 => k_is)
    (case s22 => k_is)
    (case s23 => k_is)
    (case s24 => k_is)
    (case s25 => k_is)
    (case s26 => k_is)
    (case s27 => k_is)
    (case s28 => k_is)
    (case s30 => k_is)
    (case s31 => k_is)
    (case s32 => k_is)
    (case s33 => k_is)
    (case s34 => k_is)
    (case s35 => k_is)
    (case s36 => k_is)
    (case s37 => k_is)
    (case s38 => k_is)
    (case s40 => k_is)
    (case s41 => k_is)
    (case s42 => k_is)
    (case s43 => k_is)
    (case s44 => k_is)
    (case s45 => k_is)
    (case s46 => k_is)
    (case s47 => k_is)
    (case s48 => k_is)
    (case s50 => k_is)
    (case s51 => k_is)
    (case s52 => k_is)
    (case s53 => k_is)
    (case s54 => k_is)
    (case s55 => k_is)
    (case s56 => k_is)
    (case s57 => k_is)
    (case s58 => k_is)
    (case s60 => k_is)
    (case s61 => k_is)
    (case s62 => k_is)
    (case s63 => k_is)
    (case s64 => k_is)
    (case s65 => k_is)
    (case s66 => k_is)
    (case s67 => k_is)
    (case s68 => k_is)
    (case s70 => k_is)
    (case s71 => k_is)
    (case s72 => k_is)
    (case s73 => k_is)
    (case s74 => k_is)
    (case s75 => k_is)
    (case s76 => k_is)
    (case s77 => k_is)
    (case s78 => k_is)
    (case s80 => k_is)
    (case s81 => k_is)
    (case s82 => k_is)
    (case s83 => k_is)
    (case s84 => k_is)
    (case s85 => k_is)
    (case s86 => k_is)
    (case s87 => k_is)
    (case s88 => k_is)
    (case xc3 => k_exc)
    (case kp3 => k_is)
