import PyProof.Rows.All
import Wide.All
import OpenK.AllK
import Wide.FinOn
import PyProof.EqAt
import PyProof.EqKinds
import PyProof.TupleCall
import PySem.Challenge.RW_sparecut_k81_no_books_texts
import HandS.ForMost
import HandS.Evl
import HandS.Conv
import HandS.Exc
import HandS.ExcOwn
import HandS.ExcInit
import HandS.ExcValue
import HandS.ExcIs
import KE.KExcIs
import KE.KxText
import HandS.AnyAll
import HandS.GenOver
import HandS.SortInts
import HandS.TupAny
import HandS.TupMul
import HandS.Strs
import HandS.IsInst
import HandS.EndTab
import HandS.EndOwn
import HandS.SetFor
import KE.KNestM
import KE.GoesEnum
import HandS.FStr
import HandS.RaiseMore
import KE.DatumOrd
import HandS.Zip
import HandS.Style
import HandS.RevRange
import HandS.TryOnly
import HandS.WordsExc
import KE.LtData
import HandS.TupLe
import HandS.ExcField
import HandS.Dict
import HandS.More
import HandS.WordsDict
import HandS.DictComp
import HandS.Deep
import HandS.Text
import HandS.StrMore
import KE.IntTextLaws
set_option Elab.async false
set_option linter.all false
set_option maxRecDepth 100000
set_option maxHeartbeats 2000000
namespace Nw
open PySem PySem.Spec PyProof.Rows L2
/-! ### readings that hide the heap: what is new is told by its facts alone -/
theorem same_new {H : Hp} {p : Addr} {o : HO} (h : H p = none) : Same H (upd H p o) := fun b x e => by
  rw [upd_ne (ne_of_none e h)]
  exact e
theorem sqt {K : PySem.W.Frag} {H H' : Hp} {a : Addr} {xs : List V} (e : Same H H') (h : SqT K H a xs) : SqT K H' a xs := by
  rcases h with (h | ⟨o, h⟩) | h
  · exact .inl (.inl (e _ _ h))
  · exact .inl (.inr ⟨o, e _ _ h⟩)
  · exact .inr h
/-- a new object o at a place of its own -/
def New (H : Hp) (o : HO) (Q : VK) : Prop := ∀ p H2, H p = none → Same H H2 → H2 p = some o → (∀ b, b ≠ p → H2 b = H b) → Q (.ref p) H2
theorem New.to {H : Hp} {o : HO} {Q : VK} (h : New H o Q) : ∀ p, H p = none → Q (.ref p) (upd H p o) := fun p n => h p _ n (same_new n) upd_same fun b nb => upd_ne nb
section
variable {X : Cx} {e : Expr} {es : List Expr} {t t' : TE} {ta : TA} {pos : Pos}
theorem pe_weak (h : PE X e t) (i : ∀ σ H Q, t' σ H Q → t σ H Q) : PE X e t' := ⟨fun pins s σ H Q I q => h.run pins s σ H Q I (i σ H Q q)⟩
theorem op_weak {f : Value → Value → Sem Value} {r r' : R2} (h : OpR X f r) (i : ∀ x y H Q, r' x y H Q → r x y H Q) : OpR X f r' := fun pins s σ H x y v u Q I rx ry q => h pins s σ H x y v u Q I rx ry (i x y H Q q)
theorem call_weak {f : Value} {r r' : List V → Hp → VK → Prop} (h : CallR X f r) (i : ∀ xs H Q, r' xs H Q → r xs H Q) : CallR X f r' := fun pins s σ H xs us Q I rx q => h pins s σ H xs us Q I rx (i xs H Q q)
theorem mt_weak {id : String} {r r' : V → List V → Hp → VK → Prop} (h : MtR X id r) (i : ∀ x xs H Q, r' x xs H Q → r x xs H Q) : MtR X id r' := fun pins s σ H x xs v us Q I rx rs q => h pins s σ H x xs v us Q I rx rs (i x xs H Q q)
theorem sl_weak {r r' : V → Option Int → Option Int → Hp → VK → Prop} (h : SlR X r) (i : ∀ x lo hi H Q, r' x lo hi H Q → r x lo hi H Q) : SlR X r' := fun pins s σ H x v vl vu lo hi sl Q I rx a b c q => h pins s σ H x v vl vu lo hi sl Q I rx a b c (i x lo hi H Q q)
/-- what follows may be asked for less -/
def clA (t : TA) : TA := fun σ H R => ∃ R' : List V → Hp → Prop, (∀ xs H1, R' xs H1 → R xs H1) ∧ t σ H R'
theorem pa_cl (h : PA X es ta) : PA X es (clA ta) := ⟨fun ps pins s σ H Q I ⟨R', i, q⟩ => thn (h.run ps pins s σ H R' I q) fun us s1 ⟨vs, H1, I1, r1, q1⟩ => ⟨vs, H1, I1, r1, i vs H1 q1⟩⟩
def clE (t : TE) : TE := fun σ H R => ∃ R' : VK, (∀ v H1, R' v H1 → R v H1) ∧ t σ H R'
theorem pe_cl (h : PE X e t) : PE X e (clE t) := ⟨fun pins s σ H Q I ⟨R', i, q⟩ => thn (h.run pins s σ H R' I q) fun u s1 ⟨v, H1, I1, r1, q1⟩ => ⟨v, H1, I1, r1, i v H1 q1⟩⟩
def nLst (t : TA) : TE := fun σ H Q => t σ H fun xs H1 => xs.length ≤ sizeLine ∧ New H1 (.lst xs) Q
def nTup (t : TA) : TE := fun σ H Q => t σ H fun xs H1 => xs.length ≤ sizeLine ∧ New H1 (.tup xs) Q
theorem pe_lstN (h : PA X es ta) : PE X (.List es pos) (nLst ta) := pe_weak (pe_lst (pa_cl h)) fun _ _ _ q => ⟨_, fun _ _ z => ⟨z.1, z.2.to⟩, q⟩
theorem pe_tupN {x1} (h : PA X es ta) : PE X (.Tuple es x1 pos) (nTup ta) := pe_weak (pe_tup (pa_cl h)) fun _ _ _ q => ⟨_, fun _ _ z => ⟨z.1, z.2.to⟩, q⟩
/-- xs + ys (lists) -/
def rCatN : R2 := fun x y H Q => ∃ p q xs ys, x = .ref p ∧ y = .ref q ∧ H p = some (.lst xs) ∧ H q = some (.lst ys) ∧ xs.length + ys.length ≤ sizeLine ∧ New H (.lst (xs ++ ys)) Q
theorem op_catN : OpR X (binaryOp .Add) rCatN := op_weak op_cat fun x y H Q ⟨p, q, xs, ys, h1, h2, h3, h4, h5, h6⟩ => ⟨p, q, xs, ys, h1, h2, h3, h4, h5, h6.to⟩
/-- a tuple of xs, new or not -/
def ResT (H : Hp) (xs : List V) (Q : VK) : Prop := ∀ p H2, Same H H2 → H2 p = some (.tup xs) → Q (.ref p) H2
theorem call_list_ofN : CallR X (.type "list") (fun xs H Q => ∃ p ys, xs = [.ref p] ∧ (SqL X.K H p ys ∨ SqT X.K H p ys) ∧ New H (.lst ys) Q) := call_weak call_list_of fun _ _ _ ⟨p, ys, h1, h2, h3⟩ => ⟨p, ys, h1, h2, h3.to⟩
theorem call_tuple_ofN : CallR X (.type "tuple") (fun xs H Q => ∃ p ys, xs = [.ref p] ∧ SqL X.K H p ys ∧ New H (.tup ys) Q) := call_weak call_tuple_of fun _ _ _ ⟨p, ys, h1, h2, h3⟩ => ⟨p, ys, h1, .inl ⟨h2, h3.to⟩⟩
theorem sl_listN : SlR X (fun x lo hi H Q => ∃ a xs, x = .ref a ∧ SqL X.K H a xs ∧ New H (.lst (cutV xs lo hi)) Q) := sl_weak sl_list fun _ _ _ _ _ ⟨a, xs, h1, h2, h3⟩ => ⟨a, xs, h1, h2, h3.to⟩
end
/-! ### data by its values -/
theorem dp_bls {K : PySem.W.Frag} {H : Hp} : ∀ bs : List Bool, DpAll K H (bs.map V.bl) (bs.map PyData.bool)
  | [] => .nil
  | b :: r => .cons (.bl b) (dp_bls r)
theorem dp_ints {K : PySem.W.Frag} {H : Hp} : ∀ ns : List Int, DpAll K H (ns.map V.int) (ns.map PyData.int)
  | [] => .nil
  | b :: r => .cons (.int b) (dp_ints r)
/-- flat data: numbers, truths, None -/
def flatD : PyData → Bool
  | .none | .bool _ | .int _ => true
  | _ => false
theorem flat_lay : ∀ ds : List PyData, ds.all flatD = true → PyData.canLayAll0 ds = true
  | [], _ => rfl
  | d :: r, h => by
    rw [List.all_cons, Bool.and_eq_true] at h
    show (PyData.canLay0 d && PyData.canLayAll0 r) = true
    rw [flat_lay r h.2, Bool.and_true]
    cases d <;> first | rfl | exact Bool.noConfusion h.1
theorem flat_depth : ∀ ds : List PyData, ds.all flatD = true → PyData.depthAll ds ≤ 1
  | [], _ => by decide
  | d :: r, h => by
    rw [List.all_cons, Bool.and_eq_true] at h
    have ih := flat_depth r h.2
    have hd : PyData.depth d ≤ 1 := by
      cases d <;> first | decide | exact Bool.noConfusion h.1 | exact Nat.zero_le _ | exact Nat.le_refl _
    show Nat.max (PyData.depth d) (PyData.depthAll r) ≤ 1
    exact Nat.max_le.mpr ⟨hd, ih⟩
theorem shaped_list {ds : List PyData} (h : ds.all flatD = true) : SeqAt.shaped (.list ds) = true := by
  have e := flat_depth ds h
  have e2 : PyData.depth (.list ds) ≤ 64 := by
    show PyData.depthAll ds + 1 ≤ 64
    omega
  show (PyData.canLayAll0 ds && decide (PyData.depth (.list ds) ≤ 64)) = true
  rw [flat_lay ds h, decide_eq_true e2]
  rfl
theorem shaped_tuple {ds : List PyData} (h : ds.all flatD = true) : SeqAt.shaped (.tuple ds) = true := by
  have e := flat_depth ds h
  have e2 : PyData.depth (.tuple ds) ≤ 64 := by
    show PyData.depthAll ds + 1 ≤ 64
    omega
  show (PyData.canLayAll0 ds && decide (PyData.depth (.tuple ds) ≤ 64)) = true
  rw [flat_lay ds h, decide_eq_true e2]
  rfl
theorem flat_bls (bs : List Bool) : (bs.map PyData.bool).all flatD = true := by
  rw [List.all_map, List.all_eq_true]
  exact fun _ _ => rfl
theorem flat_ints (ns : List Int) : (ns.map PyData.int).all flatD = true := by
  rw [List.all_map, List.all_eq_true]
  exact fun _ _ => rfl
theorem eqv_self {d : PyData} (h : SeqAt.shaped d = true) : PyData.eqv d d = true := SeqAt.eqv_refl d (SeqAt.canLay_of_shaped h)
end Nw
namespace Nw
open PySem PySem.Spec PyProof.Rows L2
section
variable {X : Cx}
theorem cr_sortedN : CallR X (.builtin "sorted") (fun vs H Q => ∃ (a : Addr) (ns : List Int), vs = [V.ref a] ∧ SqL X.K H a (ns.map V.int) ∧ ∀ ns' : List Int, ns'.Perm ns → ns'.Pairwise (· ≤ ·) → New H (.lst (ns'.map V.int)) Q) :=
  call_weak cr_sortedI fun _ _ _ ⟨a, ns, h1, h2, h3⟩ => ⟨a, ns, h1, h2, fun ns' p hp hs np => (h3 ns' hp hs).to p np⟩
theorem cutV_all {xs : List V} {lo hi : Option Int} (h : HT.sIx xs.length 0 lo = 0 ∧ HT.sIx xs.length xs.length hi = xs.length) : cutV xs lo hi = xs := by
  unfold cutV
  rw [h.1, h.2]
  exact List.take_length
theorem sl_tupN : SlR X (fun x lo hi H Q => ∃ a xs, x = .ref a ∧ H a = some (.tup xs) ∧ ResT H (cutV xs lo hi) Q) := sl_weak sl_tupA fun _ lo hi H Q ⟨a, xs, h1, h2, h3⟩ =>
  ⟨a, xs, h1, .of h2, fun z => h3 a H (Same.refl H) (by rw [cutV_all z]; exact h2), fun _ p np => h3 p _ (same_new np) upd_same⟩
theorem op_catTN : OpR X (binaryOp .Add) (fun x y H Q => ∃ a b xs ys, x = .ref a ∧ y = .ref b ∧ H a = some (.tup xs) ∧ H b = some (.tup ys) ∧ xs.length + ys.length ≤ sizeLine ∧ ResT H (xs ++ ys) Q) :=
  op_weak op_catA fun _ _ H Q ⟨a, b, xs, ys, h1, h2, h3, h4, h5, h6⟩ => ⟨a, b, xs, ys, h1, h2, .of h3, .of h4, h5, fun z => h6 b H (Same.refl H) (by rw [z]; exact h4), fun _ z => h6 a H (Same.refl H) (by rw [z, List.append_nil]; exact h3), fun _ _ p np => h6 p _ (same_new np) upd_same⟩
theorem op_repTN : OpR X (binaryOp .Mult) (fun x y H Q => ∃ l k xs, x = .ref l ∧ y = .int k ∧ H l = some (.tup xs) ∧ xs ≠ [] ∧ 2 ≤ k ∧ k ≤ 1000 ∧ xs.length ≤ 1000 ∧ ResT H (List.replicate k.toNat xs).flatten Q) :=
  op_weak op_repT fun _ _ H Q ⟨l, k, xs, h1, h2, h3, h4, h5, h6, h7, h8⟩ => ⟨l, k, xs, h1, h2, .of h3, h4, h5, h6, h7, fun p np => h8 p _ (same_new np) upd_same⟩
/-! the same rules with the written part by its name (for comprehensions' blocks) -/
variable {K : PySem.W.Frag}
theorem ix_tupB (h : X.K = K) : IxR X (rIxT K) := by subst h; exact ix_tup
theorem ix_listB (h : X.K = K) : IxR X (rIxL K) := by subst h; exact ix_list
theorem op_in_seqB (h : X.K = K) : OpR X (compareOp .In) (rIn K false) := by subst h; exact op_in_seq
theorem op_notIn_seqB (h : X.K = K) : OpR X (compareOp .NotIn) (rIn K true) := by subst h; exact op_notIn_seq
theorem call_len_seqB (h : X.K = K) : CallR X (.builtin "len") (fun xs H Q => ∃ p ys, xs = [.ref p] ∧ (SqL K H p ys ∨ SqT K H p ys) ∧ Q (.int ys.length) H) := by subst h; exact call_len_seq
theorem call_isiB (h : X.K = K) : CallR X (.builtin "isinstance") (rIsi K) := by subst h; exact call_isi
theorem op_eqDB (h : X.K = K) (hu : X.A.units + 64 < cLine) : OpR X (compareOp .Eq) (rEqD K) := by subst h; exact op_eqD hu
theorem op_neDB (h : X.K = K) (hu : X.A.units + 64 < cLine) : OpR X (compareOp .NotEq) (rNeD K) := by subst h; exact op_neD hu
end
end Nw
namespace Ev1
open PySem PySem.Spec PyProof.Rows L2 Nw
/-! ### exceptions as values -/
/-- at a an exception of the class cls, its dict d -/
def ExV (cls : Value) (d : Option Addr) (a : Addr) : HO := .ext fun h => ∃ (oe : Obj) (vs : Array Value), h.get? a = some oe ∧ Zc cls d oe ∧ oe.data = .fields vs
/-- an exception that was made of the class cls, its dict d: it stands at a place of its own -/
def Made (H1 : Hp) (cls : Value) (d : Option Addr) (Q : VK) : Prop := ∀ a H3, H1 a = none → Same H1 H3 → H3 a = some (ExV cls d a) → Q (.ref a) H3
theorem pe_made {X : Cx} {e : Expr} {t : L2.St → Hp → XK → Prop} (m : PMk X e t) : PE X e (fun σ H Q => t σ H fun cls d H1 => Made H1 cls d Q) := by
  refine ⟨fun pins s σ H Q I h => thn (m pins s σ H _ I h) fun u s1 z => ?_⟩
  obtain ⟨a, oe, vs, sI, H1, cls, d, rfl, J, k, na, ha, hz, hd, _, ha1, os, ag, _, q⟩ := z
  have new : ObjOk X.prog X.w (upd H1 a (ExV cls d a)) s1.heap a (ExV cls d a) := ⟨⟨oe, vs, ha, hz, hd⟩, ⟨oe, ha⟩, fun h1 h2 ⟨o, v, y, r⟩ i => ⟨o, v, i o y, r⟩⟩
  exact ⟨.ref a, upd H1 a (ExV cls d a), J.call' (ch := []) os (Un.laidN k na ha1) (J.hok.laidN k ha1 new) ag (fun b y => absurd y (by simp)), rfl, q a _ ha1 (same_new ha1) upd_same⟩
/-- at a an exception of the class D, with the field at = y -/
def ExF (H : Hp) (a D : Addr) (y : V) : Prop := ∃ dx, H a = some (ExV (.ref D) (some dx) a) ∧ H dx = some (.xd [(("at" : Str), y)])
/-- at a an exception of the class D -/
def ExAt (H : Hp) (a D : Addr) : Prop := H a = some (ExO (.ref D) a) ∨ ∃ y, ExF H a D y
theorem ExF.same {H H' : Hp} {a D : Addr} {y : V} (h : ExF H a D y) (s : Same H H') : ExF H' a D y := by
  obtain ⟨dx, h1, h2⟩ := h
  exact ⟨dx, s _ _ h1, s _ _ h2⟩
theorem ExAt.same {H H' : Hp} {a D : Addr} (h : ExAt H a D) (s : Same H H') : ExAt H' a D := by
  rcases h with h | ⟨y, h⟩
  · exact .inl (s _ _ h)
  · exact .inr ⟨y, h.same s⟩
theorem notCls_of {o : Obj} {vs : Array Value} (hd : o.data = .fields vs) : PySem.W.notCls o = true := by
  unfold PySem.W.notCls
  rw [hd]
section
variable {X : Cx} {pins : List (Addr × Obj)} {σ : L2.St} {H : Hp} {s : Shared} {a D : Addr} {y : V}
theorem ExF.inst (I : Inv X pins σ H s) (h : ExF H a D y) : ∃ ox od u, PySem.W.InstAt s.heap a ox D (some od) ∧ PySem.W.lookIn "at" od = some (some u) ∧ RelV y u := by
  obtain ⟨dx, h1, h2⟩ := h
  have z1 : ObjOk X.prog X.w H s.heap a (.ext fun h => ∃ (oe : Obj) (vs : Array Value), h.get? a = some oe ∧ Zc (.ref D) (some dx) oe ∧ oe.data = .fields vs) := I.hok a _ h1
  obtain ⟨⟨oe, vs, ha, ⟨hc, hd⟩, hv⟩, _⟩ := z1
  have z2 : ObjOk X.prog X.w H s.heap dx (.xd [(("at" : Str), y)]) := I.hok dx _ h2
  obtain ⟨mA, hn, hr⟩ := z2
  obtain ⟨od, ho, hl⟩ := lookIn_ns hn
  have l : List.lookup ("at" : Str) [(("at" : Str), y)] = some y := by simp [List.lookup]
  obtain ⟨u, hu, ru⟩ := RelO.some_of (v := y) (o := mA "at") (by rw [← l]; exact hr "at")
  exact ⟨oe, od, u, ⟨ha, hc, notCls_of hv, by rw [hd]; exact ho⟩, by rw [hl, hu], ru⟩
theorem ExAt.inst (I : Inv X pins σ H s) (h : ExAt H a D) : ∃ ox od, PySem.W.InstAt s.heap a ox D od := by
  rcases h with h | ⟨y, h⟩
  · obtain ⟨⟨oe, vs, ha, ⟨hc, hd⟩, hv, _⟩, _⟩ := I.hok a _ h
    exact ⟨oe, none, ⟨ha, hc, notCls_of hv, by rw [hd]; exact trivial⟩⟩
  · obtain ⟨ox, od, _, J, _⟩ := h.inst I
    exact ⟨ox, some od, J⟩
end
/-- X(e), X an own class without own __init__ -/
def tExN (C : Addr) (te : TE) : TE := fun σ H Q => te σ H fun _ H1 => ∀ a H2, H1 a = none → Same H1 H2 → H2 a = some (ExO (.ref C) a) → Q (.ref a) H2
theorem pe_excN {X : Cx} {C : Addr} {bmB : List Value} {B newId initId : String} {x : Str} {e : Expr} {te : TE} {p pos : Pos} (F : ExcBaseFacts B newId initId bmB) (q : PySem.W.excIn X.K C bmB newId = true) (gC : X.mg x = some (.ref C)) (kC : PySem.W.keepIn X.K (.ref C) = true) (hg : Gl X x)
    (he : PE X e te) (hs : starEach [e] X.env = (false, eval e X.env) :: starEach [] X.env := by rfl) (hdb : (x == ("__debug__" : Str)) = false := by decide) : PE X (.Call (.Name x p) [e] [] pos) (tExN C te) :=
  pe_weak (pe_exc1 F q gC kC hg (pe_cl he) hs hdb) fun _ _ _ h => ⟨_, fun _ _ z a na => z a _ na (same_new na) upd_same, h⟩
/-- isinstance(e, c) of an exception -/
def rIsX (K : PySem.W.Frag) : List V → Hp → VK → Prop := fun xs H Q => ∃ (a D : Addr) (c : V) (cv : Value) (b : Bool), xs = [.ref a, c] ∧ ExAt H a D ∧ ExcC K D ∧ (∀ u, RelV c u → u = cv) ∧ PySem.W.kitOne K (.ref D) cv = some b ∧ Q (.bl b) H
theorem call_isX {X : Cx} : CallR X (.builtin "isinstance") (rIsX X.K) := by
  intro pins s σ H xs us Q I r h
  obtain ⟨a, D, c, cv, b, rfl, hE, C, hcv, e, q⟩ := h
  cases r with
  | cons rx rr =>
    cases rr with
    | cons rt rr =>
      cases rr
      cases rx
      have ec := hcv _ rt
      subst ec
      obtain ⟨ox, od, J⟩ := hE.inst I
      have cl : (PySem.W.clsIn X.K D).isSome = true := by
        obtain ⟨cd, hc, _⟩ := PySem.W.any_some C.hd
        rw [hc]
        rfl
      exact PySem.W.kia_one (PySem.W.kitx_exc cl C.hg C.hk C.hs C.ha C.hn C.ht C.hm) I.kIn J e (fun z => nomatch z) fun tk => ⟨.bl b, H, I.kept (t' := tk) fun _ _ z => z, rfl, q⟩
/-- e.at of an exception -/
def tAtX (K : PySem.W.Frag) (te : TE) : TE := fun σ H Q => te σ H fun x H1 => ∃ (a D : Addr) (y : V), x = .ref a ∧ ExF H1 a D y ∧ ExcC K D ∧ PySem.W.findIn K (.ref D) "at" = some none ∧ Q y H1
theorem pe_atX {X : Cx} {e : Expr} {te : TE} {pos : Pos} (he : PE X e te) (hb : attributeBase e "at" X.env (eval e X.env) = eval e X.env := by rfl) : PE X (.Attribute e "at" pos) (tAtX X.K te) := by
  refine ⟨fun pins s σ H Q I h => attr_of hb (thn (he.run pins s σ H _ I h) fun u s1 hh => ?_)⟩
  obtain ⟨x, H1, I1, rx, a, D, y, rfl, hE, C, nf, q⟩ := hh
  cases rx
  obtain ⟨ox, od, u, J, l, ru⟩ := hE.inst I1
  exact HandSPX.exc_get I1.kIn J C.hg C.hk C.hs (PySem.W.findObj_own C.hd nf rfl l) (handed_of ru) ⟨y, H1, I1.tok _, ru, q⟩
/-- the promise of «def __init__(self, at): self.at = at» -/
def spInit (K : PySem.W.Frag) : Sp := fun vs H Q _ => ∃ (a C : Addr) (y : V), vs = [.ref a, y] ∧ OexC K C ∧ PySem.W.findIn K (.ref C) "at" = some none ∧ H a = some (exo a C none) ∧
  ∀ dx, H dx = none → dx ≠ a → Q .non (upd (upd H dx (exd dx [(("at" : Str), y)])) a (exo a C (some dx)))
theorem del_new {H1 : Hp} {a dx : Addr} {o1 o2 o3 : HO} (na : H1 a = none) (ne : dx ≠ a) : del (upd (upd (upd H1 a o1) dx o2) a o3) a = upd H1 dx o2 := by
  funext b
  by_cases hb : b = a
  · subst hb
    rw [del_same, upd_ne (Ne.symm ne), na]
  · rw [del_ne hb, upd_ne hb]
    by_cases hd : b = dx
    · subst hd
      rw [upd_same, upd_same]
    · rw [upd_ne hd, upd_ne hd, upd_ne hb]
/-- what C(y) asks, C with that __init__: the exception and its field -/
theorem made_F {K : PySem.W.Frag} {C : Addr} {y : V} {H1 : Hp} {Q : VK} (T : OexC K C) (nf : PySem.W.findIn K (.ref C) "at" = some none) (h : ∀ a H2, H1 a = none → Same H1 H2 → ExF H2 a C y → Q (.ref a) H2) :
    [y].length ≤ 1000 ∧ ∀ a, H1 a = none → spInit K (.ref a :: ([y] ++ [])) (upd H1 a (exo a C none)) (fun v H2 => v = .non ∧ ∃ (d : Addr) (fs : List (Str × V)), H2 a = some (exo a C (some d)) ∧ H2 d = some (exd d fs) ∧ H1 d = none ∧
      Made (upd (del H2 a) d (.xd fs)) (Value.ref C) (some d) Q) (fun _ _ _ => False) := by
  refine ⟨by simp, fun a na => ⟨a, C, y, rfl, T, nf, upd_same, fun dx nd ne => ?_⟩⟩
  have nd1 : H1 dx = none := by
    rw [upd_ne ne] at nd
    exact nd
  refine ⟨rfl, dx, [(("at" : Str), y)], upd_same, by rw [upd_ne ne, upd_same], nd1, ?_⟩
  rw [del_new na ne, upd_upd]
  intro b H3 nb s3 e3
  have sd : Same H1 (upd H1 dx (.xd [(("at" : Str), y)])) := same_new nd1
  exact h b H3 (sd.free nb) (sd.trans s3) ⟨dx, e3, s3 _ _ upd_same⟩
end Ev1
namespace Gx
open PySem PySem.Spec PyProof.Rows L2 GxR
/-! ### any, all of a generator expression whose element is run by the layer's own rules -/
/-- the generator's frame running, awake under any | all -/
abbrev gCx (X : Cx) (ge : Expr) (s : Shared) (H : Hp) (cenv : Env) (it : Addr) (fp : List Addr) (pn : List (Addr × Obj)) : Cx :=
  { X with
    s_0 := s
    H_0 := H
    env := cenv
    outer := X.stack
    stack := cenv :: X.stack
    ex := fp
    fn := fun _ => false
    pn := pn
    xe := fun _ _ => False
    A := X.A.in1.in1.over (.compLoop ge 0 (.ref it) .none cenv) [] }
theorem room_gen {k : Nat} {X : Cx} {elt : Expr} {gs : List Comprehension} {scope : Scope} {pos : Pos} {s : Shared} {H : Hp} {cenv : Env} {it : Addr} {fp : List Addr} {pn : List (Addr × Obj)} (r : Room (k + 1) X.A) :
    Room k (gCx X (.GeneratorExp elt gs scope pos) s H cenv it fp pn).A := by
  refine ⟨r.hd, ?_, ?_⟩
  · have := r.dp
    show X.A.depth + 0 + 1 + 3 * k + 5 < recursionLimit
    omega
  · have := r.un
    show X.A.units + 1 + 1 + 0 + 3 + 16 * k + 200 < cLine
    omega
/-- gens, drawn and toks say nothing but that all are bare -/
theorem inv_gens {X : Cx} {pins : List (Addr × Obj)} {σ : L2.St} {H : Hp} {s s' : Shared} (I : Inv X pins σ H s) (hh : s'.heap = s.heap) (ho : s'.os = s.os) (hb : AllBare s'.gens) : Inv X pins σ H s' := by
  obtain ⟨h, g, d, t, o⟩ := s
  obtain ⟨h', g', d', t', o'⟩ := s'
  dsimp only at hh ho hb
  subst hh ho
  exact { ok := I.ok, os := I.os, bare := hb, base := I.base, loc := I.loc, cell := I.cell, free := I.free, freeC := I.freeC, pin := I.pin, hok := I.hok, len := I.len }
theorem bare_set {s : Shared} {g : Nat} {x : GenState} (h : AllBare s.gens) (hx : x.bare = true) : AllBare (s.setGen g x).gens := by
  intro y hy
  have hy' : y ∈ s.gens.setIfInBounds g x := hy
  obtain ⟨i, hi, e⟩ := Array.mem_iff_getElem.mp hy'
  by_cases hg : g = i
  · subst hg
    rw [Array.getElem_setIfInBounds_self] at e
    rw [← e]
    exact hx
  · rw [Array.getElem_setIfInBounds_ne (by simpa using hi) hg] at e
    rw [← e]
    exact h _ (Array.getElem_mem _)
section
variable {X : Cx} {pins : List (Addr × Obj)} {σ : L2.St} {H : Hp} {s : Shared}
/-- what the frame of the generator knows as it begins -/
theorem gen_start {ge : Expr} {scope : Scope} {own : List (Str × Nat)} {fp : List Addr} {it a : Addr} {code : Value} {go : Obj} {gs : Array GenState} {tk : Nat} {h5 : Heap} {m : Str → Option Value} (I : Inv X pins σ H s) (hc : X.calm = true) (ok : BlkOk X.N X.env.scope scope own) (hN : X.N.Nodup)
    (nc : ∀ y ∈ scope.names, y.2 ≠ .cell) (hfp : ∀ b ∈ fp, FpOk X pins H b ∧ b < s.heap.objs.size) (fr : (X.A.in1.in1.over (.compLoop ge 0 (.ref it) .none (genEnv scope (cloFrom X.env.cells scope.names []) s.heap.objs.size code builtinsNs X.env)) []).frames = some (genEnv scope (cloFrom X.env.cells scope.names []) s.heap.objs.size code builtinsNs X.env :: X.stack))
    (hg : AllBare gs) (kp : ∀ b o, s.heap.get? b = some o → h5.get? b = some o) (hns : h5.Ns s.heap.objs.size m) (ha : h5.get? a = some go) (ha1 : s.heap.objs.size < a) (hd : ∀ v, go.data ≠ .cell v) :
    Inv (gCx X ge s H (genEnv scope (cloFrom X.env.cells scope.names []) s.heap.objs.size code builtinsNs X.env) it fp [(a, go)]) [] (wipe σ (own.map (·.2))) H { s with gens := gs, toks := tk, heap := h5 } := by
  have cm : ∀ {y : Str} {c : Addr}, (cloFrom X.env.cells scope.names []).lookup y = some c → X.env.cells.lookup y = some c := fun {y c} e => by
    rcases cloFrom_mem (PySem.mem_of_lookup e) with z | ⟨h1, z⟩
    · cases z
    · have q : ∃ c', X.env.cells.lookup y = some c' := by
        rcases ok.free (y, .free) h1 rfl with k | k
        · exact I.ok.has y (.inl k)
        · exact I.ok.has y (.inr k)
      obtain ⟨c', q⟩ := q
      rw [q] at z
      rw [q, z]
      rfl
  have ch : ∀ {y : Str}, scope.names.lookup y = some .free → ∃ c, (cloFrom X.env.cells scope.names []).lookup y = some c := fun {y} e => mem_lookup (cloFrom_has (PySem.mem_of_lookup e))
  have noc : ∀ {y : Str}, scope.names.lookup y ≠ some .cell := fun {y} e => nc _ (PySem.mem_of_lookup e) rfl
  have stL : ∀ b ∈ frs X.stack, b < s.heap.objs.size := fun b hb => by
    obtain ⟨_, o, e, _⟩ := I.stack.mem hb
    exact Heap.lt_size e
  have okG : (gCx X ge s H (genEnv scope (cloFrom X.env.cells scope.names []) s.heap.objs.size code builtinsNs X.env) it fp [(a, go)]).Ok := {
    mod := I.ok.mod
    kind := ok.kind
    glob := I.ok.glob
    blt := rfl
    above := Nat.le_refl _
    inj := fun x y c h1 h2 => I.ok.inj x y c (cm h1) (cm h2)
    has := fun x h => h.elim (fun k => absurd k noc) fun k => ch k
    cab := fun x c h => Bool.noConfusion h
    hd := fun h => I.ok.hd h
    frames := fr
    stk := .inr ⟨rfl, rfl⟩
    exf := fun b hb => ⟨Nat.ne_of_lt (hfp b hb).2, fun x c e => (hfp b hb).1.2.2.2.2.1 x c (cm e)⟩
    bs := I.bs
    bsz := Nat.le_trans I.ok.bsz I.sz
    noex := fun b o e hb => by
      rcases (hfp b hb).1.2.2.2.1 with z | z
      · exact I.ok.noex b o e z
      · exact Nat.lt_irrefl _ (Nat.lt_of_lt_of_le (Heap.lt_size e) (Nat.le_trans I.ok.bsz z))
    exfs := fun b hb z => by
      rcases List.mem_cons.mp (I.stkSub b z) with y | y
      · exact (hfp b hb).1.2.1 y
      · exact (hfp b hb).1.2.2.1 y
    funs := I.stack
    frf := I.stkFree }
  refine { ok := okG, os := rfl, bare := hg, base := Un.kept kp, loc := ⟨m, hns, fun i x v e1 e2 e3 => ?_⟩, cell := fun x c e => ?_, free := I.hok.fresh (Nat.le_refl _), freeC := fun x c e => I.freeC x c (cm e), pin := fun p hp => ?_, hok := I.hok.kept kp, len := (wipe_length _ _).trans I.len }
  · obtain ⟨e2, hi⟩ := wipe_some e2
    have hf : scope.names.lookup x = some .free := by
      have no : ∀ k, scope.names.lookup x = some k → ¬ (k = .local ∨ k = .cell) := fun k hk hh => by
        rcases ok.own _ (PySem.mem_of_lookup hk) hh with z | z
        · obtain ⟨p, hp, hx⟩ := List.mem_map.mp z
          have q := ok.ix p hp
          have hx' : p.1 = x := hx
          rw [hx'] at q
          exact hi (List.mem_map.mpr ⟨p, hp, nodup_ix hN q e1⟩)
        · exact z (List.mem_of_getElem? e1)
      have e3 : Vis scope x := e3
      rcases e3 with k | k | k
      · exact absurd (.inl rfl) (no _ k)
      · exact absurd (.inr rfl) (no _ k)
      · exact k
    have hv := ok.free _ (PySem.mem_of_lookup hf) rfl
    obtain ⟨m0, _, hl⟩ := I.loc
    obtain ⟨u, ru, q⟩ := hl i x v e1 e2 (.inr hv)
    refine ⟨u, ru, .inr ⟨.inr hf, ?_⟩⟩
    rcases q with ⟨k, _⟩ | ⟨_, c, ec, z⟩
    · have k' : X.env.scope.names.lookup x = some .local := k
      rcases hv with y | y
      · have y' : X.env.scope.names.lookup x = some .cell := y
        rw [k'] at y'
        cases y'
      · have y' : X.env.scope.names.lookup x = some .free := y
        rw [k'] at y'
        cases y'
    · obtain ⟨c', e'⟩ := ch hf
      have e2 := cm e'
      rw [ec] at e2
      cases e2
      exact ⟨c, e', z.keeps kp⟩
  · obtain ⟨v, z⟩ := I.cell x c (cm e)
    exact ⟨v, z.keeps kp⟩
  · have hp' : p ∈ [(a, go)] ++ ([] : List (Addr × Obj)) := hp
    have e : p = (a, go) := by simpa using hp'
    subst e
    refine ⟨ha, I.hok.fresh (Nat.le_of_lt ha1), Nat.ne_of_gt ha1, fun z => ?_, hd⟩
    exact Nat.lt_irrefl _ (Nat.lt_trans (stL _ z) ha1)
end
/-- what a turn's way through the generator must reach. stopb: the truth at which any (true), all (false) stops -/
def GEndP (Y : Cx) (σw : L2.St) (stopb : Bool) (Q : VK) : Nat → Shared → Shared → Prop := fun _ _ s => ∃ H', Inv Y [] σw H' s ∧ Q (.bl (!stopb)) H'
def GProto (Y : Cx) (σw : L2.St) (fp : List Addr) (tn : Nat → Heap → Prop) (W : Nat → Nat → Hp → Prop) (stopb : Bool) (Q : VK) : Protocol := fun n _ v s kap => ∃ (k : Bool) (H' : Hp), v = .bool k ∧ Inv Y [] σw H' s ∧
  ((k = stopb ∧ Q (.bl stopb) H') ∨ (k = !stopb ∧ ∃ i m, m < n ∧ W i m H' ∧ ∀ s'' : Shared, s''.heap = s.heap → s''.os = s.os → AllBare s''.gens → kap (.send .none) s''))
section
variable {X : Cx} {elt tg iter : Expr} {ifs : List Expr} {scope : Scope} {gpos : Pos} {s4 : Shared} {H4 : Hp} {cenv : Env} {it : Addr} {fp : List Addr} {pn : List (Addr × Obj)} {J : It} {tn : Nat → Heap → Prop} {g : TG} {tt : TT} {te : TE} {own : List Nat} {σ : L2.St} {stopb : Bool} {Q : VK} {W : Nat → Nat → Hp → Prop}
/-- the turns of the generator's own loop -/
theorem gen_loop (hc : X.calm = true) (hco : cenv.scope.isCoroutine = false) (T : Turn X.prog X.w X.K tg J fp it tn) (hpn : ∀ p ∈ pn, ∀ b ∈ fp, p.1 ≠ b)
    (pg : PG (gCx X (.GeneratorExp elt [⟨tg, iter, ifs, 0⟩] scope gpos) s4 H4 cenv it fp pn) tg g) (pt : PTs (gCx X (.GeneratorExp elt [⟨tg, iter, ifs, 0⟩] scope gpos) s4 H4 cenv it fp pn) ifs tt) (pe : PE (gCx X (.GeneratorExp elt [⟨tg, iter, ifs, 0⟩] scope gpos) s4 H4 cenv it fp pn) elt te)
    (turn : ∀ i m H, W i m H → (J.stop i H ∧ Q (.bl (!stopb)) H) ∨ (J.go i H ∧ ∃ Nx : Hp → Prop, (∀ H', Nx H' → ∃ m', m' < m ∧ W (i + 1) m' H') ∧ ∀ x H', J.yld i H x H' → g x (wipe σ own) H' fun σ2 H2 => wipe σ2 own = wipe σ own ∧ tt σ2 H2 fun b H3 =>
      if b = true then te σ2 H3 fun y H4 => (y = .bl stopb ∧ Q (.bl stopb) H4) ∨ (y = .bl (!stopb) ∧ Nx H4) else Nx H3)) :
    ∀ (m n i : Nat) (s0 s : Shared) (H' : Hp), m < n → W i m H' → Inv (gCx X (.GeneratorExp elt [⟨tg, iter, ifs, 0⟩] scope gpos) s4 H4 cenv it fp pn) [] (wipe σ own) H' s → tn i s.heap → (∀ b ∈ fp, H' b = none) →
      Seg (model X.prog X.w) X.A.in1.in1 (fun n s0 r s1 => r = .ok .next ∧ GEndP (gCx X (.GeneratorExp elt [⟨tg, iter, ifs, 0⟩] scope gpos) s4 H4 cenv it fp pn) (wipe σ own) stopb Q n s0 s1)
        (GProto (gCx X (.GeneratorExp elt [⟨tg, iter, ifs, 0⟩] scope gpos) s4 H4 cenv it fp pn) (wipe σ own) fp tn W stopb Q) n s0
        (.compLoop (.GeneratorExp elt [⟨tg, iter, ifs, 0⟩] scope gpos) 0 (.ref it) .none cenv) ((model X.prog X.w).den (.compLoop (.GeneratorExp elt [⟨tg, iter, ifs, 0⟩] scope gpos) 0 (.ref it) .none cenv)) [] s := by
  intro m
  induction m using Nat.strongRecOn with
  | ind m ih =>
    intro n i s0 s H' hmn w I st nf
    have fpk : ∀ {σ' : L2.St} {H' : Hp} {s' : Shared}, Inv (gCx X (.GeneratorExp elt [⟨tg, iter, ifs, 0⟩] scope gpos) s4 H4 cenv it fp pn) [] σ' H' s' → (∀ b ∈ fp, H' b = none) → ∀ b ∈ fp, FpOk (gCx X (.GeneratorExp elt [⟨tg, iter, ifs, 0⟩] scope gpos) s4 H4 cenv it fp pn) [] H' b := fun {σ' H' s'} I' hn b hb =>
      ⟨hn b hb, (I'.ok.exf b hb).1, I'.ok.exfs b hb, .inl hb, (I'.ok.exf b hb).2, fun p hp => hpn p (by simpa using hp) b hb⟩
    show Seg _ _ _ _ n s0 _ ((compTurn (.GeneratorExp elt [⟨tg, iter, ifs, 0⟩] scope gpos) 0 (.ref it) .none cenv).onRaise (leaving cenv)) [] s
    rw [compTurn_gen, Sem.onRaise_eq_wrap]
    refine seg_bind_wrap (wpAny_standAt ?_)
    rcases turn i m H' w with ⟨stop, q⟩ | ⟨go, Nx, hNx, step⟩
    · refine seg_bind_wrap (thnF (T.done (gCx X (.GeneratorExp elt [⟨tg, iter, ifs, 0⟩] scope gpos) s4 H4 cenv it fp pn) rfl rfl rfl hc i [] s _ H' (fun _ _ => False) I (fpk I nf) st stop) fun r s1 z => ?_)
      obtain ⟨rfl, I1⟩ := z
      exact seg_end (.ok .next) ⟨rfl, H', I1, q⟩
    · refine seg_bind_wrap (thnF (T.item (gCx X (.GeneratorExp elt [⟨tg, iter, ifs, 0⟩] scope gpos) s4 H4 cenv it fp pn) rfl rfl rfl hc i [] s _ H' (fun _ _ => False) I (fpk I nf) st go) fun r s1 z => ?_)
      obtain ⟨u, rfl, z⟩ := z
      refine seg_bind_wrap (thnF z fun _ s2 z2 => ?_)
      obtain ⟨x, H2, I2, r2, y2, st2, n2⟩ := z2
      have P2 := I2.pinned (fpk I2 n2) (T.obj _ _ st2)
      refine seg_bind_wrap (thnF (pg.run _ s2 _ H2 x u _ P2 r2 (step x H2 y2)) fun _ s3 z3 => ?_)
      obtain ⟨σ3, H3, I3, hw, q3⟩ := z3
      refine seg_bind_wrap (thnF (pt.run _ s3 σ3 H3 _ I3 q3) fun b sb zb => ?_)
      obtain ⟨Hb, Ib, qb⟩ := zb
      have back : ∀ {s' : Shared} {H' : Hp}, Inv (gCx X (.GeneratorExp elt [⟨tg, iter, ifs, 0⟩] scope gpos) s4 H4 cenv it fp pn) ([] ++ pinsAt fp s2.heap) σ3 H' s' →
          Inv (gCx X (.GeneratorExp elt [⟨tg, iter, ifs, 0⟩] scope gpos) s4 H4 cenv it fp pn) [] (wipe σ own) H' s' ∧ tn (i + 1) s'.heap ∧ ∀ b ∈ fp, H' b = none := fun {s' H'} I' => by
        have pin' : ∀ b ∈ fp, ∀ o, s2.heap.get? b = some o → s'.heap.get? b = some o ∧ H' b = none := fun b hb o e =>
          have y := I'.pin (b, o) (List.mem_append_right _ (List.mem_append_right _ (mem_pinsAt hb e)))
          ⟨y.1, y.2.1⟩
        have hl : (wipe σ own).length = σ3.length := by
          rw [← hw, wipe_length]
        refine ⟨(I'.unpinned (pins := [])).weak hl (fun j v e => ?_), T.keep _ _ _ st2 (fun b hb o e => (pin' b hb o e).1), fun b hb => ?_⟩
        · rw [← hw] at e
          exact (wipe_some e).1
        · obtain ⟨o, e, _⟩ := T.obj _ _ st2 b hb
          exact (pin' b hb o e).2
      cases b with
      | false =>
        simp only [Bool.false_eq_true, if_false] at qb ⊢
        obtain ⟨m', hm, w'⟩ := hNx _ qb
        obtain ⟨I', st', n'⟩ := back Ib
        exact seg_again rfl (ih m' hm n (i + 1) s0 sb Hb (Nat.lt_trans hm hmn) w' I' st' n')
      | true =>
        simp only [if_true] at qb ⊢
        have hy : ∀ v, yieldOut cenv v = yieldValue v := fun v => by simp only [yieldOut, hco, Bool.false_eq_true, if_false]
        simp only [hy]
        rw [Sem.bind_eq_wrap', Sem.bind_eq_wrap', Sem.wrap_wrap, Sem.wrap_wrap]
        refine seg_wrap (thnF (pe.run _ sb σ3 Hb _ Ib qb) fun z sy zy => ?_)
        obtain ⟨v, Hy, Iy, ry, qy⟩ := zy
        obtain ⟨I', st', n'⟩ := back Iy
        obtain ⟨n1, rfl⟩ : ∃ n1, n = n1 + 1 := ⟨n - 1, by omega⟩
        refine seg_at (seg_yield rfl rfl rfl ?_)
        rcases qy with ⟨rfl, q⟩ | ⟨rfl, q⟩
        · cases ry
          exact ⟨stopb, Hy, rfl, I', .inl ⟨rfl, q⟩⟩
        · cases ry
          obtain ⟨m', hm, w'⟩ := hNx _ q
          refine ⟨!stopb, Hy, rfl, I', .inr ⟨rfl, i + 1, m', by omega, w', fun s'' hh ho hb => ?_⟩⟩
          exact seg_again rfl (ih m' hm n1 (i + 1) s'' s'' Hy (by omega) w' (inv_gens I' hh ho hb) (by rw [hh]; exact st') n')
/-- the start of the generator's code -/
theorem gen_begin {n : Nat} {s0 s : Shared} {R : GenEnd} {Y : Protocol} (T : Turn X.prog X.w X.K tg J fp it tn) (st : tn 0 s.heap)
    (loop : Seg (model X.prog X.w) X.A.in1.in1 R Y n s0 (.compLoop (.GeneratorExp elt [⟨tg, iter, ifs, 0⟩] scope gpos) 0 (.ref it) .none cenv) ((model X.prog X.w).den (.compLoop (.GeneratorExp elt [⟨tg, iter, ifs, 0⟩] scope gpos) 0 (.ref it) .none cenv)) [] s) :
    Seg (model X.prog X.w) X.A.in1.in1 R Y n s0 (.compStart (.GeneratorExp elt [⟨tg, iter, ifs, 0⟩] scope gpos) 0 (.ref it) .none cenv) ((model X.prog X.w).den (.compStart (.GeneratorExp elt [⟨tg, iter, ifs, 0⟩] scope gpos) 0 (.ref it) .none cenv)) [] s := by
  show Seg _ _ _ _ n s0 _ ((compStart (.GeneratorExp elt [⟨tg, iter, ifs, 0⟩] scope gpos) 0 (.ref it) .none cenv).onRaise (leaving cenv)) [] s
  unfold compStart
  rw [Sem.onRaise_eq_wrap]
  refine seg_bind_wrap (wpAny_askSetting ?_)
  split
  · exact seg_again rfl loop
  · refine seg_bind_wrap (wpAny_rule ?_)
    show Seg _ _ _ _ n s0 _ ((standAt iter.pos >>= _).wrap _ _ _ _) [] s
    refine seg_bind_wrap (wpAny_standAt (seg_bind_wrap ?_))
    exact T.self _ 0 s _ _ st (seg_again rfl loop)
end
/-- the generator at a, number gn, is asleep (or fresh), with n turns at most -/
def Asleep (X Y : Cx) (σw : L2.St) (fp : List Addr) (tn : Nat → Heap → Prop) (W : Nat → Nat → Hp → Prop) (stopb : Bool) (Q : VK) (gn n : Nat) (s : Shared) : Prop :=
  ∃ (gs : GenState) (H' : Hp), s.gens[gn]? = some gs ∧ Inv Y [] σw H' s ∧ ∀ s'' : Shared, s''.heap = s.heap → s''.os = s.os → AllBare s''.gens →
    gs.Goes (model X.prog X.w) X.A.in1.in1 (fun n s0 r s1 => r = .ok .next ∧ GEndP Y σw stopb Q n s0 s1) (GProto Y σw fp tn W stopb Q) n (.send .none) s''
section
variable {X Y : Cx} {σw : L2.St} {fp : List Addr} {tn : Nat → Heap → Prop} {W : Nat → Nat → Hp → Prop} {Q : VK} {gn : Nat} {a : Addr} {go : Obj} {R : Result → Shared → Prop}
theorem set_at {s : Shared} {x : GenState} (h : gn < s.gens.size) : (s.setGen gn x).gens[gn]? = some x := by
  show (s.gens.setIfInBounds gn x)[gn]? = some x
  rw [Array.getElem?_setIfInBounds_self_of_lt h]
/-- one waking of the generator -/
theorem wake {stopb : Bool} {n : Nat} {s : Shared} {Q' : Option Value → Shared → Prop} {E : Value → Shared → Prop} (hh : X.A.handled = none) (hroom : X.A.depth < recursionLimit) (hp : (a, go) ∈ Y.pn) (hgo : ∀ h : Heap, h.get? a = some go → h.IsGen a gn) (S : Asleep X Y σw fp tn W stopb Q gn n s)
    (stop : ∀ s' H', Inv Y [] σw H' s' → Q (.bl stopb) H' → Q' (some (.bool stopb)) s') (next : ∀ s' m, m < n → Asleep X Y σw fp tn W stopb Q gn m s' → Q' (some (.bool (!stopb))) s') (done : ∀ s' H', Inv Y [] σw H' s' → Q (.bl (!stopb)) H' → Q' none s') :
    wpAny (model X.prog X.w) X.A.in1 (pyNext (.ref a)) Q' E s := by
  obtain ⟨gs, H', hg, I, hG⟩ := S
  have hlt : gn < s.gens.size := by
    rcases Nat.lt_or_ge gn s.gens.size with z | z
    · exact z
    · rw [Array.getElem?_eq_none z] at hg
      cases hg
  have ig : s.heap.IsGen a gn := hgo _ (I.pin (a, go) (List.mem_append_left _ hp)).1
  refine GenW.wpAny_gsz (n := s.gens.size) (Nat.le_refl _) ?_
  refine wpAny_pyNext_genexpQ (A := X.A.in1) hh I.nolimit hroom ig hg (hG _ rfl rfl (bare_set I.bare rfl)) (fun v s1 gs' hb hv sz => ?_) (fun s1 hp1 h' hk sz => ?_)
  · obtain ⟨k, H1, rfl, I1, z⟩ := hv
    have sz1 : gn < s1.gens.size := by
      have e : (s1.setGen gn gs').gens.size = s1.gens.size := GenW.setGen_size _ _ _
      rw [e] at sz
      omega
    have I2 : Inv Y [] σw H1 (s1.setGen gn gs') := inv_gens I1 rfl rfl (bare_set I1.bare hb)
    rcases z with ⟨rfl, q⟩ | ⟨rfl, i, m, hm, w, kap⟩
    · exact stop _ H1 I2 q
    · cases n with
      | zero => omega
      | succ n1 =>
        refine next _ n1 (Nat.lt_succ_self _) ⟨gs', H1, set_at sz1, I2, fun s'' h1 h2 h3 => ?_⟩
        exact kap s'' h1 h2 h3
  · obtain ⟨H1, I1, q⟩ := hp1
    refine done _ H1 ?_ q
    have I2 : Inv Y [] σw H1 (s1.setGen gn .finished) := inv_gens I1 rfl rfl (bare_set I1.bare rfl)
    exact I2.kept (h' := h') (t' := s1.toks) fun b o e => hk b o e
theorem any_loop (hh : X.A.handled = none) (hroom : X.A.depth < recursionLimit) (hp : (a, go) ∈ Y.pn) (hgo : ∀ h : Heap, h.get? a = some go → h.IsGen a gn)
    (fin : ∀ s' H' b, Inv Y [] σw H' s' → Q (.bl b) H' → R (.ok (.ret (.bool b))) s') : ∀ (n : Nat) (s : Shared), Asleep X Y σw fp tn W true Q gn n s → codeAny (model X.prog X.w) X.A (.builtin "any.loop" ⟨[.ref a], []⟩) R s := by
  intro n
  induction n using Nat.strongRecOn with
  | ind n ih =>
    intro s S
    refine codeAny_builtin F.entry_any_loop ?_
    rw [Around.under_plainId F.plain_any_loop _]
    show wpAny _ X.A.in1 (pyNext (.ref a) >>= _) _ _ s
    refine wpAny_bind (wake hh hroom hp hgo S (fun s' H' I q => ?_) (fun s' m hm S' => ?_) (fun s' H' I q => ?_))
    · refine wpAny_bind (wpAny_holding (wpAny_truthy_bool (wpAny_bind (wpAny_letGo ?_))))
      simp only [if_true]
      exact wpAny_bind (wpAny_rule (wpAny_pure (fin s' H' true I q)))
    · refine wpAny_bind (wpAny_holding (wpAny_truthy_bool (wpAny_bind (wpAny_letGo ?_))))
      simp only [Bool.not_true, Bool.false_eq_true, if_false]
      exact wpAny_pure ⟨plainId_quiet F.plain_any_loop _, ih m hm s' S'⟩
    · exact wpAny_bind (wpAny_rule (wpAny_pure (fin s' H' false I q)))
theorem all_loop (hh : X.A.handled = none) (hroom : X.A.depth < recursionLimit) (hp : (a, go) ∈ Y.pn) (hgo : ∀ h : Heap, h.get? a = some go → h.IsGen a gn)
    (fin : ∀ s' H' b, Inv Y [] σw H' s' → Q (.bl b) H' → R (.ok (.ret (.bool b))) s') : ∀ (n : Nat) (s : Shared), Asleep X Y σw fp tn W false Q gn n s → codeAny (model X.prog X.w) X.A (.builtin "all.loop" ⟨[.ref a], []⟩) R s := by
  intro n
  induction n using Nat.strongRecOn with
  | ind n ih =>
    intro s S
    refine codeAny_builtin F.entry_all_loop ?_
    rw [Around.under_plainId F.plain_all_loop _]
    show wpAny _ X.A.in1 (pyNext (.ref a) >>= _) _ _ s
    refine wpAny_bind (wake hh hroom hp hgo S (fun s' H' I q => ?_) (fun s' m hm S' => ?_) (fun s' H' I q => ?_))
    · refine wpAny_bind (wpAny_holding (wpAny_truthy_bool (wpAny_bind (wpAny_letGo ?_))))
      simp only [Bool.false_eq_true, if_false]
      exact wpAny_bind (wpAny_rule (wpAny_pure (fin s' H' false I q)))
    · refine wpAny_bind (wpAny_holding (wpAny_truthy_bool (wpAny_bind (wpAny_letGo ?_))))
      simp only [Bool.not_false, if_true]
      exact wpAny_pure ⟨plainId_quiet F.plain_all_loop _, ih m hm s' S'⟩
    · exact wpAny_bind (wpAny_rule (wpAny_pure (fin s' H' true I q)))
end
/-- any(elt for target in iter if ..) (stopb true), all(..) (stopb false): W by the turn and a measure, Nx what a turn is to reach; P: the def's table of code objects -/
def tAA (P : Addr) (stopb : Bool) (wi : TI) (g : TG) (tt : TT) (te : TE) (vs : List Nat) : TE := fun σ H Q => wi σ H fun J H1 => TabG H1 P ∧ ∀ H2, Tabbed P H1 H2 → ∃ W : Nat → Nat → Hp → Prop, (∃ m, W 0 m H2) ∧
  ∀ i m H, W i m H → (J.stop i H ∧ Q (.bl (!stopb)) H) ∨ (J.go i H ∧ ∃ Nx : Hp → Prop, (∀ H', Nx H' → ∃ m', m' < m ∧ W (i + 1) m' H') ∧ ∀ x H', J.yld i H x H' → g x (wipe σ vs) H' fun σ2 H2 => wipe σ2 vs = wipe σ vs ∧ tt σ2 H2 fun b H3 =>
    if b = true then te σ2 H3 fun y H4 => (y = .bl stopb ∧ Q (.bl stopb) H4) ∨ (y = .bl (!stopb) ∧ Nx H4) else Nx H3)
/-- over a tuple that stays -/
theorem aa_tup {K : PySem.W.Frag} {a : Addr} {xs : List V} {g : TG} {tt : TT} {te : TE} {vs : List Nat} {σ : L2.St} {H1 : Hp} {stopb : Bool} {Q : VK} (Pv : Nat → Hp → Prop) (h0 : Pv 0 H1) (hl : ∀ i H, i ≤ xs.length → Pv i H → SqT K H a xs)
    (hs : ∀ i x H, xs[i]? = some x → Pv i H → g x (wipe σ vs) H fun σ2 H2 => wipe σ2 vs = wipe σ vs ∧ tt σ2 H2 fun b H3 => if b = true then te σ2 H3 fun y H4 => (y = .bl stopb ∧ Q (.bl stopb) H4) ∨ (y = .bl (!stopb) ∧ Pv (i + 1) H4) else Pv (i + 1) H3) (hd : ∀ H, Pv xs.length H → Q (.bl (!stopb)) H) :
    ∃ W : Nat → Nat → Hp → Prop, (∃ m, W 0 m H1) ∧ ∀ i m H, W i m H → ((Itt K a).stop i H ∧ Q (.bl (!stopb)) H) ∨ ((Itt K a).go i H ∧ ∃ Nx : Hp → Prop, (∀ H', Nx H' → ∃ m', m' < m ∧ W (i + 1) m' H') ∧ ∀ x H', (Itt K a).yld i H x H' → g x (wipe σ vs) H' fun σ2 H2 => wipe σ2 vs = wipe σ vs ∧ tt σ2 H2 fun b H3 =>
      if b = true then te σ2 H3 fun y H4 => (y = .bl stopb ∧ Q (.bl stopb) H4) ∨ (y = .bl (!stopb) ∧ Nx H4) else Nx H3) := by
  refine ⟨fun i m H => i + m = xs.length ∧ Pv i H, ⟨xs.length, Nat.zero_add _, h0⟩, fun i m H ⟨e, p⟩ => ?_⟩
  have sq := hl i H (by omega) p
  cases m with
  | zero =>
    have ei : i = xs.length := by omega
    subst ei
    exact .inl ⟨⟨xs, sq, Nat.le_refl _⟩, hd H p⟩
  | succ m =>
    have lt : i < xs.length := by omega
    refine .inr ⟨⟨xs, xs[i], sq, List.getElem?_eq_getElem lt⟩, Pv (i + 1), fun H' q => ⟨m, Nat.lt_succ_self m, by omega, q⟩, fun x H' y => ?_⟩
    obtain ⟨rfl, y⟩ := y
    exact hs i x _ (y xs sq) p
section
variable {X : Cx} {pins : List (Addr × Obj)} {σ : L2.St} {H : Hp} {s : Shared} {c P : Addr} {elt tg iter : Expr} {ifs : List Expr} {scope : Scope} {own : List (Str × Nat)} {gpos : Pos} {wi : TI} {g : TG} {tt : TT} {te : TE} {stopb : Bool} {k : Nat}
/-- the scope of a generator expression: no cells of its own -/
structure GSc (scope : Scope) : Prop where
  co : scope.isCoroutine = false
  nc : ∀ y ∈ scope.names, y.2 ≠ .cell
  dot : scope.names.lookup (".0" : Str) = some NameKind.local
theorem gen_make {Q : VK} {Q' : Value → Shared → Prop} (hr : Room k X.A) (hc : X.calm = true) (hN : X.N.Nodup) (TB : TabB X.base X.mg c P) (hcode : X.env.code = .ref c) (hi : PI X tg iter wi) (ok : BlkOk X.N X.env.scope scope own) (S : GSc scope)
    (hg : ∀ (s : Shared) (H : Hp) (C : Addr) (code : Value) (it : Addr) (fp : List Addr) (pn : List (Addr × Obj)), PG (gCx X (.GeneratorExp elt [⟨tg, iter, ifs, 0⟩] scope gpos) s H (genEnv scope (cloFrom X.env.cells scope.names []) C code builtinsNs X.env) it fp pn) tg g)
    (ht : ∀ (s : Shared) (H : Hp) (C : Addr) (code : Value) (it : Addr) (fp : List Addr) (pn : List (Addr × Obj)), PTs (gCx X (.GeneratorExp elt [⟨tg, iter, ifs, 0⟩] scope gpos) s H (genEnv scope (cloFrom X.env.cells scope.names []) C code builtinsNs X.env) it fp pn) ifs tt)
    (he : ∀ (s : Shared) (H : Hp) (C : Addr) (code : Value) (it : Addr) (fp : List Addr) (pn : List (Addr × Obj)), PE (gCx X (.GeneratorExp elt [⟨tg, iter, ifs, 0⟩] scope gpos) s H (genEnv scope (cloFrom X.env.cells scope.names []) C code builtinsNs X.env) it fp pn) elt te)
    (hs : ∀ x, genFold iter X.env x = pure x) (I : Inv X pins σ H s) (h : tAA P stopb wi g tt te (own.map (·.2)) σ H Q)
    (hQ : ∀ (a : Addr) (go : Obj) (gn n : Nat) (Y : Cx) (fp : List Addr) (tn : Nat → Heap → Prop) (W : Nat → Nat → Hp → Prop) (s5 : Shared), (a, go) ∈ Y.pn → (∀ h : Heap, h.get? a = some go → h.IsGen a gn) → (∀ s' H', Inv Y [] (wipe σ (own.map (·.2))) H' s' → Inv X pins σ H' s') → s5.heap.get? a = some go →
      Asleep X Y (wipe σ (own.map (·.2))) fp tn W stopb Q gn n s5 → Q' (.ref a) s5) :
    wpAny (model X.prog X.w) X.A (eval (.GeneratorExp elt [⟨tg, iter, ifs, 0⟩] scope gpos) X.env) Q' X.xe s := by
  have hfree : ∀ y ∈ scope.names, y.2 = .free → ∃ c, X.env.cells.lookup y.1 = some c := fun y hy e => by
    rcases ok.free y hy e with z | z
    · exact I.ok.has _ (.inl z)
    · exact I.ok.has _ (.inr z)
  refine wpAny_GeneratorExp_make S.co (closure_ok hfree) S.nc S.dot ok.kind (by have := hr.dp; omega) (thn (hi.run pins s σ H _ I h) fun xv s1 hx => thn hx fun itv s2 h2 => ?_) hs
  obtain ⟨it, fp, tn, J, H2, rfl, I2, T, st2, f2, ⟨ps, hP, hT⟩, q⟩ := h2
  have hPs : s2.heap.get? P = some { cls := .none, data := .fields ps } := I2.hok P _ hP
  have cd : PySem.W.CodeHd s2.heap c P := TB.code.keeps I2.bk
  have szf : ∀ b ∈ fp, b < s2.heap.objs.size := fun b hb => by
    obtain ⟨o, e, _⟩ := T.obj _ _ st2 b hb
    exact Heap.lt_size e
  have nP : ∀ b ∈ fp, b ≠ P := fun b hb z => by
    have e := (f2 b hb).1
    rw [z, hP] at e
    cases e
  refine ⟨I2.nolimit, ?_⟩
  have cont : ∀ (code : Value) (h3 : Heap) (tk : Nat) (more : Array Value), Heap.ExtBut P s2.heap h3 → s2.heap.objs.size ≤ h3.objs.size → h3.get? P = some { cls := .none, data := .fields (ps ++ more) } → TriplesOk (ps ++ more).toList →
      wpAny (model X.prog X.w) X.A (builtinsFor X.env.globals X.env.builtins) (fun bi s4 => ∀ h', h'.Ns s4.heap.objs.size (fun y => if y = ".0" then some (.ref it) else none) → Heap.SameBut s4.heap.objs.size (s4.heap.push { cls := .type "frame", data := .dict #[] }) h' →
        Q' (.ref h'.objs.size) { s4 with
          gens := s4.gens.push (.fresh (.compStart (.GeneratorExp elt [⟨tg, iter, ifs, 0⟩] scope gpos) 0 (.ref it) .none (genEnv scope (cloFrom X.env.cells scope.names []) s4.heap.objs.size code bi X.env))),
          toks := s4.toks + 1 + 1 + 1,
          heap := h'.push { cls := .type "generator", data := .fields #[.int s4.gens.size 0, .str "<genexpr>" (s4.toks + 1), .str (X.env.qual ++ "<genexpr>") (s4.toks + 1 + 1)] } }) X.xe { s2 with heap := h3, toks := tk } := by
    intro code h3 tk more hx hsz hP3 hT3
    obtain ⟨bm, ob, e1, e2, e3, e4, e5, e6, e7, e8⟩ := TB.bm
    have I3 : Inv X pins σ (upd H2 P (.tbl (ps ++ more))) { s2 with heap := h3, toks := tk } := inv_tab (g' := s2.gens) (d' := s2.drawn) (t' := tk) I2 hP (fun b o hb e => hx b o hb e) hP3 I2.bare
    have f3 : ∀ b ∈ fp, FpOk X pins (upd H2 P (.tbl (ps ++ more))) b ∧ b < h3.objs.size := fun b hb => ⟨⟨by rw [upd_ne (nP b hb)]; exact (f2 b hb).1, (f2 b hb).2⟩, Nat.lt_of_lt_of_le (szf b hb) hsz⟩
    have st3 : tn 0 h3 := T.keep _ _ _ st2 fun b hb o e => hx b o (nP b hb) e
    obtain ⟨W, ⟨m0, w0⟩, turn⟩ := q (upd H2 P (.tbl (ps ++ more))) ⟨⟨_, upd_same, hT3⟩, fun b hb => upd_ne hb⟩
    refine wpAny_builtinsFor (m := X.mg) (by rw [I3.ok.glob]; exact I3.mod.glob.keeps I3.bk) e1 e2 (hx _ _ e4 (I2.bk _ _ e5)) e6 e7 e8 ?_
    intro h' hn' hs'
    have hsz' : h'.objs.size = h3.objs.size + 1 := by
      rw [hs'.1]
      exact Heap.size_push ..
    have kp : ∀ b o, h3.get? b = some o → (h'.push { cls := .type "generator", data := .fields #[.int s2.gens.size 0, .str "<genexpr>" (tk + 1), .str (X.env.qual ++ "<genexpr>") (tk + 1 + 1)] }).get? b = some o := fun b o e =>
      Heap.get?_push_of_some _ (hs'.extBut b o (Nat.ne_of_lt (Heap.lt_size e)) (Heap.get?_push_of_some _ e))
    have st5 := T.keep _ _ _ st3 fun b hb o e => kp b o e
    have nf : ∀ b ∈ fp, (upd H2 P (.tbl (ps ++ more))) b = none := fun b hb => (f3 b hb).1.1
    have IG := gen_start (ge := .GeneratorExp elt [⟨tg, iter, ifs, 0⟩] scope gpos) (it := it) (code := code) (tk := tk + 1 + 1 + 1)
      (gs := s2.gens.push (.fresh (.compStart (.GeneratorExp elt [⟨tg, iter, ifs, 0⟩] scope gpos) 0 (.ref it) .none (genEnv scope (cloFrom X.env.cells scope.names []) h3.objs.size code builtinsNs X.env)))) I3 hc ok hN S.nc f3
      (by show pushEnvs [_] (pushEnvs [] X.A.frames) = _; rw [I.ok.frames]; rfl) (I2.bare.push rfl) kp (hn'.keeps fun b o e => Heap.get?_push_of_some _ e) (Heap.get?_push_size h' rfl) (show h3.objs.size < h'.objs.size by omega) (fun v z => by cases z)
    refine hQ h'.objs.size _ s2.gens.size (m0 + 1) _ fp tn W _ List.mem_cons_self (fun h0 e => ?_) (fun s' H' J' => ?_) (Heap.get?_push_size h' rfl) ⟨_, _, Array.getElem?_push_size .., IG, fun s'' h1 h2 h3' => ?_⟩
    · exact ⟨_, _, _, e, rfl, rfl, rfl⟩
    · exact I3.call' (ch := fp) J'.os J'.base J'.hok J'.bare fun b hb => ⟨(f3 b hb).1.2.2.2.1, (f3 b hb).1.2.1, (f3 b hb).1.2.2.2.2.1, (f3 b hb).1.2.2.2.2.2⟩
    · refine ⟨rfl, gen_begin T (by rw [h1]; exact st5) ?_⟩
      refine gen_loop hc S.co T (fun p hp b hb z => ?_) (hg _ _ _ _ _ _ _) (ht _ _ _ _ _ _ _) (he _ _ _ _ _ _ _) turn m0 (m0 + 1) 0 s'' s'' _ (Nat.lt_succ_self _) w0 (inv_gens IG h1 h2 h3') (by rw [h1]; exact st5) nf
      rw [List.mem_singleton.mp hp] at z
      have z1 := (f3 b hb).2
      rw [← z] at z1
      have z2 : h'.objs.size < h3.objs.size := z1
      omega
  cases hf : codeAmong gpos ps.toList with
  | none =>
    refine wpAny_genexprCodeX hcode (cd.code hPs hT) (cd.tab hPs) hf fun c' h' tk hx hge hlt hco' _ htab' _ => ?_
    have tr : TriplesOk (ps ++ #[rawInt gpos.line, rawInt gpos.col, Value.ref c']).toList := by
      obtain ⟨_, _, _, _, _, _, _, _, _, _, _, _, _, _, _, _, _, _, _, z, _⟩ := hco'
      exact z
    exact cont _ h' tk _ hx (Nat.le_trans hge (Nat.le_of_lt hlt)) htab'.2 tr
  | some cv =>
    refine wpAny_genexprCode_hit hcode (cd.code hPs hT) hf ?_
    exact cont cv s2.heap s2.toks #[] (Heap.ExtBut.refl _ _) (Nat.le_refl _) (by rw [Array.append_empty]; exact hPs) (by rw [Array.append_empty]; exact hT)
theorem pe_any {p pos : Pos} (hr : Room k X.A) (hb : Gl X "any") (hm : X.mg "any" = none) (hc : X.calm = true) (hN : X.N.Nodup) (TB : TabB X.base X.mg c P) (hcode : X.env.code = .ref c) (hi : PI X tg iter wi) (ok : BlkOk X.N X.env.scope scope own) (S : GSc scope)
    (hg : ∀ (s : Shared) (H : Hp) (C : Addr) (code : Value) (it : Addr) (fp : List Addr) (pn : List (Addr × Obj)), PG (gCx X (.GeneratorExp elt [⟨tg, iter, ifs, 0⟩] scope gpos) s H (genEnv scope (cloFrom X.env.cells scope.names []) C code builtinsNs X.env) it fp pn) tg g)
    (ht : ∀ (s : Shared) (H : Hp) (C : Addr) (code : Value) (it : Addr) (fp : List Addr) (pn : List (Addr × Obj)), PTs (gCx X (.GeneratorExp elt [⟨tg, iter, ifs, 0⟩] scope gpos) s H (genEnv scope (cloFrom X.env.cells scope.names []) C code builtinsNs X.env) it fp pn) ifs tt)
    (he : ∀ (s : Shared) (H : Hp) (C : Addr) (code : Value) (it : Addr) (fp : List Addr) (pn : List (Addr × Obj)), PE (gCx X (.GeneratorExp elt [⟨tg, iter, ifs, 0⟩] scope gpos) s H (genEnv scope (cloFrom X.env.cells scope.names []) C code builtinsNs X.env) it fp pn) elt te)
    (hs : ∀ x, genFold iter X.env x = pure x := by intro _; rfl)
    (hst : starEach [.GeneratorExp elt [⟨tg, iter, ifs, 0⟩] scope gpos] X.env = (false, eval (.GeneratorExp elt [⟨tg, iter, ifs, 0⟩] scope gpos) X.env) :: starEach [] X.env := by rfl) :
    PE X (.Call (.Name "any" p) [.GeneratorExp elt [⟨tg, iter, ifs, 0⟩] scope gpos] [] pos) (tAA P true wi g tt te (own.map (·.2))) := by
  refine ⟨fun pins s σ H Q I h => wpAny_Call_Name_kw (ld_blt I hb hm boot_any (PyProof.Rows.callWith_builtin1 ?_ hst (by rfl)))⟩
  rw [hst]
  refine Calls.spliced_cons (gen_make hr hc hN TB hcode hi ok S hg ht he hs I h fun a go gn n Y fp tn W s5 h1 h2 h3 h4 SL => Calls.spliced_nil ?_)
  refine call_function_tree F.kind_any F.plain_any F.entry_any (F.args_any1 _) ?_
  unfold Builtin.«any»
  refine wpAny_bind (m := oneArg "any" _) (wpAny_pure (wpAny_bind (wpAny_pyIter_gen (h2 _ h4) (wpAny_pure ⟨plainId_quiet F.plain_any_loop _, ?_⟩))))
  exact any_loop (I.ok.hd hc) hr.depth h1 h2 (fun s' H' b J q => ⟨.bl b, H', h3 s' H' J, rfl, q⟩) n s5 SL
theorem pe_all {p pos : Pos} (hr : Room k X.A) (hb : Gl X "all") (hm : X.mg "all" = none) (hc : X.calm = true) (hN : X.N.Nodup) (TB : TabB X.base X.mg c P) (hcode : X.env.code = .ref c) (hi : PI X tg iter wi) (ok : BlkOk X.N X.env.scope scope own) (S : GSc scope)
    (hg : ∀ (s : Shared) (H : Hp) (C : Addr) (code : Value) (it : Addr) (fp : List Addr) (pn : List (Addr × Obj)), PG (gCx X (.GeneratorExp elt [⟨tg, iter, ifs, 0⟩] scope gpos) s H (genEnv scope (cloFrom X.env.cells scope.names []) C code builtinsNs X.env) it fp pn) tg g)
    (ht : ∀ (s : Shared) (H : Hp) (C : Addr) (code : Value) (it : Addr) (fp : List Addr) (pn : List (Addr × Obj)), PTs (gCx X (.GeneratorExp elt [⟨tg, iter, ifs, 0⟩] scope gpos) s H (genEnv scope (cloFrom X.env.cells scope.names []) C code builtinsNs X.env) it fp pn) ifs tt)
    (he : ∀ (s : Shared) (H : Hp) (C : Addr) (code : Value) (it : Addr) (fp : List Addr) (pn : List (Addr × Obj)), PE (gCx X (.GeneratorExp elt [⟨tg, iter, ifs, 0⟩] scope gpos) s H (genEnv scope (cloFrom X.env.cells scope.names []) C code builtinsNs X.env) it fp pn) elt te)
    (hs : ∀ x, genFold iter X.env x = pure x := by intro _; rfl)
    (hst : starEach [.GeneratorExp elt [⟨tg, iter, ifs, 0⟩] scope gpos] X.env = (false, eval (.GeneratorExp elt [⟨tg, iter, ifs, 0⟩] scope gpos) X.env) :: starEach [] X.env := by rfl) :
    PE X (.Call (.Name "all" p) [.GeneratorExp elt [⟨tg, iter, ifs, 0⟩] scope gpos] [] pos) (tAA P false wi g tt te (own.map (·.2))) := by
  refine ⟨fun pins s σ H Q I h => wpAny_Call_Name_kw (ld_blt I hb hm (show bootBuiltins "all" = some (.builtin "all") by decide +kernel) (PyProof.Rows.callWith_builtin1 ?_ hst (by rfl)))⟩
  rw [hst]
  refine Calls.spliced_cons (gen_make hr hc hN TB hcode hi ok S hg ht he hs I h fun a go gn n Y fp tn W s5 h1 h2 h3 h4 SL => Calls.spliced_nil ?_)
  refine call_function_tree F.kind_all F.plain_all F.entry_all (F.args_all1 _) ?_
  unfold Builtin.«all»
  refine wpAny_bind (m := oneArg "all" _) (wpAny_pure (wpAny_bind (wpAny_pyIter_gen (h2 _ h4) (wpAny_pure ⟨plainId_quiet F.plain_all_loop _, ?_⟩))))
  exact all_loop (I.ok.hd hc) hr.depth h1 h2 (fun s' H' b J q => ⟨.bl b, H', h3 s' H' J, rfl, q⟩) n s5 SL
end
end Gx
namespace Dr
open PySem PySem.Spec PyProof.Rows L2
/-! ### the drawing of numbers: smixed, sdraw, sopen -/
def topS (i : Nat) : Stmt := PySem.Challenge.pw_sparecut_k81_no_books_texts.main.body.getD i (.Pass ⟨0, 0, 0, 0⟩)
abbrev sFre : Stmt := topS 35
abbrev sDrw : Stmt := topS 36
abbrev sOpn : Stmt := topS 34
theorem scFre : FnScope ["pen", "at", "cell", "one", "two", "mixed", "other"] ["pen"] (defScope sFre) := ⟨rfl, rfl, rfl, by decide +kernel, rfl, by decide +kernel, by decide +kernel⟩
theorem scDrw : FnScope ["pen", "many", "found"] ["pen", "many"] (defScope sDrw) := ⟨rfl, rfl, rfl, by decide +kernel, rfl, by decide +kernel, by decide +kernel⟩
theorem scOpn : FnScope ["script"] ["script"] (defScope sOpn) := ⟨rfl, rfl, rfl, by decide +kernel, rfl, by decide +kernel, by decide +kernel⟩
/-- the built-ins that stand as they stood -/
structure Zp (mg : Str → Option Value) : Prop where
  z_len : mg "len" = none
  z_list : mg "list" = none
/-- what lies at f: cells (at c), a place, a rest; at most B cells were taken -/
def Feed (H : Hp) (f c : Addr) (B : Nat) : Prop := ∃ (ns : List Int) (n : Nat) (r : Int),
  H f = some (.lst [.ref c, .int n, .int r]) ∧ H c = some (.lst (ns.map V.int)) ∧ ns.length ≤ 60 ∧ n ≤ B
/-- all but f is as it was -/
def But (f : Addr) (H H' : Hp) : Prop := ∀ b, b ≠ f → H' b = H b
theorem But.refl (f : Addr) (H : Hp) : But f H H := fun _ _ => rfl
theorem But.trans {f : Addr} {H H1 H2 : Hp} (a : But f H H1) (b : But f H1 H2) : But f H H2 := fun x n => (b x n).trans (a x n)
theorem Feed.mono {H : Hp} {f c : Addr} {B B' : Nat} (h : Feed H f c B) (l : B ≤ B') : Feed H f c B' := by
  obtain ⟨ns, n, r, h1, h2, h3, h4⟩ := h
  exact ⟨ns, n, r, h1, h2, h3, Nat.le_trans h4 l⟩
theorem Feed.same {H H' : Hp} {f c : Addr} {B : Nat} (h : Feed H f c B) (s : Same H H') : Feed H' f c B := by
  obtain ⟨ns, n, r, h1, h2, h3, h4⟩ := h
  exact ⟨ns, n, r, s _ _ h1, s _ _ h2, h3, h4⟩
theorem Feed.upd {H : Hp} {f c D : Addr} {B : Nat} {o : HO} (h : Feed H f c B) (nf : D ≠ f) (nc : D ≠ c) : Feed (upd H D o) f c B := by
  obtain ⟨ns, n, r, h1, h2, h3, h4⟩ := h
  exact ⟨ns, n, r, by rw [upd_ne (Ne.symm nf)]; exact h1, by rw [upd_ne (Ne.symm nc)]; exact h2, h3, h4⟩
theorem Feed.nf {H : Hp} {f c D : Addr} {B : Nat} (h : Feed H f c B) (n : H D = none) : D ≠ f := by
  obtain ⟨_, _, _, h1, _⟩ := h
  exact Ne.symm (ne_of_none h1 n)
theorem Feed.nc {H : Hp} {f c D : Addr} {B : Nat} (h : Feed H f c B) (n : H D = none) : D ≠ c := by
  obtain ⟨_, _, _, _, h2, _⟩ := h
  exact Ne.symm (ne_of_none h2 n)
theorem feed_ne {H : Hp} {f c : Addr} {ns : List Int} {a : V} {as : List V} (h1 : H f = some (.lst (.ref c :: as))) (h2 : H c = some (.lst (ns.map V.int))) : c ≠ f := by
  intro e
  rw [e, h1] at h2
  have z := HO.lst.inj (Option.some.inj h2)
  cases ns with
  | nil => cases z
  | cons x r => cases z
section
variable {P : Program} {w : World} {K : PySem.W.Frag} {mg : Str → Option Value} {base : Heap}
/-- sopen(script) -/
def spOpn (K : PySem.W.Frag) : Sp := fun vs H Q _ => ∃ (a : Addr) (ns : List Int), vs = [.ref a] ∧ SqL K H a (ns.map V.int) ∧ ∀ (f c : Addr) (H' : Hp), H f = none → H c = none → Same H H' → Feed H' f c 0 → Q (.ref f) H'
theorem cut60 (ns : List Int) : cutV (ns.map V.int) none (some 60) = (ns.take 60).map V.int := by
  unfold cutV
  rw [HT.sIx_none, show HT.sIx (ns.map V.int).length (ns.map V.int).length (some 60) = min 60 (ns.map V.int).length from HT.sIx_nat _ _ 60]
  rw [List.drop_zero, Nat.sub_zero, List.map_take, List.length_map]
  by_cases h : ns.length ≤ 60
  · rw [Nat.min_eq_right h, List.take_of_length_le (by rw [List.length_map]; exact Nat.le_refl _), List.take_of_length_le (by rw [List.length_map]; exact h)]
  · rw [Nat.min_eq_left (by omega)]
theorem same_upd {H : Hp} {p : Addr} {o : HO} (h : H p = none) : Same H (upd H p o) := fun b x e => by
  rw [upd_ne (ne_of_none e h)]
  exact e
theorem ok_opn {f : Addr} {fd : FuncData} {k : Nat} (F : Fun K "_law_e_pen" "_law_e_pen" sOpn f fd) (ml : mg "list" = none) : FnOk P w K mg base CX0 (k + 1) f fd ["script"] (spOpn K) := by
  refine F.ok scOpn (fun vs H Q E h => ?_) (fun cdv A outer s H vs Q E hr h => ?_)
  · obtain ⟨a, ns, rfl, _⟩ := h
    rfl
  · obtain ⟨a, ns, rfl, hS, q⟩ := h
    refine ⟨_, pss_one (ps_ret (pe_lst (pa_cons (pe_callTy call_list_of (by rfl) ml (by decide +kernel) (pa_cons (pe_slice sl_list (pv 0) po_none (po_some pe_int)) pa_nil)) (pa_cons pe_int (pa_cons pe_int pa_nil))))), ?_⟩
    refine ⟨.ref a, rfl, 60, rfl, a, _, rfl, hS, fun c nc => ?_⟩
    refine ⟨c, _, rfl, .inl (.of upd_same), fun d nd => ?_⟩
    refine ⟨by show 3 ≤ sizeLine; decide, fun p np => ?_⟩
    have s1 : Same H (upd H c (.lst (cutV (ns.map V.int) none (some 60)))) := same_upd nc
    have s2 := s1.trans (same_upd (o := .lst (cutV (ns.map V.int) none (some 60))) nd)
    have s3 := s2.trans (same_upd (o := .lst [.ref d, .int 0, .int 0]) np)
    refine q p d _ (s2.free np) (s1.free nd) s3 ⟨ns.take 60, 0, 0, upd_same, ?_, ?_, Nat.le_refl _⟩
    · have ndp : d ≠ p := ne_of_none (upd_same (H := upd H c (.lst (cutV (ns.map V.int) none (some 60)))) (a := d) (o := .lst (cutV (ns.map V.int) none (some 60)))) np
      rw [upd_ne ndp, upd_same, cut60]
    · rw [List.length_take]
      omega
end
end Dr
namespace Kp
open PySem PySem.Spec PyProof.Rows L2 GxR Nw Dr
/-! ### what a call leaves as it was: all but the feed (F) and the tables of code objects -/
structure Ke (F : Addr → Prop) (H H' : Hp) : Prop where
  keep : ∀ b o, H b = some o → (∀ ps, o ≠ .tbl ps) → ¬ F b → H' b = some o
  tabs : ∀ P, TabG H P → TabG H' P
  tups : ∀ b xs, H b = some (.tup xs) → H' b = some (.tup xs)
abbrev Nof : Addr → Prop := fun _ => False
variable {F G : Addr → Prop} {H H1 H2 H' : Hp} {f c P : Addr} {B : Nat}
theorem Ke.refl (F : Addr → Prop) (H : Hp) : Ke F H H := ⟨fun _ _ h _ _ => h, fun _ h => h, fun _ _ h => h⟩
theorem Ke.trans (a : Ke F H H1) (b : Ke F H1 H2) : Ke F H H2 := ⟨fun x o h n m => b.keep x o (a.keep x o h n m) n m, fun Q h => b.tabs Q (a.tabs Q h), fun x xs h => b.tups x xs (a.tups x xs h)⟩
theorem Ke.mono (a : Ke F H H1) (h : ∀ b, F b → G b) : Ke G H H1 := ⟨fun x o e n m => a.keep x o e n fun z => m (h x z), a.tabs, a.tups⟩
theorem Ke.all (a : Ke Nof H H1) : Ke F H H1 := a.mono fun _ z => z.elim
theorem Ke.same (s : Same H H1) : Ke F H H1 := ⟨fun b o e _ _ => s b o e, fun Q ⟨ps, h, t⟩ => ⟨ps, s _ _ h, t⟩, fun b xs e => s _ _ e⟩
theorem Ke.lst {a : Addr} {xs : List V} (k : Ke F H H1) (h : H a = some (.lst xs)) (n : ¬ F a) : H1 a = some (.lst xs) := k.keep a _ h (fun ps z => by cases z) n
theorem Ke.tabbed (t : TabG H P) (x : Tabbed P H H1) : Ke F H H1 := by
  obtain ⟨ps, hP, _⟩ := t
  have nP : ∀ b o, H b = some o → (∀ qs, o ≠ .tbl qs) → b ≠ P := fun b o e n z => by
    rw [z, hP] at e
    exact n ps (Option.some.inj e).symm
  refine ⟨fun b o e n _ => (x.2 b (nP b o e n)).trans e, fun Q hQ => ?_, fun b xs e => (x.2 b (nP b _ e fun qs z => by cases z)).trans e⟩
  by_cases hq : Q = P
  · rw [hq]
    exact x.1
  · obtain ⟨qs, h1, h2⟩ := hQ
    exact ⟨qs, (x.2 Q hq).trans h1, h2⟩
theorem Ke.but (h : Feed H f c B) (b : But f H H1) : Ke (· = f) H H1 := by
  obtain ⟨ns, n, r, h1, _⟩ := h
  refine ⟨fun x o e _ m => (b x m).trans e, fun Q ⟨qs, e, t⟩ => ⟨qs, (b Q fun z => ?_).trans e, t⟩, fun x xs e => (b x fun z => ?_).trans e⟩
  · rw [z, h1] at e
    cases e
  · rw [z, h1] at e
    cases e
/-- a write to an object of ours that was new behind H -/
theorem Ke.upd {p : Addr} {o : HO} (k : Ke F H H1) (n : H p = none) : Ke F H (upd H1 p o) := by
  refine ⟨fun b x e t m => ?_, fun Q hQ => ?_, fun b xs e => ?_⟩
  · rw [upd_ne (ne_of_none e n)]
    exact k.keep b x e t m
  · obtain ⟨ps, e, t⟩ := hQ
    obtain ⟨qs, e2, t2⟩ := k.tabs Q ⟨ps, e, t⟩
    exact ⟨qs, by rw [upd_ne (ne_of_none e n)]; exact e2, t2⟩
  · rw [upd_ne (ne_of_none e n)]
    exact k.tups b xs e
theorem Ke.feed (k : Ke Nof H H1) (h : Feed H f c B) : Feed H1 f c B := by
  obtain ⟨ns, n, r, h1, h2, h3, h4⟩ := h
  exact ⟨ns, n, r, k.lst h1 (fun z => z), k.lst h2 (fun z => z), h3, h4⟩
/-- p holds nothing that H knows (but a table, perhaps) -/
def Frs (H : Hp) (p : Addr) : Prop := ∀ b o, H b = some o → (∀ ps, o ≠ .tbl ps) → b ≠ p
theorem Frs.of {p : Addr} (h : H p = none) : Frs H p := fun b o e _ => ne_of_none e h
theorem Frs.ke {p : Addr} (k : Ke (· = f) H H1) (hF : Feed H1 f c B) (h : Frs H1 p) : Frs H p := fun b o e n => by
  by_cases hb : b = f
  · obtain ⟨_, _, _, h1, _⟩ := hF
    rw [hb]
    exact h f _ h1 fun ps z => by cases z
  · exact h b o (k.keep b o e n hb) n
theorem Frs.ke0 {p : Addr} (k : Ke Nof H H1) (h : Frs H1 p) : Frs H p := fun b o e n => h b o (k.keep b o e n fun z => z) n
theorem Ke.write {p : Addr} {xs : List V} {o : HO} (k : Ke F H H1) (fr : Frs H p) (h1 : H1 p = some (.lst xs)) : Ke F H (L2.upd H1 p o) := by
  refine ⟨fun b x e t m => ?_, fun Q hQ => ?_, fun b ys e => ?_⟩
  · rw [upd_ne (fr b x e t)]
    exact k.keep b x e t m
  · obtain ⟨qs, e2, t2⟩ := k.tabs Q hQ
    have n : Q ≠ p := fun z => by
      rw [z, h1] at e2
      cases e2
    exact ⟨qs, by rw [upd_ne n]; exact e2, t2⟩
  · rw [upd_ne (fr b _ e fun ps z => by cases z)]
    exact k.tups b ys e
/-- whole numbers in a tuple, truths in a tuple -/
def TupI (H : Hp) (v : V) (ns : List Int) : Prop := ∃ a, v = .ref a ∧ H a = some (.tup (ns.map V.int))
def TupB (H : Hp) (v : V) (bs : List Bool) : Prop := ∃ a, v = .ref a ∧ H a = some (.tup (bs.map V.bl))
def LstI (H : Hp) (v : V) (ns : List Int) : Prop := ∃ a, v = .ref a ∧ H a = some (.lst (ns.map V.int))
/-- a tuple of claims -/
def Bk (H : Hp) (v : V) (css : List (List Int)) : Prop := ∃ a vs, v = .ref a ∧ H a = some (.tup vs) ∧ vs.length = css.length ∧ ∀ (i : Nat) (x : V) (cs : List Int), vs[i]? = some x → css[i]? = some cs → TupI H x cs
theorem TupI.ke {v : V} {ns : List Int} (h : TupI H v ns) (k : Ke F H H1) : TupI H1 v ns := by
  obtain ⟨a, e, h⟩ := h
  exact ⟨a, e, k.tups _ _ h⟩
theorem TupB.ke {v : V} {ns : List Bool} (h : TupB H v ns) (k : Ke F H H1) : TupB H1 v ns := by
  obtain ⟨a, e, h⟩ := h
  exact ⟨a, e, k.tups _ _ h⟩
theorem Bk.ke {v : V} {css : List (List Int)} (h : Bk H v css) (k : Ke F H H1) : Bk H1 v css := by
  obtain ⟨a, vs, e, h, l, t⟩ := h
  exact ⟨a, vs, e, k.tups _ _ h, l, fun i x cs h1 h2 => (t i x cs h1 h2).ke k⟩
/-! ### claims -/
def rising : List Int → Bool
  | a :: b :: r => decide (a < b) && rising (b :: r)
  | _ => true
structure IsCl (cs : List Int) : Prop where
  up : cs.Pairwise (· < ·)
  says : ∀ k ∈ cs, k ≠ 0 ∧ -8 ≤ k ∧ k ≤ 8
  opp : ∀ k ∈ cs, -k ∉ cs
  len : cs.length ≤ 8
theorem IsCl.nil : IsCl [] := { up := .nil, says := fun _ h => (nomatch h), opp := fun _ h => (nomatch h), len := by decide }
end Kp
namespace Dr
open PySem PySem.Spec PyProof.Rows L2 Nw Kp
theorem pick7 (n : Nat) : ∃ one : Int, 2147483500 < one ∧ one < 2147483648 ∧ atI [V.int 2147483647, V.int 2147483629, V.int 2147483587, V.int 2147483579, V.int 2147483563, V.int 2147483549, V.int 2147483543] ((n : Int) % 7) = some (.int one) := by
  have h : (n : Int) % 7 = 0 ∨ (n : Int) % 7 = 1 ∨ (n : Int) % 7 = 2 ∨ (n : Int) % 7 = 3 ∨ (n : Int) % 7 = 4 ∨ (n : Int) % 7 = 5 ∨ (n : Int) % 7 = 6 := by omega
  rcases h with h | h | h | h | h | h | h <;> rw [h] <;> exact ⟨_, by decide, by decide, rfl⟩
theorem pick5 (n : Nat) : ∃ two : Int, 2147483390 < two ∧ two < 2147483648 ∧ atI [V.int 2147483497, V.int 2147483489, V.int 2147483477, V.int 2147483423, V.int 2147483399] ((n : Int) % 5) = some (.int two) := by
  have h : (n : Int) % 5 = 0 ∨ (n : Int) % 5 = 1 ∨ (n : Int) % 5 = 2 ∨ (n : Int) % 5 = 3 ∨ (n : Int) % 5 = 4 := by omega
  rcases h with h | h | h | h | h <;> rw [h] <;> exact ⟨_, by decide, by decide, rfl⟩
section
variable {P : Program} {w : World} {K : PySem.W.Frag} {mg : Str → Option Value} {base : Heap}
/-- fresh(pen): any number -/
def spFre : Sp := fun vs H Q _ => ∃ (f c : Addr) (B : Nat), vs = [.ref f] ∧ Feed H f c B ∧ B ≤ 2 ^ 28 ∧ ∀ (r : Int) (H' : Hp), Feed H' f c (B + 1) → Ke (· = f) H H' → Q (.int r) H'
set_option exponentiation.threshold 4000 in
theorem ok_fre {f : Addr} {fd : FuncData} {k : Nat} (F : Fun K "_law_e_fresh" "_law_e_fresh" sFre f fd) (T : Zp mg) : FnOk P w K mg base CX0 (k + 1) f fd ["pen"] spFre := by
  refine F.ok scFre (fun vs H Q E h => ?_) (fun cdv A outer s H vs Q E hr h => ?_)
  · obtain ⟨f, c, B, rfl, _⟩ := h
    rfl
  · obtain ⟨f, c, B, rfl, hF, hB, q⟩ := h
    obtain ⟨ns, n, r, h1, h2, h3, h4⟩ := id hF
    have hcf : c ≠ f := feed_ne (a := .non) h1 h2
    have hS : SqL K H f [.ref c, .int n, .int r] := .of h1
    have n28 : n ≤ 268435456 := Nat.le_trans h4 hB
    refine ⟨_, (pss_cons (ps_set (i := 1) scFre.nd rfl (.inl rfl) (pe_ix ix_list (pv 0) pe_int (fun _ _ => rfl)))
      (Evl.pss_cut (ps_asg (pe_op op_add (pv 1) pe_int) (pg_sub (pv 0) pe_int set_list))
      (pss_cons (ps_set (i := 2) scFre.nd rfl (.inl rfl) pe_int)
      (Evl.pss_cut (ps_if (pt_cmpR (op_neD hr.units) (pe_ix ix_list (pv 0) pe_int (fun _ _ => rfl)) (pe_lstN pa_nil) (nomark _)) (pss_one (ps_set (i := 2) scFre.nd rfl (.inl rfl) (pe_op op_fdiv (pe_ix ix_list (pe_ix ix_list (pv 0) pe_int (fun _ _ => rfl)) (pe_op op_mod (pe_op op_mul (pv 1) pe_int) (pe_callB call_len_seq (by rfl) T.z_len (by decide +kernel) (pa_cons (pe_ix ix_list (pv 0) pe_int (fun _ _ => rfl)) pa_nil))) (fun _ _ => rfl)) (pe_op op_add pe_int (pe_op op_fdiv (pv 1) (pe_callB call_len_seq (by rfl) T.z_len (by decide +kernel) (pa_cons (pe_ix ix_list (pv 0) pe_int (fun _ _ => rfl)) pa_nil))))))) pss_nil)
      (Evl.pss_cut (ps_if (pt_cmpR op_lt (pv 1) (pe_callB call_len_seq (by rfl) T.z_len (by decide +kernel) (pa_cons (pe_ix ix_list (pv 0) pe_int (fun _ _ => rfl)) pa_nil)) (nomark _)) (pss_one (ps_set (i := 2) scFre.nd rfl (.inl rfl) (pe_ix ix_list (pe_ix ix_list (pv 0) pe_int (fun _ _ => rfl)) (pv 1) (fun _ _ => rfl)))) pss_nil)
      (pss_cons (ps_if (pt_cmpR op_ge (pv 2) (pe_op op_pow pe_int pe_int) (nomark _)) (pss_one (ps_ret (pv 2))) pss_nil)
      (Evl.pss_cut (ps_set (i := 3) scFre.nd rfl (.inl rfl) (pe_ix ix_list (pe_lstN (pa_cons pe_int (pa_cons pe_int (pa_cons pe_int (pa_cons pe_int (pa_cons pe_int (pa_cons pe_int (pa_cons pe_int pa_nil)))))))) (pe_op op_mod (pv 1) pe_int) (fun _ _ => rfl)))
      (Evl.pss_cut (ps_set (i := 4) scFre.nd rfl (.inl rfl) (pe_ix ix_list (pe_lstN (pa_cons pe_int (pa_cons pe_int (pa_cons pe_int (pa_cons pe_int (pa_cons pe_int pa_nil)))))) (pe_op op_mod (pv 1) pe_int) (fun _ _ => rfl)))
      (Evl.pss_cut (ps_set (i := 5) scFre.nd rfl (.inl rfl) (pe_op op_mod (pe_op op_pow (pe_op op_add (pe_op op_add (pe_op op_mod (pv 2) (pv 3)) (pe_op op_mul pe_int (pv 1))) pe_int) pe_int) (pv 3)))
      (Evl.pss_cut (ps_set (i := 6) scFre.nd rfl (.inl rfl) (pe_op op_mod (pe_op op_pow (pe_op op_add (pe_op op_add (pv 5) (pe_op op_mod (pv 2) (pv 4))) (pe_op op_mul (pv 1) (pv 1))) pe_int) (pv 4)))
      (pss_one (ps_ret (pe_op op_add (pe_op op_mul (pe_op op_add (pv 5) pe_int) (pv 4)) (pv 6)))))))))))))), ?_⟩
    refine ⟨.ref f, rfl, f, _, 1, _, rfl, rfl, hS, rfl, ?_⟩
    -- pen[1] = at + 1
    refine Evl.q_cut (M := fun σ' H' => σ' = [some (.ref f), some (.int n), none, none, none, none, none] ∧ H' f = some (.lst [.ref c, .int ((n + 1 : Nat) : Int), .int r]) ∧ H' c = some (.lst (ns.map V.int)) ∧ Ke (· = f) H H') ?_ ?_
    · refine ⟨_, rfl, _, _, rfl, rfl, _, rfl, f, _, 1, 1, rfl, rfl, h1, rfl, rfl, upd_same, by rw [upd_ne hcf]; exact h2, .but hF fun b nb => upd_ne nb⟩
    rintro σ' H1 ⟨rfl, f1, c1, k1⟩
    have F1 : Feed H1 f c (B + 1) := ⟨ns, n + 1, r, f1, c1, h3, by omega⟩
    have hS1 : SqL K H1 f [.ref c, .int ((n + 1 : Nat) : Int), .int r] := .of f1
    have hC1 : SqL K H1 c (ns.map V.int) := .of c1
    -- cell
    refine Evl.q_cut (M := fun σ' H' => ∃ z : Int, σ' = [some (.ref f), some (.int n), some (.int z), none, none, none, none] ∧ Same H1 H') ?_ ?_
    · refine ⟨.ref f, rfl, f, _, 0, _, rfl, rfl, hS1, rfl, Nat.zero_le _, fun p H2 np s2 hp _ => ?_⟩
      have hS2 : SqL K H2 f [.ref c, .int ((n + 1 : Nat) : Int), .int r] := .of (s2 _ _ f1)
      have hC2 : SqL K H2 c (ns.map V.int) := .of (s2 _ _ c1)
      refine ⟨_, _, .lst hC2 (dp_ints ns), .lst (.of hp) .nil, shaped_list (flat_ints _), shaped_list rfl, _, rfl, ite2 (fun e => ?_) (fun e => ?_)⟩
      · have l0 : 0 < ns.length := by
          cases ns with
          | nil => exact absurd e (by decide)
          | cons a b => exact Nat.succ_pos _
        have l1 : n * 7 % ns.length < ns.length := Nat.mod_lt _ l0
        refine ⟨.ref f, rfl, f, _, 0, _, rfl, rfl, hS2, rfl, _, rfl, _, _, rfl, rfl, .inr ⟨by decide, by decide⟩, .ref f, rfl, f, _, 0, _, rfl, rfl, hS2, rfl, c, _, rfl, .inl hC2, _, _, rfl, rfl, ?_, c, _, _, .int (ns[n * 7 % ns.length]), rfl, rfl, hC2, ?_, ?_⟩
        · show (0 : Int) < ((ns.map V.int).length : Int)
          rw [List.length_map]
          omega
        · refine at_of (j := n * 7 % ns.length) ?_ ?_
          · rw [List.length_map, Int.natCast_emod, Int.natCast_mul]
            rfl
          · rw [List.getElem?_map, List.getElem?_eq_getElem l1]
            rfl
        · refine ⟨_, rfl, .ref f, rfl, f, _, 0, _, rfl, rfl, hS2, rfl, c, _, rfl, .inl hC2, _, _, rfl, rfl, ⟨?_, ?_⟩, _, _, rfl, rfl, _, _, rfl, rfl, ⟨?_, ?_⟩, _, rfl, s2⟩
          · show (0 : Int) < ((ns.map V.int).length : Int)
            rw [List.length_map]
            omega
          · show ((ns.map V.int).length : Int) < 1073741824
            rw [List.length_map]
            omega
          · show (0 : Int) < 1 + (n : Int) / ((ns.map V.int).length : Int)
            have : (0 : Int) ≤ (n : Int) / ((ns.map V.int).length : Int) := Int.ediv_nonneg (by omega) (by omega)
            omega
          · show 1 + (n : Int) / ((ns.map V.int).length : Int) < 1073741824
            have : (n : Int) / ((ns.map V.int).length : Int) ≤ n := Int.ediv_le_self _ (by omega)
            omega
      · exact ⟨_, rfl, s2⟩
    rintro σ' H2 ⟨z, rfl, s2⟩
    have hS2 : SqL K H2 f [.ref c, .int ((n + 1 : Nat) : Int), .int r] := .of (s2 _ _ f1)
    have hC2 : SqL K H2 c (ns.map V.int) := .of (s2 _ _ c1)
    refine Evl.q_cut (M := fun σ' H' => ∃ z : Int, σ' = [some (.ref f), some (.int n), some (.int z), none, none, none, none] ∧ H' = H2) ?_ ?_
    · refine ⟨_, rfl, .ref f, rfl, f, _, 0, _, rfl, rfl, hS2, rfl, c, _, rfl, .inl hC2, _, _, rfl, rfl, _, rfl, ite2 (fun e => ?_) (fun e => ?_)⟩
      · have l1 : n < ns.length := by
          have e : (n : Int) < ((ns.map V.int).length : Int) := of_decide_eq_true e
          rw [List.length_map] at e
          omega
        refine ⟨.ref f, rfl, f, _, 0, _, rfl, rfl, hS2, rfl, _, rfl, c, _, _, .int (ns[n]), rfl, rfl, hC2, ?_, _, rfl, rfl⟩
        refine at_of (j := n) rfl ?_
        rw [List.getElem?_map, List.getElem?_eq_getElem l1]
        rfl
      · exact ⟨_, rfl, rfl⟩
    clear z
    rintro σ' H' ⟨z, rfl, rfl⟩
    have F2 := F1.same s2
    have k2 : Ke (· = f) H H' := k1.trans (.same s2)
    refine ⟨_, rfl, _, _, rfl, rfl, ⟨by decide, by decide, by decide⟩, _, _, rfl, rfl, _, rfl, ite2 (fun e => ⟨_, rfl, q z H' F2 k2⟩) (fun e => ?_)⟩
    -- one
    obtain ⟨one, o1, o2, ha⟩ := pick7 n
    refine Evl.q_cut (M := fun σ' H2 => σ' = [some (.ref f), some (.int n), some (.int z), some (.int one), none, none, none] ∧ Same H' H2) ?_ ?_
    · refine ⟨by show 7 ≤ sizeLine; decide, fun p H3 np s3 hp _ => ?_⟩
      exact ⟨_, rfl, _, _, rfl, rfl, by show (0 : Int) < 7; decide, p, _, _, .int one, rfl, rfl, .of hp, ha, rfl, s3⟩
    rintro σ' H3 ⟨rfl, s3⟩
    obtain ⟨two, t1, t2, hb⟩ := pick5 n
    refine Evl.q_cut (M := fun σ' H2 => σ' = [some (.ref f), some (.int n), some (.int z), some (.int one), some (.int two), none, none] ∧ Same H' H2) ?_ ?_
    · refine ⟨by show 5 ≤ sizeLine; decide, fun p H4 np s4 hp _ => ?_⟩
      exact ⟨_, rfl, _, _, rfl, rfl, by show (0 : Int) < 5; decide, p, _, _, .int two, rfl, rfl, .of hp, hb, rfl, s3.trans s4⟩
    rintro σ' H4 ⟨rfl, s4⟩
    have z1 : 0 ≤ z % one := Int.emod_nonneg _ (by omega)
    have z2 : z % one < one := Int.emod_lt_of_pos _ (by omega)
    have z3 : 0 ≤ z % two := Int.emod_nonneg _ (by omega)
    have z4 : z % two < two := Int.emod_lt_of_pos _ (by omega)
    refine Evl.q_cut (M := fun σ' H2 => ∃ mx : Int, σ' = [some (.ref f), some (.int n), some (.int z), some (.int one), some (.int two), some (.int mx), none] ∧ H2 = H4 ∧ 0 ≤ mx ∧ mx < one) ?_ ?_
    · refine ⟨_, rfl, _, rfl, _, _, rfl, rfl, (by show (0 : Int) < one; omega), _, rfl, _, _, rfl, rfl, .inl ⟨by decide, by decide⟩, _, _, rfl, rfl, _, _, rfl, rfl, _, _, rfl, rfl, ⟨by decide, by decide, ?_⟩, _, rfl, _, _, rfl, rfl, (by show (0 : Int) < one; omega), _, rfl, rfl, Int.emod_nonneg _ (by omega), Int.emod_lt_of_pos _ (by omega)⟩
      show (z % one + 31 * (n : Int) + 5).natAbs < 18446744073709551616
      omega
    rintro σ' H5 ⟨mx, rfl, rfl, m1, m2⟩
    refine Evl.q_cut (M := fun σ' H2 => ∃ ot : Int, σ' = [some (.ref f), some (.int n), some (.int z), some (.int one), some (.int two), some (.int mx), some (.int ot)] ∧ H2 = H5) ?_ ?_
    · refine ⟨_, rfl, _, rfl, _, rfl, _, _, rfl, rfl, (by show (0 : Int) < two; omega), _, _, rfl, rfl, _, rfl, _, rfl, _, _, rfl, rfl, .inl ⟨by omega, by omega⟩, _, _, rfl, rfl, _, _, rfl, rfl, ⟨by decide, by decide, ?_⟩, _, rfl, _, _, rfl, rfl, (by show (0 : Int) < two; omega), _, rfl, rfl⟩
      show (mx + z % two + (n : Int) * (n : Int)).natAbs < 18446744073709551616
      have : (n : Int) * (n : Int) ≤ 268435456 * 268435456 := Int.mul_le_mul (by omega) (by omega) (by omega) (by omega)
      have : 0 ≤ (n : Int) * (n : Int) := Int.mul_nonneg (by omega) (by omega)
      omega
    rintro σ' H6 ⟨ot, rfl, rfl⟩
    exact ⟨_, rfl, _, _, rfl, rfl, _, rfl, _, _, rfl, rfl, .inl ⟨by omega, by omega⟩, _, rfl, _, _, rfl, rfl, q _ _ (F2.same s4) (k2.trans (.same s4))⟩
/-- take(pen, many): any number from 0 to many - 1 -/
def spDrw : Sp := fun vs H Q _ => ∃ (f c : Addr) (m : Int) (B : Nat), vs = [.ref f, .int m] ∧ 0 < m ∧ m < 2 ^ 29 ∧ Feed H f c B ∧ B ≤ 2 ^ 28 ∧
  ∀ (d : Int) (H' : Hp), 0 ≤ d → d < m → Feed H' f c (B + 1) → Ke (· = f) H H' → Q (.int d) H'
theorem ok_drw {f fM : Addr} {fd fdM : FuncData} {k : Nat} (F : Fun K "_law_e_take" "_law_e_take" sDrw f fd) (FM : Fun K "_law_e_fresh" "_law_e_fresh" sFre fM fdM) (bM : Binds K fdM ["pen"] []) (gM : mg "_law_e_fresh" = some (.ref fM)) (T : Zp mg) :
    FnOk P w K mg base CX0 (k + 2) f fd ["pen", "many"] spDrw := by
  have GM : FnOk P w K mg base CX0 1 fM fdM ["pen"] spFre := ok_fre FM T
  refine F.ok scDrw (fun vs H Q E h => ?_) (fun cdv A outer s H vs Q E hr h => ?_)
  · obtain ⟨f, c, m, B, rfl, _⟩ := h
    rfl
  · obtain ⟨f, c, m, B, rfl, m0, m1, hF, hB, q⟩ := h
    have hr1 : Room 1 _ := hr.mono (by omega)
    obtain ⟨ns, n, r, h1, h2, h3, h4⟩ := id hF
    have hcf : c ≠ f := feed_ne (a := .non) h1 h2
    have hS : SqL K H f [.ref c, .int n, .int r] := .of h1
    refine ⟨_, (Evl.pss_cut (ps_if (pt_cmpR op_lt (pe_ix ix_list (pv 0) pe_int (fun _ _ => rfl)) (pv 1) (nomark _)) (pss_one (ps_asg (pe_call GM hr1 (by rfl) gM FM.kp bM .nil pass0 (pa_cons (pv 0) pa_nil)) (pg_sub (pv 0) pe_int set_list))) pss_nil)
      (pss_cons (ps_set (i := 2) scDrw.nd rfl (.inl rfl) (pe_op op_mod (pe_ix ix_list (pv 0) pe_int (fun _ _ => rfl)) (pv 1)))
      (pss_cons (ps_asg (pe_op op_fdiv (pe_ix ix_list (pv 0) pe_int (fun _ _ => rfl)) (pv 1)) (pg_sub (pv 0) pe_int set_list))
      (pss_one (ps_ret (pv 2)))))), ?_⟩
    refine Evl.q_cut (M := fun σ' H' => σ' = [some (.ref f), some (.int m), none] ∧ Feed H' f c (B + 1) ∧ Ke (· = f) H H') ?_ ?_
    · refine ⟨.ref f, rfl, f, _, 2, _, rfl, rfl, hS, rfl, .int m, rfl, _, _, rfl, rfl, _, rfl, ite2 (fun e => ?_) (fun e => ?_)⟩
      · refine ⟨_, rfl, f, c, B, rfl, hF, hB, fun r2 H2 F2 k2 => ?_⟩
        obtain ⟨ns2, n2, r3, e1, e2, e3, e4⟩ := id F2
        have hcf2 : c ≠ f := feed_ne (a := .non) e1 e2
        refine ⟨_, rfl, f, _, 2, 2, rfl, rfl, e1, rfl, rfl, ⟨ns2, n2, r2, upd_same, by rw [upd_ne hcf2]; exact e2, e3, e4⟩, k2.trans (.but F2 fun b nb => upd_ne nb)⟩
      · exact ⟨rfl, hF.mono (by omega), .refl _ _⟩
    rintro σ' H' ⟨rfl, F1, k1⟩
    obtain ⟨ns2, n2, r3, e1, e2, e3, e4⟩ := id F1
    have hcf2 : c ≠ f := feed_ne (a := .non) e1 e2
    have hS1 : SqL K H' f [.ref c, .int n2, .int r3] := .of e1
    refine ⟨.ref f, rfl, f, _, 2, _, rfl, rfl, hS1, rfl, .int m, rfl, _, _, rfl, rfl, m0, ?_⟩
    refine ⟨.ref f, rfl, f, _, 2, _, rfl, rfl, hS1, rfl, .int m, rfl, _, _, rfl, rfl, ⟨m0, by omega⟩, .ref f, rfl, f, _, 2, 2, rfl, rfl, e1, rfl, ?_⟩
    exact ⟨_, rfl, q (r3 % m) _ (Int.emod_nonneg _ (by omega)) (Int.emod_lt_of_pos _ m0) ⟨ns2, n2, r3 / m, upd_same, by rw [upd_ne hcf2]; exact e2, e3, e4⟩ (k1.trans (.but F1 fun b nb => upd_ne nb))⟩
end
end Dr
namespace Gd
open PySem PySem.Spec PyProof.Rows L2
/-! ### a law that shows lists (repr): run where nothing is being shown -/
/-- a promise for calls made while nothing is being shown -/
structure FnG (P : Program) (w : World) (K : PySem.W.Frag) (mg : Str → Option Value) (base : Heap) (k : Nat) (f : Addr) (fd : FuncData) (ps : List Str) (sp : Sp) : Prop where
  len : ∀ us H Q E, sp us H Q E → us.length = ps.length
  run : ∀ (A : Around) (outer : List Env) (s : Shared) (H : Hp) (args : Args) (us : List Value) (vs : List V) (Q : VK) (E : XK), A.guards = some [] → Room k A → Env0 P w K mg base A outer s H → BindsTo s fd args (ps.zip us) → Vals vs us → sp vs H Q E → codeAny (model P w) A (.call (.ref f) args) (CR CX0 outer P w H s Q E) s
section
variable {P : Program} {w : World} {K : PySem.W.Frag} {mg : Str → Option Value} {base : Heap}
theorem okG {x qual : Str} {st : Stmt} {f : Addr} {fd : FuncData} {N ps : List Str} {k : Nat} {sp : Sp} (F : Fun K x qual st f fd) (S : FnScope N ps (defScope st)) (ln : ∀ us H Q E, sp us H Q E → us.length = ps.length)
    (body : ∀ (cdv : Value) (A : Around) (outer : List Env) (s : Shared) (H : Hp) (vs : List V) (Q : VK) (E : XK), A.guards = some [] → Room k (A.deeper (envOfC qual (defScope st) s.heap.objs.size f cdv)) → sp vs H Q E →
      ∃ t, PSs (cxOf CX0 P w K mg base N qual (defScope st) f cdv A outer s H E).nox (defBody st) t ∧ t { nx := fun _ H' => Q .non H', rt := Q } (start N vs) H) : FnG P w K mg base (k + 1) f fd ps sp := by
  obtain ⟨oc, od, kV, doc, pm, an, cdv, ct, osl, rfl, lk, hcd⟩ := F.ex
  refine ⟨ln, fun A outer s H args us vs Q E gd room env bind rel ask => ?_⟩
  have inS : K.In s.heap := env.mod.kin.keeps fun b o e => (env.bs b o e).1
  have noL : s.heap.NoLimit := env.mod.nolimit.keeps fun b o e => (env.bs b o e).1
  refine codeAny_call_function room.depth (inS _ _ lk) rfl S.co S.gen rfl (PySem.W.codeRec_of inS hcd) (bind _ _ _ _ (wpAny_newFunctionEnv_cells S.kind (fun y hy => ?_) fun env' he s1 z => ?_))
  · rcases S.par y.1 (List.of_mem_zip (a := y.1) (b := y.2) hy).1 with q | q
    · exact Or.inl q
    · exact Or.inr ⟨q, PySem.W.cellsFrom_some _ _ _ (Or.inl q)⟩
  · subst he
    obtain ⟨t, h1, h2⟩ := body cdv A outer s H vs Q E gd (room.deeper _) ask
    have J := inv_start (CX := CX0) (E := E) S room.hd env (ln _ _ _ _ ask) rel z
    refine ⟨noL.keeps z.toInCall.keep, codeAny_func (wpAny_mono (h1.nox.run [] s1 _ H _ J h2) (fun fl s' r => ?_) fun _ _ r => r)⟩
    match fl, r with
    | .ret u, r =>
      obtain ⟨v, σ', H', I, rv, q⟩ := r
      exact ⟨v, H', I.os, I.bare, I.base, I.hok, rv, q⟩
    | .next, r =>
      obtain ⟨σ', H', I, q⟩ := r
      exact ⟨.non, H', I.os, I.bare, I.base, I.hok, rfl, q⟩
    | .brk, r =>
      obtain ⟨_, _, _, q⟩ := r
      exact q.elim
    | .cont, r =>
      obtain ⟨_, _, _, q⟩ := r
      exact q.elim
/-- what the abstract heap knows at the law's call: the tables T, the script at a unless K holds it -/
def at0 (K : PySem.W.Frag) (T : List Addr) (a : Addr) (o : HO) : Hp := fun b => if b ∈ T then some (.tbl #[]) else if b = a ∧ (K.lookup a).isNone = true then some o else none
theorem at0_cases {T : List Addr} {a b : Addr} {o u : HO} (h : at0 K T a o b = some u) : (b ∈ T ∧ u = .tbl #[]) ∨ (b ∉ T ∧ b = a ∧ K.lookup a = none ∧ u = o) := by
  unfold at0 at h
  by_cases h1 : b ∈ T
  · rw [if_pos h1] at h
    exact .inl ⟨h1, (Option.some.inj h).symm⟩
  · rw [if_neg h1] at h
    by_cases h2 : b = a ∧ (K.lookup a).isNone = true
    · rw [if_pos h2] at h
      exact .inr ⟨h1, h2.1, Option.isNone_iff_eq_none.mp h2.2, (Option.some.inj h).symm⟩
    · rw [if_neg h2] at h
      cases h
theorem law_at {mb : Str → Option Value} {k : Nat} {fa a : Addr} {cs : List (Addr × Addr)} {fd : FuncData} {x : Str} {sp : Sp} {s1 : Shared} {us : List Value} {ns : List Int} (inK : K.In s1.heap) (ng : s1.heap.Ns mainGlobals mg) (nb : s1.heap.Ns builtinsNs mb)
    (bb : ∀ y : Str, y ≠ "__name__" → mb y = bootBuiltins y) (lim : s1.heap.NoLimit) (gens : s1.gens = #[]) (te : ∀ p ∈ cs, s1.heap.get? p.2 = some (PySem.W.tabObj #[])) (tk : ∀ p ∈ cs, K.lookup p.2 = none) (tc : ∀ p ∈ cs, PySem.W.CodeHd s1.heap p.1 p.2)
    (bm : ∃ (bm : Addr) (ob : Obj), mg "__builtins__" = some (.ref bm) ∧ bm ≠ builtinsNs ∧ s1.heap.get? bm = some ob ∧ ob.cls = .type "module" ∧ ob.dict = some builtinsNs ∧ ob.data = .plain) (la : s1.heap.get? a = some { cls := .type "list", data := .seq us.toArray }) (iu : IntsAre us ns) (lu : ns.length ≤ sizeLine) (room : Room k callerA)
    (F : ∀ base : Heap, K.In base → base.Ns mainGlobals mg → (∀ p ∈ cs, LamX.TabB base mg p.1 p.2) → FnG P w K mg base k fa fd [x] sp) (bind : ∀ (s : Shared) (u : Value), BindsTo s fd ⟨[u], []⟩ [(x, u)])
    (ask : ∀ H : Hp, (∀ p ∈ cs, H p.2 = some (.tbl #[])) → SqL K H a (ns.map V.int) → sp [.ref a] H (fun v _ => v = .bl true) fun _ _ _ => False) :
    codeAny (model P w) callerA (.call (.ref fa) ⟨[.ref a], []⟩) (fun r s' => r = .ok (.ret (.bool true)) ∧ OldK s1.heap s'.heap ∧ s'.os = s1.os ∧ AllBare s'.gens) s1 := by
  have lv := iu.length
  let T := cs.map (·.2)
  let O : HO := .frz { cls := .type "list", data := .seq us.toArray } (.lst (ns.map V.int))
  have tT : ∀ b ∈ T, s1.heap.get? b = some (PySem.W.tabObj #[]) := fun b hb => by
    obtain ⟨p, hp, rfl⟩ := List.mem_map.mp hb
    exact te p hp
  have inT : ∀ p ∈ cs, p.2 ∈ T := fun p hp => List.mem_map.mpr ⟨p, hp, rfl⟩
  have naT : a ∉ T := fun z => by
    have q := tT a z
    rw [la] at q
    cases congrArg Obj.data (Option.some.inj q)
  -- an object that is neither a list nor an empty table is not tracked
  have un0 : ∀ {b : Addr} {o : Obj}, s1.heap.get? b = some o → (∀ v n, o.data ≠ .seq v n) → o.data ≠ .fields #[] → at0 K T a O b = none := fun {b o} e d1 d2 => by
    cases q : at0 K T a O b with
    | none => rfl
    | some u =>
      rcases at0_cases q with ⟨h1, _⟩ | ⟨_, h1, _⟩
      · rw [tT b h1] at e
        cases e
        exact absurd rfl d2
      · rw [h1, la] at e
        cases e
        exact absurd rfl (d1 _ _)
  have ns0 : ∀ {b : Addr} {m : Str → Option Value}, s1.heap.Ns b m → (hidT s1.heap (at0 K T a O)).Ns b m := fun ⟨o, es, ep, e, d, r⟩ =>
    ⟨o, es, ep, hidT_get e (un0 e (fun _ _ z => by rw [d] at z; cases z) fun z => by rw [d] at z; cases z), d, r⟩
  have in0 : K.In (hidT s1.heap (at0 K T a O)) := fun b o e => by
    refine hidT_get (inK b o e) ?_
    cases q : at0 K T a O b with
    | none => rfl
    | some u =>
      rcases at0_cases q with ⟨h1, _⟩ | ⟨_, h1, h2, _⟩
      · obtain ⟨p, hp, rfl⟩ := List.mem_map.mp h1
        rw [tk p hp] at e
        cases e
      · rw [h1, h2] at e
        cases e
  have mod0 : L2.Mod K mg (hidT s1.heap (at0 K T a O)) := ⟨in0, ns0 ng, ⟨mb, ns0 nb, bb⟩, let ⟨mc, h1, h2⟩ := lim; ⟨mc, ns0 h1, h2⟩⟩
  have tab0 : ∀ p ∈ cs, LamX.TabB (hidT s1.heap (at0 K T a O)) mg p.1 p.2 := fun p hp => by
    obtain ⟨bmA, ob, b1, b2, b3, b4, b5, b6⟩ := bm
    obtain ⟨oc, oes, oep, oe, od, _⟩ := ng
    obtain ⟨c0, v0, f0, t0, g0, u0, i0, x0, y0, e1, r1, r2, r3, rest⟩ := tc p hp
    refine ⟨⟨c0, v0, f0, t0, g0, u0, i0, x0, y0, hidT_get e1 (un0 e1 (fun _ _ z => by rw [r2] at z; cases z) fun z => ?_), r1, r2, r3, rest⟩, ⟨bmA, ob, b1, b2, fun z => ?_, fun z => ?_, hidT_get b3 (un0 b3 (fun _ _ z => by rw [b6] at z; cases z) fun z => by rw [b6] at z; cases z), b4, b5, b6⟩, fun z => ?_⟩
    · rw [r2] at z
      cases z
      simp at r3
    · rw [z, oe] at b3
      cases b3
      rw [od] at b6
      cases b6
    · rw [z, te p hp] at b3
      cases b3
      cases b6
    · rw [z, te p hp] at oe
      cases oe
      cases od
  have hok0 : HOk P w (at0 K T a O) s1.heap := fun b u q => by
    rcases at0_cases q with ⟨h1, rfl⟩ | ⟨_, rfl, _, rfl⟩
    · exact tT b h1
    · exact ⟨la, by rw [List.length_map]; exact lu, us, _, vals_ints iu, la⟩
  have sq0 : SqL K (at0 K T a O) a (ns.map V.int) := by
    cases q : K.lookup a with
    | some o =>
      have e := inK a o q
      rw [la] at e
      cases e
      exact .inr ⟨_, us.toArray, _, q, rfl, rfl, rfl, by rw [List.size_toArray, lv]; exact lu, by simpa using vals_ints iu⟩
    | none => exact .inl (.inr ⟨_, (if_neg naT).trans (if_pos ⟨rfl, by rw [q]; rfl⟩)⟩)
  have env0 : Env0 P w K mg (hidT s1.heap (at0 K T a O)) callerA [] s1 (at0 K T a O) := ⟨rfl, mod0, fun b o e => of_hidT e, Nat.le_of_eq (hidT_size _ _), trivial, fun b z => absurd (show b ∈ ([] : List Addr) from z) (by simp), hok0, .of_eq gens⟩
  refine codeAny_mono ((F _ in0 (ns0 ng) tab0).run callerA [] s1 (at0 K T a O) ⟨[.ref a], []⟩ [.ref a] [.ref a] _ _ rfl room env0 (bind s1 (.ref a)) (.cons rfl .nil) (ask _ (fun p hp => if_pos (inT p hp)) sq0)) fun r s' h => ?_
  match r, h with
  | .error e, h => exact False.elim h
  | .ok .next, h => exact False.elim h
  | .ok .brk, h => exact False.elim h
  | .ok .cont, h => exact False.elim h
  | .ok (.ret u), h =>
    obtain ⟨v, H', os, bare, un, hok', rv, q⟩ := h
    obtain rfl : v = .bl true := q
    obtain rfl : u = Value.bool true := rv
    have kept : ∀ b o, b ∉ T → s1.heap.get? b = some o → s'.heap.get? b = some o := fun b o nt e => by
      cases z : at0 K T a O b with
      | none => exact un.keep b o e z (fun y => absurd (show b ∈ ([] : List Addr) from y) (by simp)) (by simp)
      | some u =>
        rcases at0_cases z with ⟨h1, _⟩ | ⟨_, rfl, _, rfl⟩
        · exact absurd h1 nt
        · obtain ⟨e2, _⟩ := hok' b _ (un.frzs b _ _ z)
          rw [la] at e
          cases e
          exact e2
    have tabs : ∀ b ∈ T, ∃ more : Array Value, s'.heap.get? b = some (PySem.W.tabObj more) := fun b hb => by
      obtain ⟨more, z⟩ := un.tbls b #[] (if_pos hb)
      exact ⟨_, hok' b _ z⟩
    refine ⟨rfl, ⟨fun b o e => ?_, fun b o e => ?_⟩, os, bare⟩
    · by_cases hb : b ∈ T
      · obtain ⟨more, z⟩ := tabs b hb
        obtain ⟨p, hp, rfl⟩ := List.mem_map.mp hb
        have e3 := te p hp
        rw [e] at e3
        cases e3
        exact .inr (.inl ⟨((tc p hp).tab (te p hp)).isCodeTable, rfl, #[], more, rfl, by rw [Array.empty_append]; exact z⟩)
      · exact .inl (kept b o hb e)
    · by_cases hb : b ∈ T
      · obtain ⟨more, z⟩ := tabs b hb
        exact ⟨_, z⟩
      · exact ⟨o, kept b o hb e⟩
end
end Gd
namespace Gx2
open PySem PySem.Spec PyProof.Rows L2
/-! ### promises for calls made while nothing is being shown, with refusals: for defs that show lists or tuples and are called by others -/
structure FnX (P : Program) (w : World) (K : PySem.W.Frag) (mg : Str → Option Value) (base : Heap) (CX : CXT) (k : Nat) (f : Addr) (fd : FuncData) (ps : List Str) (sp : Sp) : Prop where
  len : ∀ us H Q E, sp us H Q E → us.length = ps.length
  run : ∀ (A : Around) (outer : List Env) (s : Shared) (H : Hp) (args : Args) (us : List Value) (vs : List V) (Q : VK) (E : XK), A.guards = some [] → Room k A → Env0 P w K mg base A outer s H → BindsTo s fd args (ps.zip us) → Vals vs us → sp vs H Q E → codeAny (model P w) A (.call (.ref f) args) (CR CX outer P w H s Q E) s
section
variable {P : Program} {w : World} {K : PySem.W.Frag} {mg : Str → Option Value} {base : Heap} {CX : CXT}
theorem of_ok {k : Nat} {f : Addr} {fd : FuncData} {ps : List Str} {sp : Sp} (F : FnOk P w K mg base CX k f fd ps sp) : FnX P w K mg base CX k f fd ps sp := ⟨F.len, fun A outer s H args us vs Q E _ => F.run A outer s H args us vs Q E⟩
theorem okX {x qual : Str} {st : Stmt} {f : Addr} {fd : FuncData} {N ps : List Str} {k : Nat} {sp : Sp} (F : Fun K x qual st f fd) (S : FnScope N ps (defScope st)) (ln : ∀ us H Q E, sp us H Q E → us.length = ps.length)
    (body : ∀ (cdv : Value) (A : Around) (outer : List Env) (s : Shared) (H : Hp) (vs : List V) (Q : VK) (E : XK), A.guards = some [] → Room k (A.deeper (envOfC qual (defScope st) s.heap.objs.size f cdv)) → sp vs H Q E →
      ∃ t, PSs (cxOf CX P w K mg base N qual (defScope st) f cdv A outer s H E) (defBody st) t ∧ t { nx := fun _ H' => Q .non H', rt := Q } (start N vs) H) : FnX P w K mg base CX (k + 1) f fd ps sp := by
  obtain ⟨oc, od, kV, doc, pm, an, cdv, ct, osl, rfl, lk, hcd⟩ := F.ex
  refine ⟨ln, fun A outer s H args us vs Q E gd room env bind rel ask => ?_⟩
  have inS : K.In s.heap := env.mod.kin.keeps fun b o e => (env.bs b o e).1
  have noL : s.heap.NoLimit := env.mod.nolimit.keeps fun b o e => (env.bs b o e).1
  refine codeAny_call_function room.depth (inS _ _ lk) rfl S.co S.gen rfl (PySem.W.codeRec_of inS hcd) (bind _ _ _ _ (wpAny_newFunctionEnv_cells S.kind (fun y hy => ?_) fun env' he s1 z => ?_))
  · rcases S.par y.1 (List.of_mem_zip (a := y.1) (b := y.2) hy).1 with q | q
    · exact Or.inl q
    · exact Or.inr ⟨q, PySem.W.cellsFrom_some _ _ _ (Or.inl q)⟩
  · subst he
    obtain ⟨t, h1, h2⟩ := body cdv A outer s H vs Q E gd (room.deeper _) ask
    have J := inv_start (CX := CX) (E := E) S room.hd env (ln _ _ _ _ ask) rel z
    refine ⟨noL.keeps z.toInCall.keep, codeAny_func (wpAny_mono (h1.run [] s1 _ H _ J h2) (fun fl s' r => ?_) fun _ _ r => r)⟩
    match fl, r with
    | .ret u, r =>
      obtain ⟨v, σ', H', I, rv, q⟩ := r
      exact ⟨v, H', I.os, I.bare, I.base, I.hok, rv, q⟩
    | .next, r =>
      obtain ⟨σ', H', I, q⟩ := r
      exact ⟨.non, H', I.os, I.bare, I.base, I.hok, rfl, q⟩
    | .brk, r =>
      obtain ⟨_, _, _, q⟩ := r
      exact q.elim
    | .cont, r =>
      obtain ⟨_, _, _, q⟩ := r
      exact q.elim
end
section
variable {X : Cx} {CX : CXT} {k : Nat} {f : Addr} {fd : FuncData} {ps : List Str} {sp : Sp} {dvs : List V} {ds : List Value} {E : XK}
theorem runX {pins : List (Addr × Obj)} {σ : L2.St} {H : Hp} {s : Shared} {Q : VK} {us : List Value} {vs : List V} (F : FnX X.prog X.w X.K X.mg X.base CX k f fd ps sp) (gd : X.A.guards = some []) (room : Room k X.A) (bind : Binds X.K fd ps ds) (dv : Vals dvs ds) (pass : Passes CX X E)
    (I : Inv X pins σ H s) (rel : Vals vs us) (ask : sp (vs ++ dvs) H Q E) : wpAny (model X.prog X.w) X.A (call (.ref f) us) (EP X pins σ Q) X.xe s := by
  have r2 : Vals (vs ++ dvs) (us ++ ds) := rel.append dv
  have ll : (us ++ ds).length = ps.length := r2.length.symm.trans (F.len _ _ _ _ ask)
  refine wpAny_call (codeAny_mono (F.run X.A X.stack s H ⟨us, []⟩ _ _ Q E gd room I.env0 (bind s us I.kIn ll) r2 ask) fun r s' z => ?_)
  match r, z with
  | .error e, z => exact pass pins σ H s e s' I z
  | .ok (.ret u), z => exact I.after z
  | .ok .next, z => exact z.elim
  | .ok .brk, z => exact z.elim
  | .ok .cont, z => exact z.elim
/-- f(..) where nothing is being shown -/
theorem pe_callX {x : Str} {p pos : Pos} {e : Expr} {es : List Expr} {t : TA} (F : FnX X.prog X.w X.K X.mg X.base CX k f fd ps sp) (gd : X.A.guards = some []) (room : Room k X.A) (gl : Gl X x) (at_ : X.mg x = some (.ref f)) (kp : PySem.W.keepIn X.K (.ref f) = true) (bind : Binds X.K fd ps ds) (dv : Vals dvs ds) (pass : Passes CX X E)
    (ha : PA X (e :: es) t) (hdb : (x == ("__debug__" : Str)) = false := by decide) (he : starEach (e :: es) X.env = (false, eval e X.env) :: starEach es X.env := by rfl) (hpl : (backTo pos (starEach es X.env)).any (·.1) = false := by rfl) :
    PE X (.Call (.Name x p) (e :: es) [] pos) (tCall sp dvs E t) :=
  ⟨fun pins s σ H Q I h => wpAny_Call_Name_kw (ld_glob I gl at_ (PySem.W.callWith_K (h₀ := X.base) I.ok.mod.kin kp (thn (ha.run pos pins s σ H _ I h) fun us s1 ⟨vs, H1, I1, r, q⟩ => ⟨I1.kIn, runX F gd room bind dv pass I1 r q⟩) he hpl) hdb)⟩
end
end Gx2
namespace Tw
open PySem PySem.Spec PyProof.Rows L2 GxR Nw Dr Kp
open TL (tl tl_num numL numL_digits numL_len numL_ne numL_val numL_free ext_tl len_tl)
/-! ### words, and the numbers that they tell -/
def numT (n : Int) : Str := Str.ofString (toString n)
theorem tl_cps (x : Str) : x.cps.toList = tl x := rfl
theorem dig128 : ∀ c : Fin 128, Unicode.isDigit c.val = decide (48 ≤ c.val ∧ c.val ≤ 57) := by decide +kernel
/-- what is ASCII and figures alone -/
theorem figs {f : Str} (h1 : Txt.isascii f = true) (h2 : Txt.isdigit f = true) : NumText.AllDigits (tl f) ∧ tl f ≠ [] := by
  have h1 : f.cps.all (· < 128) = true := h1
  have h2 : (decide (f.length > 0) && f.cps.all Unicode.isDigit) = true := h2
  rw [Bool.and_eq_true] at h2
  obtain ⟨h3, h4⟩ := h2
  refine ⟨fun c hc => ?_, fun z => ?_⟩
  · have hc' : c ∈ f.cps := Array.mem_toList_iff.mp hc
    have a1 : c < 128 := of_decide_eq_true (Array.all_eq_true_iff_forall_mem.mp h1 c hc')
    have a2 := Array.all_eq_true_iff_forall_mem.mp h4 c hc'
    have := dig128 ⟨c, a1⟩
    rw [this] at a2
    exact of_decide_eq_true a2
  · have h3 := of_decide_eq_true h3
    rw [len_tl, z] at h3
    exact absurd h3 (by decide)
theorem all_figs {f : Str} (h : NumText.AllDigits (tl f)) (ne : tl f ≠ []) : Txt.isascii f = true ∧ Txt.isdigit f = true := by
  have key : ∀ c ∈ f.cps, 48 ≤ c ∧ c ≤ 57 := fun c hc => h c (Array.mem_toList_iff.mpr hc)
  refine ⟨Array.all_eq_true_iff_forall_mem.mpr fun c hc => decide_eq_true (by have := key c hc; omega), ?_⟩
  show (decide (f.length > 0) && f.cps.all Unicode.isDigit) = true
  rw [Bool.and_eq_true]
  refine ⟨decide_eq_true ?_, Array.all_eq_true_iff_forall_mem.mpr fun c hc => ?_⟩
  · rw [len_tl]
    exact List.length_pos_iff.mpr ne
  · have k := key c hc
    have := dig128 ⟨c, by omega⟩
    rw [this]
    exact decide_eq_true k
theorem rp_cases (w : Str) : (∃ cs, tl w = 45 :: cs ∧ tl (Txt.removeprefix w "-") = cs) ∨ ((∀ cs, tl w ≠ 45 :: cs) ∧ Txt.removeprefix w "-" = w) := by
  have e0 : tl "-" = [45] := by decide +kernel
  have l0 : Str.length "-" = 1 := by decide +kernel
  unfold Txt.removeprefix
  rw [StrLaws.subAt_eq, l0]
  show _ ∨ _
  cases hw : tl w with
  | nil =>
    refine .inr ⟨fun cs z => (nomatch z), ?_⟩
    have e : ((w.cps.toList.drop 0).take 1 == (Str.cps "-").toList) = false := by
      rw [tl_cps, hw]
      decide +kernel
    rw [e]
    rfl
  | cons c r =>
    by_cases z : c = 45
    · subst z
      refine .inl ⟨r, rfl, ?_⟩
      have e : ((w.cps.toList.drop 0).take 1 == (Str.cps "-").toList) = true := by
        rw [tl_cps, hw]
        exact beq_iff_eq.mpr e0.symm
      have lw : w.length = r.length + 1 := by rw [len_tl, hw]; rfl
      rw [e]
      show tl (if (w.length - 1 == w.length) = true then w else Builtin.Str.strSub w 1 w.length) = r
      rw [if_neg (by rw [lw, Nat.add_sub_cancel, beq_iff_eq]; omega), TL.tl_strSub_end, hw]
      rfl
    · refine .inr ⟨fun cs z' => z (List.cons.inj z').1, ?_⟩
      have e : ((w.cps.toList.drop 0).take 1 == (Str.cps "-").toList) = false := by
        rw [tl_cps, hw]
        exact beq_eq_false_iff_ne.mpr fun y => z (List.cons.inj (y.trans e0)).1
      rw [e]
      rfl
theorem numT_tl (n : Nat) : tl (numT n) = numL n := tl_num n
theorem val3 {l : List Nat} (h : NumText.AllDigits l) (l3 : l.length ≤ 3) : NumText.digitsVal l < 1000 := by
  match l, h, l3 with
  | [], _, _ => decide
  | [a], h, _ =>
    have h1 := h a (by simp)
    show 0 * 10 + (a - 48) < 1000
    omega
  | [a, b], h, _ =>
    have h1 := h a (by simp)
    have h2 := h b (by simp)
    show (0 * 10 + (a - 48)) * 10 + (b - 48) < 1000
    omega
  | [a, b, c], h, _ =>
    have h1 := h a (by simp)
    have h2 := h b (by simp)
    have h3 := h c (by simp)
    show ((0 * 10 + (a - 48)) * 10 + (b - 48)) * 10 + (c - 48) < 1000
    omega
  | a :: b :: c :: d :: r, _, l3 =>
    simp only [List.length_cons] at l3
    omega
theorem numT_get {n : Nat} (h : n < 1000) : Txt.removeprefix (numT n) "-" = numT n ∧ Txt.isascii (numT n) = true ∧ Txt.isdigit (numT n) = true ∧ (numT n).length ≤ 3 ∧ intText? (numT n) = some (n : Int) := by
  have e := numT_tl n
  have l3 := numL_len (n := n) (k := 3) (by decide) (by omega)
  have ad := numL_digits n
  have ne := numL_ne n
  rw [← e] at l3 ad ne
  obtain ⟨a1, a2⟩ := all_figs ad ne
  refine ⟨?_, a1, a2, by rw [len_tl]; exact l3, ?_⟩
  · rcases rp_cases (numT n) with ⟨cs, z, _⟩ | ⟨_, z⟩
    · have := ad 45 (by rw [z]; exact List.mem_cons_self)
      omega
    · exact z
  · exact TL.int_num (by rw [← e]; omega)
theorem rp_len (x : Str) : (Txt.removeprefix x "-").length ≤ x.length := by
  rcases rp_cases x with ⟨cs, z, zf⟩ | ⟨_, z⟩
  · rw [len_tl, len_tl, z, zf, List.length_cons]
    omega
  · rw [z]
    exact Nat.le_refl _
set_option exponentiation.threshold 2000 in
theorem lg0 {m : Nat} (hm : m < 1000) : ((m : Int)).natAbs.log2 < 1920 := by
  rw [Int.natAbs_natCast]
  by_cases z : m = 0
  · rw [z]
    decide
  · exact (Nat.log2_lt z).mpr (Nat.lt_of_lt_of_le (show m < 2 ^ 10 by omega) (Nat.pow_le_pow_right (by decide) (by decide)))
/-! what it comes to where it is no number from 0 to 999 -/
set_option exponentiation.threshold 2000 in
theorem num_neg {x f : Str} (ef : f = Txt.removeprefix x "-") (h1 : Txt.isascii f = true) (h2 : Txt.isdigit f = true) (h3 : f.length ≤ 3) (no : ∀ n : Nat, n < 1000 → x ≠ numT n) : ∃ i : Int, intText? x = some i ∧ x.length ≤ 4 ∧ i.natAbs.log2 < 1920 ∧ (numT i = x → i < 0) ∧ -1000 < i := by
  subst ef
  obtain ⟨ad, ne⟩ := figs h1 h2
  rw [len_tl] at h3
  have lg : ∀ m : Nat, m < 1000 → m.log2 < 1920 := fun m hm => by
    by_cases z : m = 0
    · rw [z]
      decide
    · exact (Nat.log2_lt z).mpr (Nat.lt_of_lt_of_le (show m < 2 ^ 10 by omega) (Nat.pow_le_pow_right (by decide) (by decide)))
  rcases rp_cases x with ⟨cs, z, zf⟩ | ⟨_, z⟩
  · rw [zf] at ad ne h3
    have lx : x.length ≤ 4 := by
      rw [len_tl, z, List.length_cons]
      omega
    have v := val3 ad h3
    refine ⟨_, PySem.intText_neg z ad ne (by omega), lx, by rw [Int.natAbs_neg, Int.natAbs_natCast]; exact lg _ v, fun e => ?_, by omega⟩
    by_cases z0 : NumText.digitsVal cs = 0
    · rw [z0] at e
      exact absurd e.symm (no 0 (by decide))
    · omega
  · rw [z] at ad ne h3
    have v := val3 ad h3
    refine ⟨_, PySem.intText_digits ad ne (by rw [len_tl]; omega), by rw [len_tl]; omega, by rw [Int.natAbs_natCast]; exact lg _ v, fun e => absurd e.symm (no _ v), by omega⟩
structure Zn (mg : Str → Option Value) : Prop where
  z_len : mg "len" = none
  z_int : mg "int" = none
  z_str : mg "str" = none
section
variable {P : Program} {w : World} {K : PySem.W.Frag} {mg : Str → Option Value} {base : Heap}
abbrev sNon : Stmt := topS 28
theorem scNon : FnScope ["word", "figures", "number"] ["word"] (defScope sNon) := ⟨rfl, rfl, rfl, by decide +kernel, rfl, by decide +kernel, by decide +kernel⟩
def spNon : Sp := fun vs H Q _ => ∃ x : Str, vs = [.str x] ∧ x.length ≤ 100000 ∧ (∀ n : Nat, n < 1000 → x = numT n → Q (.int n) H) ∧ ((∀ n : Nat, n < 1000 → x ≠ numT n) → Q .non H ∧ ∀ i : Int, i < 0 → Q (.int i) H)
theorem ok_non {f : Addr} {fd : FuncData} {k : Nat} {tk : Tok} (F : Fun K "number_or_none" "number_or_none" sNon f fd) (T : Zn mg) (M3 : mg "MOST_FIGURES" = some (.int 3 tk)) : FnOk P w K mg base CX0 (k + 1) f fd ["word"] spNon := by
  refine F.ok scNon (fun vs H Q E h => ?_) (fun cdv A outer s H vs Q E hr h => ?_)
  · obtain ⟨x, rfl, _⟩ := h
    rfl
  · obtain ⟨x, rfl, lx, q1, q2⟩ := h
    refine ⟨_, (Evl.pss_cut (ps_set (i := 1) scNon.nd rfl (.inl rfl) (pe_m1 PySem.F.slot_str_removeprefix PySem.F.type_str_removeprefix mt_removeprefix (pv 0) pe_str))
      (Evl.pss_cut (ps_if (PW.pt (pw_or (pt_not (pt_val (pe_m0 PySem.F.slot_str_isascii PySem.F.type_str_isascii mt_isascii (pv 1)))) (pw_or (pt_not (pt_val (pe_m0 PySem.F.slot_str_isdigit PySem.F.type_str_isdigit mt_isdigit (pv 1)))) (pw_or1 (pt_cmpR op_gt (pe_callB call_len_str (by rfl) T.z_len (by decide +kernel) (pa_cons (pv 1) pa_nil)) (pe_glob (v := .int 3) rfl M3 ⟨_, rfl⟩) (nomark _)))))) (pss_one (ps_ret pe_non)) pss_nil)
      (pss_cons (ps_set (i := 2) scNon.nd rfl (.inl rfl) (pe_callTy call_int_str (by rfl) T.z_int (by decide +kernel) (pa_cons (pv 0) pa_nil)))
      (pss_one (ps_ret (pe_ifExp (pt_cmpR op_eq (pe_callTy call_str_int (by rfl) T.z_str (by decide +kernel) (pa_cons (pv 2) pa_nil)) (pv 0) (nomark _)) (pv 2) pe_non)))))), ?_⟩
    refine Evl.q_cut (M := fun σ' H' => σ' = [some (.str x), some (.str (Txt.removeprefix x "-")), none] ∧ H' = H) ?_ ?_
    · exact ⟨_, rfl, ⟨_, rfl⟩, _, _, rfl, rfl, Nat.le_trans lx (by decide), rfl, rfl⟩
    rintro σ' G ⟨rfl, rfl⟩
    by_cases c : ∃ n : Nat, n < 1000 ∧ x = numT n
    · obtain ⟨n, hn, rfl⟩ := c
      obtain ⟨e1, e2, e3, e4, e5⟩ := numT_get hn
      have q := q1 n hn rfl
      rw [e1]
      refine Evl.q_cut (M := fun σ' H' => σ' = [some (.str (numT n)), some (.str (numT n)), none] ∧ H' = G) ?_ ?_
      · refine ⟨_, rfl, ⟨_, rfl⟩, _, rfl, rfl, trivial, _, rfl, ite2 (fun e => ?_) (fun _ => ?_)⟩
        · rw [e2] at e
          cases e
        refine ⟨_, rfl, ⟨_, rfl⟩, _, rfl, rfl, trivial, _, rfl, ite2 (fun e => ?_) (fun _ => ?_)⟩
        · rw [e3] at e
          cases e
        refine ⟨_, rfl, _, rfl, Nat.le_trans e4 (by decide), _, _, rfl, rfl, _, rfl, ite2 (fun e => ?_) (fun _ => ⟨rfl, rfl⟩)⟩
        have e : (3 : Int) < ((numT n).length : Nat) := of_decide_eq_true e
        omega
      rintro σ' H' ⟨rfl, rfl⟩
      refine ⟨_, rfl, _, _, rfl, e5, Nat.le_trans e4 (by decide), ?_⟩
      refine ⟨_, rfl, (n : Int), rfl, lg0 hn, _, rfl, rfl, _, rfl, ite2 (fun e => ⟨_, rfl, q⟩) (fun e => ?_)⟩
      exact absurd (decide_eq_true rfl) e
    · have no : ∀ n : Nat, n < 1000 → x ≠ numT n := fun n hn e => c ⟨n, hn, e⟩
      obtain ⟨qn, qi⟩ := q2 no
      by_cases b1 : Txt.isascii (Txt.removeprefix x "-") = true ∧ Txt.isdigit (Txt.removeprefix x "-") = true ∧ (Txt.removeprefix x "-").length ≤ 3
      · obtain ⟨e2, e3, e4⟩ := b1
        obtain ⟨i, e5, l4, lg, ei, _⟩ := num_neg rfl e2 e3 e4 no
        refine Evl.q_cut (M := fun σ' H' => σ' = [some (.str x), some (.str (Txt.removeprefix x "-")), none] ∧ H' = G) ?_ ?_
        · refine ⟨_, rfl, ⟨_, rfl⟩, _, rfl, rfl, trivial, _, rfl, ite2 (fun e => ?_) (fun _ => ?_)⟩
          · rw [e2] at e
            cases e
          refine ⟨_, rfl, ⟨_, rfl⟩, _, rfl, rfl, trivial, _, rfl, ite2 (fun e => ?_) (fun _ => ?_)⟩
          · rw [e3] at e
            cases e
          refine ⟨_, rfl, _, rfl, Nat.le_trans e4 (by decide), _, _, rfl, rfl, _, rfl, ite2 (fun e => ?_) (fun _ => ⟨rfl, rfl⟩)⟩
          have e : (3 : Int) < ((Txt.removeprefix x "-").length : Nat) := of_decide_eq_true e
          omega
        rintro σ' H' ⟨rfl, rfl⟩
        refine ⟨_, rfl, _, _, rfl, e5, Nat.le_trans l4 (by decide), ?_⟩
        refine ⟨_, rfl, i, rfl, lg, _, rfl, rfl, _, rfl, ite2 (fun e => ⟨_, rfl, qi i (ei ?_)⟩) (fun e => qn)⟩
        have e : decide (V.str (numT i) = V.str x) = true := e
        exact V.str.inj (of_decide_eq_true e)
      · refine Evl.q_cut (M := fun _ _ => False) ?_ fun _ _ z => z.elim
        refine ⟨_, rfl, ⟨_, rfl⟩, _, rfl, rfl, trivial, _, rfl, ite2 (fun e => qn) (fun e2 => ?_)⟩
        refine ⟨_, rfl, ⟨_, rfl⟩, _, rfl, rfl, trivial, _, rfl, ite2 (fun e => qn) (fun e3 => ?_)⟩
        refine ⟨_, rfl, _, rfl, ?_, _, _, rfl, rfl, _, rfl, ite2 (fun e => qn) (fun e4 => ?_)⟩
        · exact Nat.le_trans (rp_len x) (Nat.le_trans lx (by decide))
        · exfalso
          have e2 : Txt.isascii (Txt.removeprefix x "-") = true := by
            cases z : Txt.isascii (Txt.removeprefix x "-") with
            | true => rfl
            | false => exact absurd (by rw [z]; rfl) e2
          have e3 : Txt.isdigit (Txt.removeprefix x "-") = true := by
            cases z : Txt.isdigit (Txt.removeprefix x "-") with
            | true => rfl
            | false => exact absurd (by rw [z]; rfl) e3
          have e4 : ¬ (3 : Int) < ((Txt.removeprefix x "-").length : Nat) := fun z => e4 (decide_eq_true z)
          exact b1 ⟨e2, e3, by omega⟩
end
end Tw
namespace Tw
open PySem PySem.Spec PyProof.Rows L2 GxR Nw Dr Kp Ev1
open TL (tl tl_num numL numL_inj len_tl)
/-! ### how words are read -/
inductive Rw where
  | book (n : Nat)
  | cut (i j k : Nat)
def Rw.vs : Rw → List V
  | .book n => [.str "book", .int (n : Nat)]
  | .cut i j k => [.str "cut", .int (i : Nat), .int (j : Nat), .int (k : Nat)]
/-- what is read of a row -/
inductive Pt where
  | p0 | b0 | b1 (n : Nat) | c0 | c1 (i : Nat) | c2 (i j : Nat) | c3 (i j k : Nat)
def ptOf : Rw → Pt
  | .book n => .b1 n
  | .cut i j k => .c3 i j k
inductive Step (rows : List Rw) : Pt → Str → List Rw → Pt → Prop
  | book : Step rows .p0 "book" rows .b0
  | cut (h : 0 < rows.length) : Step rows .p0 "cut" rows .c0
  | num (n : Nat) (h : n ≤ 15) : Step rows .b0 (numT n) rows (.b1 n)
  | one (n : Nat) (h : n < rows.length) : Step rows .c0 (numT n) rows (.c1 n)
  | two (i n : Nat) (h : n < rows.length) : Step rows (.c1 i) (numT n) rows (.c2 i n)
  | by (i j n : Nat) (h1 : 1 ≤ n) (h2 : n ≤ 8) : Step rows (.c2 i j) (numT n) rows (.c3 i j n)
  | stroke (r : Rw) (h : rows.length < 199) : Step rows (ptOf r) "/" (rows ++ [r]) .p0
inductive Reach (ws : List Str) : Nat → List Rw → Pt → Prop
  | zero : Reach ws 0 [] .p0
  | succ {at' : Nat} {rows rows' : List Rw} {pt pt' : Pt} {x : Str} (h : Reach ws at' rows pt) (e : ws[at']? = some x) (s : Step rows pt x rows' pt') : Reach ws (at' + 1) rows' pt'
theorem numT_inj {m n : Nat} (h : numT (m : Int) = numT (n : Int)) : m = n := numL_inj (by rw [← numT_tl, ← numT_tl, h])
theorem numT_head {n : Nat} {x : Str} (h : numT (n : Int) = x) : ∀ c ∈ tl x, 48 ≤ c ∧ c ≤ 57 := by
  subst h
  rw [numT_tl]
  exact TL.numL_digits n
theorem tl_book : tl "book" = [98, 111, 111, 107] := by decide +kernel
theorem tl_cut : tl "cut" = [99, 117, 116] := by decide +kernel
theorem tl_str : tl "/" = [47] := by decide +kernel
theorem Step.one' {rows a b : List Rw} {pt p q : Pt} {x : Str} (h : Step rows pt x a p) (g : Step rows pt x b q) : a = b ∧ p = q := by
  generalize hx : x = y at g
  generalize hp : pt = pt' at g
  cases h with
  | book =>
    cases g with
    | book => exact ⟨rfl, rfl⟩
    | cut _ => exact absurd (tl_book.symm.trans ((congrArg tl hx).trans tl_cut)) (by decide)
    | stroke r _ => cases r <;> cases hp
    | _ => cases hp
  | cut _ =>
    cases g with
    | cut _ => exact ⟨rfl, rfl⟩
    | book => exact absurd (tl_cut.symm.trans ((congrArg tl hx).trans tl_book)) (by decide)
    | stroke r _ => cases r <;> cases hp
    | _ => cases hp
  | num n _ =>
    cases g with
    | num m _ =>
      have := numT_inj hx
      subst this
      exact ⟨rfl, rfl⟩
    | stroke r _ => cases r <;> cases hp
    | _ => cases hp
  | one n _ =>
    cases g with
    | one m _ =>
      have := numT_inj hx
      subst this
      exact ⟨rfl, rfl⟩
    | stroke r _ => cases r <;> cases hp
    | _ => cases hp
  | two i n _ =>
    cases g with
    | two i' m _ =>
      have := numT_inj hx
      subst this
      cases hp
      exact ⟨rfl, rfl⟩
    | stroke r _ => cases r <;> cases hp
    | _ => cases hp
  | «by» i j n _ _ =>
    cases g with
    | «by» i' j' m _ _ =>
      have := numT_inj hx
      subst this
      cases hp
      exact ⟨rfl, rfl⟩
    | stroke r _ => cases r <;> cases hp
    | _ => cases hp
  | stroke r _ =>
    cases r with
    | book n =>
      cases g with
      | stroke r' _ =>
        cases r' with
        | book m =>
          cases hp
          exact ⟨rfl, rfl⟩
        | cut a b c => cases hp
      | _ => cases hp
    | cut a b c =>
      cases g with
      | stroke r' _ =>
        cases r' with
        | book m => cases hp
        | cut a' b' c' =>
          cases hp
          exact ⟨rfl, rfl⟩
      | _ => cases hp
theorem Reach.le {ws : List Str} {n : Nat} {rows : List Rw} {pt : Pt} (h : Reach ws n rows pt) : n ≤ ws.length := by
  cases h with
  | zero => exact Nat.zero_le _
  | succ h e s =>
    have := (List.getElem?_eq_some_iff.mp e).1
    omega
theorem Reach.one {ws : List Str} : ∀ {n : Nat} {rows rows' : List Rw} {pt pt' : Pt}, Reach ws n rows pt → Reach ws n rows' pt' → rows = rows' ∧ pt = pt'
  | 0, _, _, _, _, .zero, .zero => ⟨rfl, rfl⟩
  | n + 1, _, _, _, _, .succ h e s, .succ h' e' s' => by
    obtain ⟨rfl, rfl⟩ := Reach.one h h'
    rw [e] at e'
    cases e'
    exact s.one' s'
/-- the rows that are told -/
def Told (ws : List Str) (rows : List Rw) : Prop := ∃ (rows0 : List Rw) (r : Rw), rows = rows0 ++ [r] ∧ Reach ws ws.length rows0 (ptOf r)
/-- the place at which it is refused -/
def Bad (ws : List Str) (e : Nat) : Prop := ∃ (rows : List Rw) (pt : Pt), Reach ws e rows pt ∧ ((∃ x, ws[e]? = some x ∧ ∀ rows' pt', ¬ Step rows pt x rows' pt') ∨ (e = ws.length ∧ ∀ r, pt ≠ ptOf r))
theorem ptOf_inj {r s : Rw} (h : ptOf r = ptOf s) : r = s := by
  cases r <;> cases s <;> cases h <;> rfl
theorem Told.one {ws : List Str} {a b : List Rw} (h : Told ws a) (g : Told ws b) : a = b := by
  obtain ⟨a0, r, rfl, h⟩ := h
  obtain ⟨b0, s, rfl, g⟩ := g
  obtain ⟨rfl, e⟩ := h.one g
  rw [ptOf_inj e]
theorem Reach.back {ws : List Str} : ∀ {n : Nat} {rows : List Rw} {pt : Pt}, Reach ws n rows pt → ∀ m, m < n → ∃ rows' pt' x r2 p2, Reach ws m rows' pt' ∧ ws[m]? = some x ∧ Step rows' pt' x r2 p2
  | 0, _, _, .zero, m, h => by omega
  | n + 1, _, _, .succ h e s, m, l => by
    by_cases z : m = n
    · subst z
      exact ⟨_, _, _, _, _, h, e, s⟩
    · exact Reach.back h m (by omega)
theorem Bad.told {ws : List Str} {a : List Rw} {e : Nat} (h : Told ws a) (g : Bad ws e) : False := by
  obtain ⟨a0, r, rfl, h⟩ := h
  obtain ⟨rows, pt, g, z⟩ := g
  rcases z with ⟨x, ex, no⟩ | ⟨ee, no⟩
  · have l := (List.getElem?_eq_some_iff.mp ex).1
    obtain ⟨r1, p1, y, r2, p2, h1, h2, h3⟩ := h.back e l
    obtain ⟨rfl, rfl⟩ := g.one h1
    rw [ex] at h2
    cases h2
    exact no _ _ h3
  · subst ee
    exact no r (g.one h).2
theorem Bad.one {ws : List Str} {d e : Nat} (h : Bad ws d) (g : Bad ws e) : d = e := by
  have key : ∀ {d e : Nat}, Bad ws d → Bad ws e → ¬ d < e := fun {d e} h g l => by
    obtain ⟨rows, pt, h, z⟩ := h
    obtain ⟨rows', pt', g, _⟩ := g
    obtain ⟨r1, p1, y, r2, p2, h1, h2, h3⟩ := g.back d l
    obtain ⟨rfl, rfl⟩ := h.one h1
    rcases z with ⟨x, ex, no⟩ | ⟨ee, no⟩
    · rw [ex] at h2
      cases h2
      exact no _ _ h3
    · have := g.le
      omega
  have := key h g
  have := key g h
  omega
/-! ### the class NoText -/
theorem made_R {K : PySem.W.Frag} {C : Addr} {y : V} {H1 : Hp} {E : XK} (T : OexC K C) (nf : PySem.W.findIn K (.ref C) "at" = some none) (h : ∀ dx H2, H1 dx = none → Same H1 H2 → H2 dx = some (.xd [(("at" : Str), y)]) → E (.ref C) (some dx) H2) :
    [y].length ≤ 1000 ∧ ∀ a, H1 a = none → spInit K (.ref a :: ([y] ++ [])) (upd H1 a (exo a C none)) (fun v H2 => v = .non ∧ ∃ (d : Addr) (fs : List (Str × V)), H2 a = some (exo a C (some d)) ∧ H2 d = some (exd d fs) ∧ H1 d = none ∧
      E (.ref C) (some d) (upd (del H2 a) d (.xd fs))) (fun _ _ _ => False) := by
  refine ⟨Nat.le_of_ble_eq_true rfl, fun a na => ⟨a, C, y, rfl, T, nf, upd_same, fun dx nd ne => ?_⟩⟩
  have n1 : H1 dx = none := by
    rw [upd_ne ne] at nd
    exact nd
  refine ⟨rfl, dx, [(("at" : Str), y)], upd_same, by rw [upd_ne ne, upd_same], n1, ?_⟩
  rw [del_new na ne, upd_upd]
  exact h dx _ n1 (same_new n1) upd_same
section
variable {P : Program} {w : World} {K : PySem.W.Frag} {mg : Str → Option Value} {base : Heap}
abbrev sIn1 : Stmt := inClass (topS 16) 0
theorem scI1 : FnScope ["self", "at"] ["self", "at"] (defScope sIn1) := ⟨rfl, rfl, rfl, by decide +kernel, rfl, by decide +kernel, by decide +kernel⟩
theorem ok_in1 {f : Addr} {fd : FuncData} {k : Nat} (F : Fun K "__init__" "NoText.__init__" sIn1 f fd) : FnOk P w K mg base CX0 (k + 1) f fd ["self", "at"] (spInit K) := by
  refine F.ok scI1 (fun vs H Q E h => ?_) (fun cdv A outer s H vs Q E hr h => ⟨_, pss_one (ps_ost (pv 0) (pv 1)), ?_⟩)
  · obtain ⟨a, C, y, rfl, _⟩ := h
    rfl
  · obtain ⟨a, C, y, rfl, T, nf, ha, q⟩ := h
    exact ⟨_, rfl, _, rfl, a, C, rfl, T, nf, .inl ⟨ha, fun dx nd ne => q dx nd ne⟩⟩
/-- what is known of the class NoText -/
structure NT (P : Program) (w : World) (K : PySem.W.Frag) (mg : Str → Option Value) (base : Heap) (C f1 : Addr) (fd1 : FuncData) : Prop where
  O : OexC K C
  nf : PySem.W.findIn K (.ref C) "at" = some none
  i : PySem.W.findIn K (.ref C) "__init__" = some (some (.ref f1))
  t : PySem.W.typeIn K (.ref f1) = some (.type "function")
  b : Binds K fd1 ["self", "at"] []
  G : FnOk P w K mg base CX0 1 f1 fd1 ["self", "at"] (spInit K)
  g : mg "NoText" = some (.ref C)
/-- refused at that place -/
def Rf (E : XK) (C : Addr) (H : Hp) (e : Nat) : Prop := ∀ dx H', Same H H' → H' dx = some (.xd [(("at" : Str), .int (e : Nat))]) → E (.ref C) (some dx) H'
def WsL (H : Hp) (L : Addr) (ws : List Str) : Prop := H L = some (.lst (ws.map V.str)) ∧ ws.length ≤ 100000 ∧ ∀ x ∈ ws, x.length ≤ 100000
theorem WsL.same {H H' : Hp} {L : Addr} {ws : List Str} (h : WsL H L ws) (s : Same H H') : WsL H' L ws := ⟨s _ _ h.1, h.2⟩
abbrev sWof : Stmt := topS 26
theorem scWof : FnScope ["text"] ["text"] (defScope sWof) := ⟨rfl, rfl, rfl, by decide +kernel, rfl, by decide +kernel, by decide +kernel⟩
def spWof : Sp := fun vs H Q _ => ∃ x : Str, vs = [.str x] ∧ x.length ≤ 50000 ∧ ∀ p H', H p = none → Same H H' → H' p = some (.lst ((Txt.split x " ").map V.str)) → Q (.ref p) H'
theorem ok_wof {f : Addr} {fd : FuncData} {k : Nat} (F : Fun K "words_of" "words_of" sWof f fd) : FnOk P w K mg base CX0 (k + 1) f fd ["text"] spWof := by
  refine F.ok scWof (fun vs H Q E h => ?_) (fun cdv A outer s H vs Q E hr h => ?_)
  · obtain ⟨x, rfl, _⟩ := h
    rfl
  · obtain ⟨x, rfl, lx, q⟩ := h
    refine ⟨_, (pss_one (ps_ret (pe_split (pv 0) pe_str))), ?_⟩
    exact ⟨_, rfl, ⟨_, rfl⟩, _, _, rfl, rfl, by decide +kernel, Nat.le_trans (Nat.add_le_add_right lx 2) (by decide), fun p np => q p _ np (same_new np) upd_same⟩
abbrev sWat : Stmt := topS 27
theorem scWat : FnScope ["words", "at"] ["words", "at"] (defScope sWat) := ⟨rfl, rfl, rfl, by decide +kernel, rfl, by decide +kernel, by decide +kernel⟩
def optV : Option Str → V
  | some x => .str x
  | none => .non
def spWat : Sp := fun vs H Q _ => ∃ (L : Addr) (ws : List Str) (n : Nat), vs = [.ref L, .int n] ∧ WsL H L ws ∧ Q (optV ws[n]?) H
theorem ok_wat {f : Addr} {fd : FuncData} {k : Nat} (F : Fun K "word_at" "word_at" sWat f fd) (T : Zn mg) : FnOk P w K mg base CX0 (k + 1) f fd ["words", "at"] spWat := by
  refine F.ok scWat (fun vs H Q E h => ?_) (fun cdv A outer s H vs Q E hr h => ?_)
  · obtain ⟨L, ws, n, rfl, _⟩ := h
    rfl
  · obtain ⟨L, ws, n, rfl, ⟨hL, l1, l2⟩, q⟩ := h
    refine ⟨_, (pss_one (ps_ret (pe_ifExp (pt_cmpR op_lt (pv 1) (pe_callB call_len_seq (by rfl) T.z_len (by decide +kernel) (pa_cons (pv 0) pa_nil)) (nomark _)) (pe_ix ix_list (pv 0) (pv 1) (fun _ _ => rfl)) pe_non))), ?_⟩
    refine ⟨_, rfl, _, rfl, L, _, rfl, .inl (.of hL), _, _, rfl, rfl, _, rfl, ite2 (fun e => ?_) (fun e => ?_)⟩
    · have e : (n : Int) < ((ws.map V.str).length : Nat) := of_decide_eq_true e
      rw [List.length_map] at e
      have hx := List.getElem?_eq_getElem (show n < ws.length by omega)
      rw [hx] at q
      exact ⟨_, rfl, _, rfl, L, _, _, .str ws[n], rfl, rfl, .of hL, at_of (j := n) rfl (by rw [List.getElem?_map, hx]; rfl), q⟩
    · have e : ¬ (n : Int) < ((ws.map V.str).length : Nat) := fun z => e (decide_eq_true z)
      rw [List.length_map] at e
      rw [List.getElem?_eq_none_iff.mpr (show ws.length ≤ n by omega)] at q
      exact q
abbrev sBst : Stmt := topS 30
theorem scBst : FnScope ["words", "at", "many", "most"] ["words", "at", "many", "most"] (defScope sBst) := ⟨rfl, rfl, rfl, by decide +kernel, rfl, by decide +kernel, by decide +kernel⟩
def spBst (C : Addr) : Sp := fun vs H Q E => ∃ (L : Addr) (ws : List Str) (a m mo : Nat), vs = [.ref L, .int a, .int m, .int mo] ∧ WsL H L ws ∧ (ws[a]? = some ("/" : Str) → m < mo → Q (.int ((a + 1 : Nat) : Int)) H) ∧ (¬ (ws[a]? = some ("/" : Str) ∧ m < mo) → Rf E C H a)
theorem ok_bst {f fA f1 C : Addr} {fd fdA fd1 : FuncData} {tk : Tok} (F : Fun K "behind_stroke" "behind_stroke" sBst f fd) (N : NT P w K mg base C f1 fd1) (MS : mg "STROKE" = some (.str "/" tk))
    (FA : Fun K "word_at" "word_at" sWat fA fdA) (bA : Binds K fdA ["words", "at"] []) (gA : mg "word_at" = some (.ref fA)) (GA : FnOk P w K mg base CX0 1 fA fdA ["words", "at"] spWat) :
    Gx2.FnX P w K mg base (L2.CX P w) 3 f fd ["words", "at", "many", "most"] (spBst C) := by
  refine Gx2.okX F scBst (fun vs H Q E h => ?_) (fun cdv A outer s H vs Q E gd0 hr h => ?_)
  · obtain ⟨L, ws, a, m, mo, rfl, _⟩ := h
    rfl
  · obtain ⟨L, ws, a, m, mo, rfl, hw, q1, q2⟩ := h
    have hr1 : Room 1 _ := hr.mono (by omega)
    have hr2 : Room 2 _ := hr.mono (by omega)
    refine ⟨_, (Evl.pss_cut (ps_if (PW.pt (pw_or (pt_cmpR op_ne (pe_call GA hr1 (by rfl) gA FA.kp bA .nil pass0 (pa_cons (pv 0) (pa_cons (pv 1) pa_nil))) (pe_glob (v := .str "/") rfl MS ⟨_, rfl⟩) (nomark _)) (pw_or1 (pt_cmpR op_ge (pv 2) (pv 3) (nomark _))))) (pss_one (ps_raise rfl (takes_of rfl rfl rfl rfl) (pmk_oex N.O N.i N.t N.G hr2 N.b .nil pass0 (by rfl) N.g (pa_cons (pv 1) pa_nil)))) pss_nil)
      (pss_one (ps_ret (pe_op op_add (pv 1) pe_int)))), ?_⟩
    have raise : ¬ (ws[a]? = some ("/" : Str) ∧ m < mo) → tMkO C (spInit K) [] (tCons (tVar 1) tNil) [some (.ref L), some (.int a), some (.int m), some (.int mo)] H fun cls d H' => E cls d H' := fun z =>
      ⟨_, rfl, made_R N.O N.nf fun dx H2 _ s2 e2 => q2 z dx H2 s2 e2⟩
    refine Evl.q_cut (M := fun σ' G => σ' = [some (.ref L), some (.int a), some (.int m), some (.int mo)] ∧ H = G ∧ ws[a]? = some ("/" : Str) ∧ m < mo) ?_ ?_
    · refine ⟨_, rfl, _, rfl, L, ws, a, rfl, hw, ?_⟩
      cases hx : ws[a]? with
      | none => exact ⟨rfl, _, rfl, ite2 (fun _ => raise fun z => by rw [hx] at z; cases z.1) (fun e => absurd rfl e)⟩
      | some x =>
        refine ⟨rfl, _, rfl, ite2 (fun e => raise fun z => ?_) (fun e => ?_)⟩
        · rw [hx] at z
          rw [Option.some.inj z.1] at e
          exact absurd (show optV (some (Str.ofString "/")) = V.str (Str.ofString "/") from rfl) (by simpa using e)
        · have ex : x = ("/" : Str) := by
            refine Classical.byContradiction fun z => e ?_
            show (!decide (V.str x = V.str "/")) = true
            rw [decide_eq_false fun y => z (V.str.inj y)]
            rfl
          subst ex
          refine ⟨_, rfl, _, rfl, _, _, rfl, rfl, _, rfl, ite2 (fun e => raise fun z => ?_) (fun e => ⟨rfl, rfl, rfl, ?_⟩)⟩
          · have e : (mo : Int) ≤ m := of_decide_eq_true e
            omega
          · have e : ¬ (mo : Int) ≤ m := fun z => e (decide_eq_true z)
            omega
    rintro σ' G ⟨rfl, rfl, e1, e2⟩
    exact ⟨_, rfl, _, _, rfl, rfl, q1 e1 e2⟩
theorem step_p0 {rows a : List Rw} {x : Str} {p : Pt} (h : Step rows .p0 x a p) : x = "book" ∨ (x = "cut" ∧ 0 < rows.length) := by
  generalize hp : Pt.p0 = q at h
  cases h with
  | book => exact .inl rfl
  | cut h => exact .inr ⟨rfl, h⟩
  | stroke r _ => cases r <;> cases hp
  | _ => cases hp
theorem step_b0 {rows a : List Rw} {x : Str} {p : Pt} (h : Step rows .b0 x a p) : ∃ n : Nat, n ≤ 15 ∧ x = numT n := by
  generalize hp : Pt.b0 = q at h
  cases h with
  | num n h => exact ⟨n, h, rfl⟩
  | stroke r _ => cases r <;> cases hp
  | _ => cases hp
theorem step_c0 {rows a : List Rw} {x : Str} {p : Pt} (h : Step rows .c0 x a p) : ∃ n : Nat, n < rows.length ∧ x = numT n := by
  generalize hp : Pt.c0 = q at h
  cases h with
  | one n h => exact ⟨n, h, rfl⟩
  | stroke r _ => cases r <;> cases hp
  | _ => cases hp
theorem step_c1 {rows a : List Rw} {x : Str} {p : Pt} {i : Nat} (h : Step rows (.c1 i) x a p) : ∃ n : Nat, n < rows.length ∧ x = numT n := by
  generalize hp : Pt.c1 i = q at h
  cases h with
  | two i' n h => exact ⟨n, h, rfl⟩
  | stroke r _ => cases r <;> cases hp
  | _ => cases hp
theorem step_c2 {rows a : List Rw} {x : Str} {p : Pt} {i j : Nat} (h : Step rows (.c2 i j) x a p) : ∃ n : Nat, 1 ≤ n ∧ n ≤ 8 ∧ x = numT n := by
  generalize hp : Pt.c2 i j = q at h
  cases h with
  | «by» i' j' n h1 h2 => exact ⟨n, h1, h2, rfl⟩
  | stroke r _ => cases r <;> cases hp
  | _ => cases hp
theorem step_r {rows a : List Rw} {x : Str} {p : Pt} {r : Rw} (h : Step rows (ptOf r) x a p) : x = "/" ∧ rows.length < 199 := by
  generalize hp : ptOf r = q at h
  cases h with
  | stroke r' h => exact ⟨rfl, h⟩
  | _ => cases r <;> cases hp
theorem bad_at {ws : List Str} {n : Nat} {rows : List Rw} {pt : Pt} (h : Reach ws n rows pt) (no : ∀ x, ws[n]? = some x → ∀ rows' pt', ¬ Step rows pt x rows' pt') (np : ∀ r, pt ≠ ptOf r) : Bad ws n := by
  refine ⟨rows, pt, h, ?_⟩
  cases hx : ws[n]? with
  | none =>
    have := List.getElem?_eq_none_iff.mp hx
    have := h.le
    exact .inr ⟨by omega, np⟩
  | some x => exact .inl ⟨x, rfl, no x hx⟩
theorem eq_w {o : Option Str} {x : Str} : (decide (optV o = V.str x) = true) ↔ o = some x := by
  cases o with
  | none => exact ⟨fun e => (nomatch (of_decide_eq_true e : V.non = V.str x)), fun e => (nomatch e)⟩
  | some y => exact ⟨fun e => by rw [V.str.inj (of_decide_eq_true e : V.str y = V.str x)], fun e => by rw [Option.some.inj e]; exact decide_eq_true rfl⟩
theorem scal_w {o : Option Str} {x : Str} : scal (optV o) (V.str x) = true := by cases o <;> rfl
def mA (n : Nat) : List (Option V) → Nat
  | _ :: some (.int i) :: _ => n - i.toNat
  | _ => 0
def RowAt (H : Hp) (v : V) (r : Rw) : Prop := ∃ p, v = .ref p ∧ H p = some (.tup r.vs)
theorem RowAt.same {H H' : Hp} {v : V} {r : Rw} (h : RowAt H v r) (s : Same H H') : RowAt H' v r := by
  obtain ⟨p, e, h⟩ := h
  exact ⟨p, e, s _ _ h⟩
theorem RowAt.wr {H : Hp} {D : Addr} {ys : List V} {o : HO} {v : V} {r : Rw} (h : RowAt H v r) (hD : H D = some (.lst ys)) : RowAt (upd H D o) v r := by
  obtain ⟨p, e, h⟩ := h
  exact ⟨p, e, by rw [upd_ne (fun z => by rw [z, hD] at h; cases h)]; exact h⟩
/-- items told one by one -/
def All2 {α β : Type} (R : α → β → Prop) (xs : List α) (ys : List β) : Prop := xs.length = ys.length ∧ ∀ (i : Nat) (x : α) (y : β), xs[i]? = some x → ys[i]? = some y → R x y
theorem All2.imp {α β : Type} {R S : α → β → Prop} {xs : List α} {ys : List β} (h : All2 R xs ys) (f : ∀ x y, R x y → S x y) : All2 S xs ys := ⟨h.1, fun i x y h1 h2 => f x y (h.2 i x y h1 h2)⟩
theorem All2.nil {α β : Type} {R : α → β → Prop} : All2 R ([] : List α) ([] : List β) := ⟨rfl, fun i x y h => by cases h⟩
theorem All2.snoc {α β : Type} {R : α → β → Prop} {xs : List α} {ys : List β} {x : α} {y : β} (h : All2 R xs ys) (r : R x y) : All2 R (xs ++ [x]) (ys ++ [y]) := by
  refine ⟨by rw [List.length_append, List.length_append, h.1]; rfl, fun i x' y' h1 h2 => ?_⟩
  by_cases hi : i < xs.length
  · rw [List.getElem?_append_left hi] at h1
    rw [List.getElem?_append_left (by rw [← h.1]; exact hi)] at h2
    exact h.2 i x' y' h1 h2
  · have e : i = xs.length := by
      have := (List.getElem?_eq_some_iff.mp h1).1
      rw [List.length_append, List.length_singleton] at this
      omega
    subst e
    rw [List.getElem?_append_right (Nat.le_refl _), Nat.sub_self] at h1
    rw [List.getElem?_append_right (by rw [h.1]; exact Nat.le_refl _), show xs.length - ys.length = 0 by rw [h.1]; exact Nat.sub_self _] at h2
    cases h1
    cases h2
    exact r
theorem All2.cat {α β : Type} {R : α → β → Prop} {xs us : List α} {ys ws : List β} (h : All2 R xs ys) (g : All2 R us ws) : All2 R (xs ++ us) (ys ++ ws) := by
  refine ⟨by rw [List.length_append, List.length_append, h.1, g.1], fun i x y h1 h2 => ?_⟩
  by_cases hi : i < xs.length
  · rw [List.getElem?_append_left hi] at h1
    rw [List.getElem?_append_left (by rw [← h.1]; exact hi)] at h2
    exact h.2 i x y h1 h2
  · rw [List.getElem?_append_right (by omega)] at h1
    rw [List.getElem?_append_right (by rw [← h.1]; omega), ← h.1] at h2
    exact g.2 _ x y h1 h2
theorem All2.take {α β : Type} {R : α → β → Prop} {xs : List α} {ys : List β} (h : All2 R xs ys) (n : Nat) : All2 R (xs.take n) (ys.take n) := by
  refine ⟨by rw [List.length_take, List.length_take, h.1], fun i x y h1 h2 => ?_⟩
  rw [List.getElem?_take] at h1 h2
  by_cases l : i < n
  · rw [if_pos l] at h1 h2
    exact h.2 i x y h1 h2
  · rw [if_neg l] at h1
    cases h1
theorem All2.at {α β : Type} {R : α → β → Prop} {xs : List α} {ys : List β} (h : All2 R xs ys) {i : Nat} {x : α} (e : xs[i]? = some x) : ∃ y, ys[i]? = some y ∧ R x y := by
  have l := (List.getElem?_eq_some_iff.mp e).1
  have l2 : i < ys.length := by rw [← h.1]; exact l
  exact ⟨ys[i], List.getElem?_eq_getElem l2, h.2 i x _ e (List.getElem?_eq_getElem l2)⟩
theorem All2.atR {α β : Type} {R : α → β → Prop} {xs : List α} {ys : List β} (h : All2 R xs ys) {i : Nat} {y : β} (e : ys[i]? = some y) : ∃ x, xs[i]? = some x ∧ R x y := by
  have l := (List.getElem?_eq_some_iff.mp e).1
  have l2 : i < xs.length := by rw [h.1]; exact l
  exact ⟨xs[i], List.getElem?_eq_getElem l2, h.2 i _ y (List.getElem?_eq_getElem l2) e⟩
theorem same_wr {H H1 : Hp} {D : Addr} {o : HO} (s : Same H H1) (n : H D = none) : Same H (upd H1 D o) := fun b x e => by
  rw [upd_ne (ne_of_none e n)]
  exact s b x e
def RowsL (H : Hp) (R : Addr) (rows : List Rw) : Prop := ∃ vs, H R = some (.lst vs) ∧ All2 (RowAt H) vs rows
theorem spl_len : ∀ (l acc : List Nat), (TL.spl [32] 0 acc l).length ≤ l.length + 1 ∧ ∀ p ∈ TL.spl [32] 0 acc l, p.length ≤ acc.length + l.length
  | [], acc => by
    rw [TL.spl_nil]
    exact ⟨Nat.le_refl _, fun p hp => by rw [List.mem_singleton.mp hp]; exact Nat.le_refl _⟩
  | c :: r, acc => by
    cases h : TL.pre [32] (c :: r) with
    | true =>
      rw [TL.spl_hit h]
      obtain ⟨h1, h2⟩ := spl_len r []
      refine ⟨?_, fun p hp => ?_⟩
      · show (TL.spl [32] 0 [] r).length + 1 ≤ r.length + 1 + 1
        omega
      · rcases List.mem_cons.mp hp with z | z
        · rw [z]
          exact Nat.le_add_right _ _
        · have := h2 p z
          rw [List.length_nil] at this
          rw [List.length_cons]
          omega
    | false =>
      rw [TL.spl_miss h]
      obtain ⟨h1, h2⟩ := spl_len r (acc ++ [c])
      refine ⟨by rw [List.length_cons]; omega, fun p hp => ?_⟩
      have := h2 p hp
      rw [List.length_append, List.length_singleton] at this
      rw [List.length_cons]
      omega
theorem split_len (x : Str) : (Txt.split x " ").length ≤ x.length + 1 ∧ ∀ y ∈ Txt.split x " ", y.length ≤ x.length := by
  have e0 : tl " " = [32] := by decide +kernel
  have e := TL.split_spl x " " (by rw [e0]; decide) (TL.kind_ok (by decide +kernel))
  rw [e0] at e
  obtain ⟨h1, h2⟩ := spl_len (tl x) []
  rw [← e] at h1 h2
  refine ⟨?_, fun y hy => ?_⟩
  · rw [List.length_map] at h1
    rw [len_tl]
    exact h1
  · have := h2 (tl y) (List.mem_map_of_mem hy)
    rw [List.length_nil, Nat.zero_add] at this
    rw [len_tl, len_tl]
    exact this
end
end Tw
namespace Rk
open PySem PySem.Spec PyProof.Rows L2 Nw Ev1 Gx2
/-! ### a call of a value that an expression tells; a caught error kept as a value; count of truths -/
theorem takes0 {X : Cx} : Takes X (fun _ _ _ _ => False) := fun _ _ x => by
  obtain ⟨_, _, _, _, _, _, _, _, _, _, _, _, _, _, _, _, z⟩ := x
  exact z.elim
section
variable {X : Cx} {CX : CXT} {k : Nat} {f : Addr} {fd : FuncData} {ps : List Str} {sp : Sp} {E : L2.St → XK}
theorem runS {pins : List (Addr × Obj)} {σ : L2.St} {H : Hp} {s : Shared} {Q : VK} {us : List Value} {vs : List V} (F : FnX X.prog X.w X.K X.mg X.base CX k f fd ps sp) (gd : X.A.guards = some []) (room : Room k X.A) (bind : Binds X.K fd ps []) (pass : PassesAt CX X σ (E σ))
    (I : Inv X pins σ H s) (rel : Vals vs us) (ask : sp vs H Q (E σ)) : wpAny (model X.prog X.w) X.A (call (.ref f) us) (EP X pins σ Q) X.xe s := by
  have ll : us.length = ps.length := rel.length.symm.trans (F.len _ _ _ _ ask)
  have b := bind s us I.kIn (by rw [List.append_nil]; exact ll)
  rw [List.append_nil] at b
  refine wpAny_call (codeAny_mono (F.run X.A X.stack s H ⟨us, []⟩ us vs Q (E σ) gd room I.env0 b rel ask) fun r s' z => ?_)
  match r, z with
  | .error e, z => exact pass pins H s e s' I z
  | .ok (.ret u), z => exact I.after z
  | .ok .next, z => exact z.elim
  | .ok .brk, z => exact z.elim
  | .ok .cont, z => exact z.elim
/-- g(e, ..), g an expression that tells the def f -/
def tCallV (f : Addr) (tf : TE) (sp : Sp) (E : L2.St → XK) (t : TA) : TE := fun σ H Q => tf σ H fun v H1 => v = .ref f ∧ t σ H1 fun vs H2 => sp vs H2 Q (E σ)
theorem pe_callV {fe e : Expr} {es : List Expr} {tf : TE} {t : TA} {pos : Pos} (F : FnX X.prog X.w X.K X.mg X.base CX k f fd ps sp) (gd : X.A.guards = some []) (room : Room k X.A) (kp : PySem.W.keepIn X.K (.ref f) = true) (bind : Binds X.K fd ps []) (pass : ∀ σ, PassesAt CX X σ (E σ)) (hf : PE X fe tf)
    (ha : PA X (e :: es) t) (hc : eval (.Call fe (e :: es) [] pos) X.env = (do callWith pos (← eval fe X.env) [] (backTo pos (starEach (e :: es) X.env)) (backToKw pos (keywordEach [] X.env))) := by rfl)
    (he : starEach (e :: es) X.env = (false, eval e X.env) :: starEach es X.env := by rfl) (hpl : (backTo pos (starEach es X.env)).any (·.1) = false := by rfl) :
    PE X (.Call fe (e :: es) [] pos) (tCallV f tf sp E t) := by
  refine ⟨fun pins s σ H Q I h => ?_⟩
  rw [hc]
  refine wpAny_bind (thn (hf.run pins s σ H _ I h) fun u s1 ⟨v, H1, I1, r1, e1, q1⟩ => ?_)
  subst e1
  cases r1
  exact PySem.W.callWith_K (h₀ := X.base) I1.ok.mod.kin kp (thn (ha.run pos pins s1 σ H1 _ I1 q1) fun us s2 ⟨vs, H2, I2, r, q⟩ => ⟨I2.kIn, runS F gd room bind (pass σ) I2 r q⟩) he hpl
end
section
variable {X : Cx} {pins : List (Addr × Obj)} {σ : L2.St} {H : Hp} {s : Shared} {a : Addr} {oe : Obj} {cls : Value} {d : Option Addr}
/-- an exception that stands in the heap comes to be known -/
theorem track {vs : Array Value} (I : Inv X pins σ H s) (ha : s.heap.get? a = some oe) (hz : Zc cls d oe) (hd : oe.data = .fields vs) (na : H a = none) (nL : a ≠ X.env.locals) (n0 : X.s_0.heap.get? a = none) (np : ∀ p ∈ X.pn ++ pins, p.1 ≠ a) :
    Inv X pins σ (upd H a (ExV cls d a)) s := by
  have new : ObjOk X.prog X.w (upd H a (ExV cls d a)) s.heap a (ExV cls d a) := ⟨⟨oe, vs, ha, hz, hd⟩, ⟨oe, ha⟩, fun h1 h2 ⟨o, v, y, r⟩ i => ⟨o, v, i o y, r⟩⟩
  have b := I.base
  refine ⟨I.ok, I.os, I.bare, ⟨b.keep, b.slot, fun x o e n m => ?_, b.there, fun x xs e => ?_, fun x o u e => ?_, fun x ps e => ?_⟩, I.loc, I.cell, ?_, fun x c e => ?_, fun p hp => ?_, I.hok.laidN (fun _ _ z => z) na new, I.len⟩
  · rw [upd_ne (fun z => by rw [z, n0] at e; cases e)]
    exact b.free x o e n m
  · rw [upd_ne (ne_of_none (b.tups x xs e) na)]
    exact b.tups x xs e
  · rw [upd_ne (ne_of_none (b.frzs x o u e) na)]
    exact b.frzs x o u e
  · obtain ⟨more, z⟩ := b.tbls x ps e
    exact ⟨more, by rw [upd_ne (ne_of_none z na)]; exact z⟩
  · rw [upd_ne (Ne.symm nL)]
    exact I.free
  · obtain ⟨w, z⟩ := I.cell x c e
    rw [upd_ne (fun y => ?_)]
    · exact I.freeC x c e
    · rw [y] at z
      obtain ⟨o, z1, z2⟩ := z
      rw [ha] at z1
      cases z1
      simp_all
  · obtain ⟨e, n, ne, nf, c⟩ := I.pin p hp
    exact ⟨e, by rw [upd_ne (np p hp)]; exact n, ne, nf, c⟩
end
/-- what «except x as n: suite» wishes of an exception of the body, where the suite ends and the exception is known behind it -/
def wKeep (K : PySem.W.Frag) (c : Value) (i : Nat) (ts : Addr → Value → Option Addr → TS) (Wout : WX) (D : Ends) : WX := fun cls d σ H =>
  ∃ b, PySem.W.exmOne K cls c = some b ∧ (b = true → ∀ a, H a = none → ts a cls d { nx := fun σ' H' => H' a = none → D.nx (σ'.set i none) (upd H' a (ExV cls d a)), rt := fun _ _ => False, bk := fun _ _ => False, ct := fun _ _ => False } (σ.set i (some (.ref a))) H) ∧
    (b = false → Wout cls d σ H)
section
variable {X : Cx} {x n : Str} {c : Value} {i : Nat} {body suite : List Stmt} {b₀ : Stmt} {np pos pos' : Pos} {tb : WX → TS} {ts : Addr → Value → Option Addr → TS} {Wout : WX}
theorem ps_try_keep (hs : X.stack = X.env :: X.outer) (hf : X.env.frame = some X.env.locals) (hex : X.ex = []) (hN : X.N.Nodup) (hi : X.N[i]? = some n) (hln : X.env.kindOf n = some .local) (hc : Names X x c) (tk : Takes X Wout)
    (hb : ∀ (W : WX) (pn : List (Addr × Obj)) (xe : Value → Shared → Prop), Takes (X.tr pn xe) W → PassesOwn (model X.prog X.w) X.A X.env xe → PSs (X.tr pn xe) body (tb W))
    (hsu : ∀ (a : Addr) (oe : Obj) (cls : Value) (d : Option Addr) (pn : List (Addr × Obj)), Zc cls d oe → (∃ vs, oe.data = .fields vs) → PSs (X.suite a ((a, oe) :: pn)) (b₀ :: suite) (ts a cls d)) :
    PS X (.Try body [.ExceptHandler (some (.Name x np)) (some n) (b₀ :: suite) pos'] [] [] pos) (fun D σ H => tb (wKeep X.K c i ts Wout D) D σ H) := by
  refine ⟨fun pins s σ H D I h => ?_⟩
  have ok := I.ok
  have hfr : X.A.frames = some (X.env :: X.outer) := by rw [ok.frames, hs]
  have hloc : Loc X.env.scope n := .inl hln
  refine wpAny_Try_except ?_
  refine wpAny_mono ((hb (wKeep X.K c i ts Wout D) (X.pn ++ pins) (fun e s₁ => wpAny (model X.prog X.w) X.A (noteFrame e X.env) (fun _ s₂ => wpAny (model X.prog X.w) X.A (setFlight e none) (fun _ s₃ =>
    wpAny (model X.prog X.w) X.A (handleBy e X.env [.ExceptHandler (some (.Name x np)) (some n) (b₀ :: suite) pos']) (SP X pins D) X.xe s₃) X.xe s₂) X.xe s₁) (fun u s' xx => ?_) PassesOwn.looking).run [] s σ H D (I.toTry _) h) (fun f s1 hsp => ?_) (fun e s1 he => he)
  · obtain ⟨a, B, sI, pins', σ', H', cls, d, rfl, J', nb, up, sky, na, os, ag, b, hb1, hyes, hno⟩ := xx
    have J : Inv X pins σ' H' sI := J'.ofTry ok
    have sky' : Sky B (X.env :: X.outer) a (Zc cls d) X.env.locals s'.heap := by rw [← hs]; exact sky
    have Ba : B.get? a = none := by
      rcases sky with z | z | z
      · exact z.2.1
      · exact z.2.1
      · exact z.2.1
    show wpAny (model X.prog X.w) X.A (noteFrame (.ref a) X.env) _ _ _
    refine Sky.land Zc.steady hfr hf sky' fun h3 fl3 up3 => ?_
    have J3 : Inv X pins σ' H' { s' with heap := h3 } := J.landed nb fl3.1 (up.trans up3) os ag
    obtain ⟨oe3, vs3, he3, hz3, hd3⟩ := fl3.there
    have notFr : ∀ {h : Heap} {o : Obj} {vs : Array Value}, h.FunFrames B (X.env :: X.outer) → h.get? a = some o → o.data = .fields vs → a ∉ frs (X.env :: X.outer) := fun {h o vs} ff e dd hm => by
      obtain ⟨_, o', e', hnf⟩ := ff.mem hm
      rw [e] at e'; cases e'
      exact hnf _ dd
    have nfr := notFr fl3.2.2.1 he3 hd3
    have nL : a ≠ X.env.locals := fun z => nfr (List.mem_filterMap.mpr ⟨X.env, List.mem_cons_self, by rw [hf, z]⟩)
    have nF : a ∉ X.fs := fun hm => by
      obtain ⟨e, he, q⟩ := List.mem_filterMap.mp hm
      exact nfr (List.mem_filterMap.mpr ⟨e, List.mem_cons_of_mem _ he, q⟩)
    have n0 : X.s_0.heap.get? a = none := by
      cases z : X.s_0.heap.get? a with
      | none => rfl
      | some o =>
        obtain ⟨o', z2⟩ := J.base.there a o z (by rw [hex]; simp)
        rw [nb a o' z2 (by show a ∉ frs X.stack; rw [hs]; exact nfr)] at Ba
        cases Ba
    have npin : ∀ p ∈ X.pn ++ pins, p.1 ≠ a := fun p hp z => by
      have y := (J.pin p hp).1
      rw [z] at y
      rw [nb a _ y (by show a ∉ frs X.stack; rw [hs]; exact nfr)] at Ba
      cases Ba
    have S3 := J3.suite he3 hd3 na nL nF
    refine wpAny_handleBy_cons (codeAny_handlers_test ?_) (by intro q; cases q)
    have LT : PySem.W.Looks (model X.prog X.w) h3 (typeOf (.ref a)) cls := fun A Q E s k q => wpAny_typeOf_ref (k _ _ he3) (by rw [hz3.1]; exact q)
    have LM := PySem.W.exm_one (M := model X.prog X.w) (J3.kIn) LT hb1
    have test : ∀ {Q : Value → Shared → Prop} {E : Value → Shared → Prop}, Q c { s' with heap := h3 } → wpAny (model X.prog X.w) (X.A.mark (some (.ref a))) (eval (.Name x np) X.env) Q E { s' with heap := h3 } := fun {Q E} q => by
      obtain ⟨hg, hdbg, hm | ⟨hm, hv, hnn⟩⟩ := hc
      · exact ld_glob (X := X.suite a ((a, oe3) :: (X.pn ++ pins))) S3 hg hm q hdbg
      · exact ld_blt (X := X.suite a ((a, oe3) :: (X.pn ++ pins))) S3 hg hm hv q hnn hdbg
    refine test (LM.here ?_)
    cases b with
    | true =>
      refine codeAny_handlers_suite_as ?_
      refine HandSPX.lands_againZ fl3 fun h4 fl4 up4 => ?_
      have J4 : Inv X pins σ' H' { s' with heap := h4 } := J.landed nb fl4.1 ((up.trans up3).trans up4) os ag
      obtain ⟨oe4, vs4, he4, hz4, hd4⟩ := fl4.there
      have S4 := J4.suite he4 hd4 na nL nF
      refine store_ok (X := X.suite a ((a, oe4) :: (X.pn ++ pins))) (v := .ref a) S4 hN hi hloc rfl (fun s5 S5 => ?_) (.inr hln)
      refine wpAny_mono ((hsu a oe4 cls d (X.pn ++ pins) hz4 ⟨_, hd4⟩).run [] s5 _ H' _ S5 (hyes rfl a na)) (fun f s6 hsp => ?_) (fun _ _ z => False.elim z)
      cases f with
      | next =>
        obtain ⟨σ6, H6, S6, q6⟩ := hsp
        obtain ⟨p1, p2, _⟩ := S6.pin (a, oe4) (List.mem_append_left _ List.mem_cons_self)
        have J6 : Inv X pins σ6 H6 s6 := S6.unsuite ok
        have J7 : Inv X pins σ6 (upd H6 a (ExV cls d a)) s6 := track J6 p1 hz4 hd4 p2 nL n0 npin
        exact gone_ok J7 hN hi hln fun s7 J8 => ⟨_, _, J8, q6 p2⟩
      | brk =>
        obtain ⟨σ6, H6, S6, q6⟩ := hsp
        exact q6.elim
      | cont =>
        obtain ⟨σ6, H6, S6, q6⟩ := hsp
        exact q6.elim
      | ret u =>
        obtain ⟨v6, σ6, H6, S6, r6, q6⟩ := hsp
        exact q6.elim
    | false =>
      show wpAny _ X.A (handleBy (.ref a) X.env []) _ _ _
      refine wpAny_handleBy_nil ?_
      obtain ⟨k1, k2, k3, oe, vs, T, oT, ts', he, hz, hd, h1, hr⟩ := id fl3
      unfold PySem.passOn
      refine wpAny_bind (wpAny_field he hd h1 ?_)
      rw [if_neg (show ¬ ((Value.ref T == Value.none) = true) from by simp)]
      have fin : wpAny (model X.prog X.w) X.A (setFlight (.ref a) X.env.frame) (fun _ s4 => wpAny (model X.prog X.w) X.A (throw (.ref a) : Sem Flow) (SP X pins D) X.xe s4) X.xe { s' with heap := h3 } := by
        rw [hf]
        refine HandSPX.setFlight_upZ fl3 fun h4 hh4 up4 => wpAny_throw (tk _ _ ?_)
        exact ⟨a, B, sI, pins, σ', H', cls, d, rfl, J, nb, (up.trans up3).trans up4, .inr (.inr (by rw [hs]; exact hh4)), na, os, ag, hno rfl⟩
      first
        | exact wpAny_bind (wpAny_pure (wpAny_bind fin))
        | exact wpAny_bind fin
  · cases f with
    | next =>
      obtain ⟨σ', H', J', q⟩ := hsp
      exact wpAny_execs_nil ⟨σ', H', J'.ofTry ok, q⟩
    | brk =>
      obtain ⟨σ', H', J', q⟩ := hsp
      exact ⟨σ', H', J'.ofTry ok, q⟩
    | cont =>
      obtain ⟨σ', H', J', q⟩ := hsp
      exact ⟨σ', H', J'.ofTry ok, q⟩
    | ret u =>
      obtain ⟨v, σ', H', J', r, q⟩ := hsp
      exact ⟨v, σ', H', J'.ofTry ok, r, q⟩
end
/-- at a a caught exception of the class D -/
def ExW (H : Hp) (a D : Addr) : Prop := H a = some (ExV (.ref D) none a) ∨ ∃ y, ExF H a D y
theorem ExW.same {H H' : Hp} {a D : Addr} (h : ExW H a D) (s : Same H H') : ExW H' a D := by
  rcases h with h | ⟨y, h⟩
  · exact .inl (s _ _ h)
  · exact .inr ⟨y, h.same s⟩
theorem ExW.inst {X : Cx} {pins : List (Addr × Obj)} {σ : L2.St} {H : Hp} {s : Shared} {a D : Addr} (I : Inv X pins σ H s) (h : ExW H a D) : ∃ ox od, PySem.W.InstAt s.heap a ox D od := by
  rcases h with h | ⟨y, h⟩
  · have z1 : ObjOk X.prog X.w H s.heap a (.ext fun h => ∃ (oe : Obj) (vs : Array Value), h.get? a = some oe ∧ Zc (.ref D) none oe ∧ oe.data = .fields vs) := I.hok a _ h
    obtain ⟨⟨oe, vs, ha, ⟨hc, hd⟩, hv⟩, _⟩ := z1
    exact ⟨oe, none, ⟨ha, hc, notCls_of hv, by rw [hd]; exact trivial⟩⟩
  · obtain ⟨ox, od, _, J, _⟩ := h.inst I
    exact ⟨ox, some od, J⟩
/-- isinstance(e, c) of a caught exception -/
def rIsW (K : PySem.W.Frag) : List V → Hp → VK → Prop := fun xs H Q => ∃ (a D : Addr) (c : V) (cv : Value) (b : Bool), xs = [.ref a, c] ∧ ExW H a D ∧ ExcC K D ∧ (∀ u, RelV c u → u = cv) ∧ PySem.W.kitOne K (.ref D) cv = some b ∧ Q (.bl b) H
theorem call_isW {X : Cx} : CallR X (.builtin "isinstance") (rIsW X.K) := by
  intro pins s σ H xs us Q I r h
  obtain ⟨a, D, c, cv, b, rfl, hE, C, hcv, e, q⟩ := h
  cases r with
  | cons rx rr =>
    cases rr with
    | cons rt rr =>
      cases rr
      cases rx
      have ec := hcv _ rt
      subst ec
      obtain ⟨ox, od, J⟩ := hE.inst I
      have cl : (PySem.W.clsIn X.K D).isSome = true := by
        obtain ⟨cd, hc, _⟩ := PySem.W.any_some C.hd
        rw [hc]
        rfl
      exact PySem.W.kia_one (PySem.W.kitx_exc cl C.hg C.hk C.hs C.ha C.hn C.ht C.hm) I.kIn J e (fun z => nomatch z) fun tk => ⟨.bl b, H, I.kept (t' := tk) fun _ _ z => z, rfl, q⟩
theorem count_vals {y : V} : ∀ {ys : List V} {us : List Value}, Vals ys us → ys.all flatV = true → us.countP (eqU y) = ys.countP fun z => eqV z y
  | [], _, .nil, _ => rfl
  | z :: r, u :: us, .cons r1 t, f => by
    rw [List.all_cons, Bool.and_eq_true] at f
    rw [List.countP_cons, List.countP_cons, count_vals t f.2, eqU_of r1 f.1]
/-- xs.count(y), flat items -/
def rCountV (K : PySem.W.Frag) : V → List V → Hp → VK → Prop := fun x xs H Q => ∃ (p : Addr) (ys : List V) (y : V), x = .ref p ∧ xs = [y] ∧ SqL K H p ys ∧ flatV y = true ∧ ys.all flatV = true ∧ Q (.int ((ys.countP fun z => eqV z y : Nat) : Int)) H
theorem mt_countV {X : Cx} : MtR X "list.count" (rCountV X.K) := by
  intro pins s σ H x xs v us Q I rx rxs h
  obtain ⟨p, ys, y, rfl, rfl, hs, fy, fys, q⟩ := h
  cases rx
  obtain ⟨u, rfl, ru⟩ := rxs.one
  obtain ⟨its, rv, ⟨⟨cls, dd, data, sl⟩, n, ho, hc, hdn, hd⟩, hlen⟩ := I.list hs
  simp only at hc hd
  subst hc hd
  refine call_meets PySem.F.slot_list_count ⟨_, ho, rfl⟩ PySem.F.entry_list_count (PySem.F.args_list_count_2 _ _)
    (SeqAt.list_countAt p its.toArray n dd sl u (eqU y)) ⟨ho, fun z hz => mem_eqAt ru fy rv fys z (by simpa using hz), ?_⟩
  have ec : its.toArray.toList.countP (eqU y) = ys.countP fun z => eqV z y := count_vals rv fys
  refine ⟨.int ((ys.countP fun z => eqV z y : Nat) : Int), H, I.tok _, ⟨s.toks, ?_⟩, q⟩
  show Value.int ((its.toArray.toList.countP (eqU y) : Nat) : Int) s.toks = _
  rw [ec]
end Rk
namespace Rpa
open PySem PySem.Spec PyProof.Rows L2
/-- repr of anything by its data, where nothing is being shown -/
theorem cr_reprA {X : Cx} (hg : X.A.guards = some []) (hu : X.A.units + 70 < cLine) : CallR X (.builtin "repr") (fun xs H Q => ∃ (x : V) (d : PyData), xs = [x] ∧ Dp X.K H x d ∧ d.showable = true ∧ d.hasDict = false ∧ d.depth ≤ 64 ∧ d.shown.length ≤ sizeLine ∧ Q (.str d.shown) H) := by
  intro pins s σ H xs us Q I r h
  obtain ⟨x, d, rfl, hd, hs, hn, dp, sz, q⟩ := h
  obtain ⟨u, rfl, hu'⟩ := vals1 r
  cases id hd with
  | non =>
    obtain rfl : u = .none := hu'
    exact PySem.P.repr_of_none ⟨.str _, H, I.tok _, ⟨_, rfl⟩, q⟩
  | bl b =>
    obtain rfl : u = .bool b := hu'
    exact PySem.P.repr_of_bool ⟨.str _, H, I.tok _, ⟨_, rfl⟩, q⟩
  | int i =>
    obtain ⟨t, rfl⟩ := hu'
    exact PySem.P.repr_of_int (by simpa [PyData.showable] using hs) ⟨.str _, H, I.tok _, ⟨_, rfl⟩, q⟩
  | str z =>
    obtain ⟨t, rfl⟩ := hu'
    exact PySem.P.repr_of_str ⟨.str _, H, I.tok _, ⟨_, rfl⟩, q⟩ sz
  | lst _ _ =>
    rename_i a _ _ _ _
    obtain rfl : u = .ref a := hu'
    obtain ⟨as, r1⟩ := Dp.reads I _ (.ref a) (.ref a) hd rfl
    exact repr_of_reads' r1 hs (PyData.noDict_hsm hn) hg (by omega) (fun _ _ e => e) (fun h' u tk k => ⟨.str _, H, I.turnedL (ch := []) (fun b o _ e => k b o e) (fun b hb => absurd hb (by simp)), ⟨_, rfl⟩, q⟩) sz
  | tup _ _ =>
    rename_i a _ _ _ _
    obtain rfl : u = .ref a := hu'
    obtain ⟨as, r1⟩ := Dp.reads I _ (.ref a) (.ref a) hd rfl
    exact repr_of_reads' r1 hs (PyData.noDict_hsm hn) hg (by omega) (fun _ _ e => e) (fun h' u tk k => ⟨.str _, H, I.turnedL (ch := []) (fun b o _ e => k b o e) (fun b hb => absurd hb (by simp)), ⟨_, rfl⟩, q⟩) sz
end Rpa
namespace Od
open PySem PySem.Spec PyProof.Rows L2 GxR Nw Dr Kp
/-! ### anything: values by their data; no list among them is one of f -/
mutual
inductive OdV (f : Addr → Prop) (H : Hp) : V → PyData → Prop
  | non : OdV f H .non .none
  | bl (b : Bool) : OdV f H (.bl b) (.bool b)
  | int (i : Int) : OdV f H (.int i) (.int i)
  | str (x : Str) : OdV f H (.str x) (.str x)
  | lst {a : Addr} {xs : List V} {ds : List PyData} : H a = some (.lst xs) → ¬ f a → OdAll f H xs ds → OdV f H (.ref a) (.list ds)
  | tup {a : Addr} {xs : List V} {ds : List PyData} : H a = some (.tup xs) → OdAll f H xs ds → OdV f H (.ref a) (.tuple ds)
inductive OdAll (f : Addr → Prop) (H : Hp) : List V → List PyData → Prop
  | nil : OdAll f H [] []
  | cons {v : V} {vs : List V} {d : PyData} {ds : List PyData} : OdV f H v d → OdAll f H vs ds → OdAll f H (v :: vs) (d :: ds)
end
variable {f : Addr → Prop} {H H' : Hp}
mutual
theorem OdV.dp {K : PySem.W.Frag} : ∀ {d : PyData} {v : V}, OdV f H v d → Dp K H v d
  | .none, _, h => by cases h; exact .non
  | .bool _, _, h => by cases h; exact .bl _
  | .int _, _, h => by cases h; exact .int _
  | .str _, _, h => by cases h; exact .str _
  | .list ds, _, h => by cases h with | lst h1 _ h2 => exact .lst (.of h1) (OdAll.dp h2)
  | .tuple ds, _, h => by cases h with | tup h1 h2 => exact .tup (.of h1) (OdAll.dp h2)
  | .dict _, _, h => by cases h
theorem OdAll.dp {K : PySem.W.Frag} : ∀ {ds : List PyData} {vs : List V}, OdAll f H vs ds → DpAll K H vs ds
  | [], _, h => by cases h; exact .nil
  | d :: ds, _, h => by cases h with | cons h1 h2 => exact .cons (OdV.dp h1) (OdAll.dp h2)
end
mutual
theorem OdV.ke (k : Ke f H H') : ∀ {d : PyData} {v : V}, OdV f H v d → OdV f H' v d
  | .none, _, h => by cases h; exact .non
  | .bool _, _, h => by cases h; exact .bl _
  | .int _, _, h => by cases h; exact .int _
  | .str _, _, h => by cases h; exact .str _
  | .list ds, _, h => by cases h with | lst h1 n h2 => exact .lst (k.lst h1 n) n (OdAll.ke k h2)
  | .tuple ds, _, h => by cases h with | tup h1 h2 => exact .tup (k.tups _ _ h1) (OdAll.ke k h2)
  | .dict _, _, h => by cases h
theorem OdAll.ke (k : Ke f H H') : ∀ {ds : List PyData} {vs : List V}, OdAll f H vs ds → OdAll f H' vs ds
  | [], _, h => by cases h; exact .nil
  | d :: ds, _, h => by cases h with | cons h1 h2 => exact .cons (OdV.ke k h1) (OdAll.ke k h2)
end
theorem OdAll.len : ∀ {vs : List V} {ds : List PyData}, OdAll f H vs ds → vs.length = ds.length
  | [], _, h => by cases h; rfl
  | v :: vs, _, h => by cases h with | cons h1 h2 => rw [List.length_cons, List.length_cons, OdAll.len h2]
theorem OdAll.at : ∀ {vs : List V} {ds : List PyData} {i : Nat} {v : V}, OdAll f H vs ds → vs[i]? = some v → ∃ d, ds[i]? = some d ∧ OdV f H v d
  | [], _, _, _, _, e => by simp at e
  | v :: vs, _, 0, _, h, e => by
    cases h with
    | cons h1 h2 =>
      cases e
      exact ⟨_, rfl, h1⟩
  | v :: vs, _, i + 1, _, h, e => by
    cases h with
    | cons h1 h2 => exact OdAll.at (vs := vs) (i := i) h2 (by simpa using e)
theorem OdAll.cat : ∀ {vs us : List V} {ds es : List PyData}, OdAll f H vs ds → OdAll f H us es → OdAll f H (vs ++ us) (ds ++ es)
  | [], _, _, _, h, g => by cases h; exact g
  | v :: vs, _, _, _, h, g => by cases h with | cons h1 h2 => exact .cons h1 (OdAll.cat h2 g)
theorem OdAll.one {v : V} {d : PyData} (h : OdV f H v d) : OdAll f H [v] [d] := .cons h .nil
theorem OdAll.take : ∀ {vs : List V} {ds : List PyData} (n : Nat), OdAll f H vs ds → OdAll f H (vs.take n) (ds.take n)
  | _, _, 0, _ => by rw [List.take_zero, List.take_zero]; exact .nil
  | [], _, n + 1, h => by cases h; exact .nil
  | v :: vs, _, n + 1, h => by cases h with | cons h1 h2 => exact .cons h1 (OdAll.take n h2)
theorem OdAll.drop : ∀ {vs : List V} {ds : List PyData} (n : Nat), OdAll f H vs ds → OdAll f H (vs.drop n) (ds.drop n)
  | _, _, 0, h => by rw [List.drop_zero, List.drop_zero]; exact h
  | [], _, n + 1, h => by cases h; exact .nil
  | v :: vs, _, n + 1, h => by cases h with | cons h1 h2 => exact OdAll.drop n h2
theorem OdAll.rev : ∀ {vs : List V} {ds : List PyData}, OdAll f H vs ds → OdAll f H vs.reverse ds.reverse
  | [], _, h => by cases h; exact .nil
  | v :: vs, _, h => by
    cases h with
    | cons h1 h2 =>
      rw [List.reverse_cons, List.reverse_cons]
      exact (OdAll.rev h2).cat (.one h1)
theorem od_ints : ∀ ns : List Int, OdAll f H (ns.map V.int) (ns.map PyData.int)
  | [] => .nil
  | n :: r => .cons (.int n) (od_ints r)
/-! ### what anything is -/
def tyD : PyData → String
  | .none => "NoneType" | .bool _ => "bool" | .int _ => "int" | .str _ => "str" | .list _ => "list" | .tuple _ => "tuple" | .dict _ => "dict"
theorem OdV.ty {K : PySem.W.Frag} {d : PyData} {v : V} (h : OdV f H v d) : TyX K H v (.type (tyD d)) := by
  cases h with
  | non => exact .base .non
  | bl b => exact .base (.bl b)
  | int i => exact .base (.int i)
  | str x => exact .base (.str x)
  | lst h1 _ _ => exact .base (.lst h1)
  | tup h1 _ => exact .base (.tup h1)
def whD : PyData → Bool
  | .int _ => true
  | _ => false
def tuD : PyData → Bool
  | .tuple _ => true
  | _ => false
def numD : PyData → Int → Bool
  | .int n, m => decide (0 ≤ n) && decide (n < m)
  | _, _ => false
/-! ### small data, to be shown -/
structure Sm (B : Nat) (d : PyData) : Prop where
  sh : d.showable = true
  nd : d.hasDict = false
  dp : d.depth ≤ 6
  sz : d.shown.length ≤ B
structure SmAll (B : Nat) (ds : List PyData) : Prop where
  sh : PyData.showableAll ds = true
  nd : PyData.hasDictAll ds = false
  dp : PyData.depthAll ds ≤ 5
  sz : ∀ x ∈ PyData.shownAll ds, x.length ≤ B
theorem SmAll.nil {B : Nat} : SmAll B [] := ⟨rfl, rfl, by decide, fun _ h => nomatch h⟩
theorem SmAll.cons {B : Nat} {d : PyData} {ds : List PyData} (h : Sm B d) (h5 : d.depth ≤ 5) (t : SmAll B ds) : SmAll B (d :: ds) := by
  refine ⟨?_, ?_, ?_, fun x hx => ?_⟩
  · show (PyData.showable d && PyData.showableAll ds) = true
    rw [h.sh, t.sh]
    rfl
  · show (PyData.hasDict d || PyData.hasDictAll ds) = false
    rw [h.nd, t.nd]
    rfl
  · exact Nat.max_le.mpr ⟨h5, t.dp⟩
  · rcases List.mem_cons.mp hx with e | e
    · rw [e]
      exact h.sz
    · exact t.sz x e
theorem shownAll_len : ∀ ds : List PyData, (PyData.shownAll ds).length = ds.length
  | [] => rfl
  | _ :: r => congrArg (· + 1) (shownAll_len r)
theorem sum_le {B : Nat} : ∀ {l : List Nat}, (∀ x ∈ l, x ≤ B) → l.sum ≤ B * l.length
  | [], _ => Nat.zero_le _
  | x :: r, h => by
    have h1 := h x List.mem_cons_self
    have h2 := sum_le (l := r) fun y hy => h y (List.mem_cons_of_mem _ hy)
    rw [List.sum_cons, List.length_cons, Nat.mul_add]
    omega
theorem SmAll.sum {B : Nat} {ds : List PyData} (h : SmAll B ds) : ((PyData.shownAll ds).map (·.length)).sum ≤ B * ds.length := by
  have := sum_le (B := B) (l := (PyData.shownAll ds).map (·.length)) fun x hx => by
    obtain ⟨y, hy, rfl⟩ := List.mem_map.mp hx
    exact h.sz y hy
  rw [List.length_map, shownAll_len] at this
  exact this
theorem SmAll.list {B n B' : Nat} {ds : List PyData} (h : SmAll B ds) (l : ds.length ≤ n) (hb : B * n + 2 * n + 3 ≤ B') : Sm B' (.list ds) := by
  have e := listText_len_le (PyData.shownAll ds)
  have s := h.sum
  rw [shownAll_len] at e
  have m : B * ds.length ≤ B * n := Nat.mul_le_mul_left _ l
  exact ⟨h.sh, h.nd, by show PyData.depthAll ds + 1 ≤ 6; have := h.dp; omega, by show (listText (PyData.shownAll ds)).length ≤ B'; omega⟩
theorem SmAll.tuple {B n B' : Nat} {ds : List PyData} (h : SmAll B ds) (l : ds.length ≤ n) (hb : B * n + 2 * n + 3 ≤ B') : Sm B' (.tuple ds) := by
  have e := tupleText_len_le (PyData.shownAll ds)
  have s := h.sum
  rw [shownAll_len] at e
  have m : B * ds.length ≤ B * n := Nat.mul_le_mul_left _ l
  exact ⟨h.sh, h.nd, by show PyData.depthAll ds + 1 ≤ 6; have := h.dp; omega, by show (tupleText (PyData.shownAll ds)).length ≤ B'; omega⟩
theorem SmAll.cat {B : Nat} : ∀ {ds es : List PyData}, SmAll B ds → SmAll B es → SmAll B (ds ++ es)
  | [], _, _, g => g
  | d :: r, es, h, g => by
    have hs := h.sh
    have hn := h.nd
    have hd := h.dp
    have hz := h.sz
    have hs' : (PyData.showable d && PyData.showableAll r) = true := hs
    have hn' : (PyData.hasDict d || PyData.hasDictAll r) = false := hn
    rw [Bool.and_eq_true] at hs'
    rw [Bool.or_eq_false_iff] at hn'
    have hd' : Nat.max (PyData.depth d) (PyData.depthAll r) ≤ 5 := hd
    have z := Nat.max_le.mp hd'
    have hr : SmAll B r := ⟨hs'.2, hn'.2, z.2, fun x hx => hz x (List.mem_cons_of_mem _ hx)⟩
    exact SmAll.cons ⟨hs'.1, hn'.1, by omega, hz _ List.mem_cons_self⟩ z.1 (SmAll.cat hr g)
theorem SmAll.of {B : Nat} : ∀ {ds : List PyData}, (∀ d ∈ ds, Sm B d ∧ d.depth ≤ 5) → SmAll B ds
  | [], _ => .nil
  | d :: r, h => SmAll.cons (h d List.mem_cons_self).1 (h d List.mem_cons_self).2 (SmAll.of fun x hx => h x (List.mem_cons_of_mem _ hx))
theorem SmAll.mem {B : Nat} : ∀ {ds : List PyData}, SmAll B ds → ∀ d ∈ ds, Sm B d ∧ d.depth ≤ 5
  | [], _, d, hd => nomatch hd
  | e :: r, h, d, hd => by
    have hs' : (PyData.showable e && PyData.showableAll r) = true := h.sh
    have hn' : (PyData.hasDict e || PyData.hasDictAll r) = false := h.nd
    rw [Bool.and_eq_true] at hs'
    rw [Bool.or_eq_false_iff] at hn'
    have hd' : Nat.max (PyData.depth e) (PyData.depthAll r) ≤ 5 := h.dp
    have z := Nat.max_le.mp hd'
    rcases List.mem_cons.mp hd with u | u
    · rw [u]
      exact ⟨⟨hs'.1, hn'.1, by omega, h.sz _ List.mem_cons_self⟩, z.1⟩
    · exact SmAll.mem (ds := r) ⟨hs'.2, hn'.2, z.2, fun x hx => h.sz x (List.mem_cons_of_mem _ hx)⟩ d u
theorem Sm.mono {B B' : Nat} {d : PyData} (h : Sm B d) (l : B ≤ B') : Sm B' d := ⟨h.sh, h.nd, h.dp, Nat.le_trans h.sz l⟩
theorem small_ints : ∀ n : Fin 130, PyData.showable (.int ((n.val : Int) - 60)) = true ∧ (PyData.shown (.int ((n.val : Int) - 60))).length ≤ 3 := by decide +kernel
theorem sm_int {n : Int} (h0 : -60 ≤ n) (h1 : n < 70) : Sm 3 (.int n) := by
  have := small_ints ⟨(n + 60).toNat, by omega⟩
  rw [show (((n + 60).toNat : Nat) : Int) - 60 = n by omega] at this
  exact ⟨this.1, rfl, by show 0 ≤ 6; decide, this.2⟩
theorem OdV.un {g : Addr → Prop} (h : ∀ a, g a → f a) : ∀ {d : PyData} {v : V}, OdV f H v d → OdV g H v d := fun {d v} => OdV.rec (motive_1 := fun v d _ => OdV g H v d) (motive_2 := fun vs ds _ => OdAll g H vs ds) .non .bl .int .str (fun h1 n _ ih => .lst h1 (fun z => n (h _ z)) ih) (fun h1 _ ih => .tup h1 ih) .nil (fun _ _ i1 i2 => .cons i1 i2)
theorem OdAll.un {g : Addr → Prop} (h : ∀ a, g a → f a) : ∀ {ds : List PyData} {vs : List V}, OdAll f H vs ds → OdAll g H vs ds
  | [], _, x => by cases x; exact .nil
  | _ :: _, _, x => by cases x with | cons h1 h2 => exact .cons (OdV.un h h1) (OdAll.un h h2)
end Od
namespace Tw
open PySem PySem.Spec PyProof.Rows L2 GxR Nw Dr Kp Ev1 Rk Od
open TL (tl len_tl)
/-! ### texts that are drawn -/
structure Zd (mg : Str → Option Value) : Prop where
  z_len : mg "len" = none
  z_str : mg "str" = none
def RwN : Rw → Prop
  | .book n => n ≤ 300
  | .cut i j k => i ≤ 300 ∧ j ≤ 300 ∧ k ≤ 300
section
variable {P : Program} {w : World} {K : PySem.W.Frag} {mg : Str → Option Value} {base : Heap}
theorem RowAt.ke {F : Addr → Prop} {H H' : Hp} {v : V} {r : Rw} (h : RowAt H v r) (k : Ke F H H') : RowAt H' v r := by
  obtain ⟨p, e, h⟩ := h
  exact ⟨p, e, k.tups _ _ h⟩
def mL (R : Addr) (m : Nat) : Hp → Nat := fun H => match H R with
  | some (.lst xs) => m - xs.length
  | _ => 0
theorem mL_lst {R : Addr} {m : Nat} {H : Hp} {xs : List V} (h : H R = some (.lst xs)) : mL R m H = m - xs.length := by
  unfold mL
  rw [h]
end
end Tw
namespace Tw
open PySem PySem.Spec PyProof.Rows L2 GxR Nw Dr Kp Ev1 Rk Od
open TL (tl len_tl)
/-! ### the text of rows -/
theorem joinL_len (S : List Nat) : ∀ ps : List (List Nat), (TL.joinL S ps).length ≤ (ps.map List.length).sum + ps.length * S.length
  | [] => Nat.zero_le _
  | [p] => by
    show p.length ≤ p.length + 0 + 1 * S.length
    omega
  | p :: q :: r => by
    have h := joinL_len S (q :: r)
    show (p ++ (S ++ TL.joinL S (q :: r))).length ≤ p.length + ((q :: r).map List.length).sum + ((q :: r).length + 1) * S.length
    rw [List.length_append, List.length_append, Nat.add_mul, Nat.one_mul]
    omega
theorem join_len (a : Str) (ys : List Str) : (Txt.join a ys).length ≤ (ys.map (·.length)).sum + ys.length * a.length := by
  have h := joinL_len (tl a) (ys.map tl)
  rw [← TL.tl_join, List.map_map, List.length_map] at h
  rw [TL.join_eq, len_tl, len_tl a]
  have e : ys.map (·.length) = ys.map (List.length ∘ tl) := List.map_congr_left fun y _ => len_tl y
  rw [e]
  exact h
theorem sum_le' {B : Nat} : ∀ {l : List Nat}, (∀ x ∈ l, x ≤ B) → l.sum ≤ B * l.length
  | [], _ => Nat.zero_le _
  | x :: r, h => by
    have h1 := h x List.mem_cons_self
    have h2 := sum_le' (l := r) fun y hy => h y (List.mem_cons_of_mem _ hy)
    rw [List.sum_cons, List.length_cons, Nat.mul_add]
    omega
theorem sum_lens {B : Nat} {ys : List Str} (h : ∀ y ∈ ys, y.length ≤ B) : (ys.map (·.length)).sum ≤ B * ys.length := by
  have := sum_le' (B := B) (l := ys.map (·.length)) fun x hx => by
    obtain ⟨y, hy, rfl⟩ := List.mem_map.mp hx
    exact h y hy
  rw [List.length_map] at this
  exact this
def rn : Rw → List Nat
  | .book n => [n]
  | .cut i j k => [i, j, k]
def rw1 : Rw → Str
  | .book _ => "book"
  | .cut _ _ _ => "cut"
theorem rn_vs (r : Rw) : r.vs = .str (rw1 r) :: (rn r).map fun n : Nat => V.int n := by cases r <;> rfl
theorem rn_cut (r : Rw) : cutV r.vs (some 1) none = (rn r).map fun n : Nat => V.int n := by cases r <;> rfl
theorem rn_le {r : Rw} (h : RwN r) : (∀ n ∈ rn r, n ≤ 300) ∧ (rn r).length ≤ 3 ∧ (rw1 r).length ≤ 4 := by
  cases r with
  | book n =>
    refine ⟨fun x hx => ?_, by show 1 ≤ 3; decide, show Str.length "book" ≤ 4 by decide +kernel⟩
    rw [List.mem_singleton.mp hx]
    exact h
  | cut i j k =>
    obtain ⟨h1, h2, h3⟩ := h
    refine ⟨fun x hx => ?_, by show 3 ≤ 3; decide, show Str.length "cut" ≤ 4 by decide +kernel⟩
    simp only [rn, List.mem_cons, List.not_mem_nil, or_false] at hx
    rcases hx with rfl | rfl | rfl <;> assumption
theorem op_catNB {X : Cx} {K : PySem.W.Frag} (h : X.K = K) : OpR X (binaryOp .Add) rCatN := op_catN
theorem sl_tupNB {X : Cx} {K : PySem.W.Frag} (h : X.K = K) : SlR X (fun x lo hi H Q => ∃ a xs, x = .ref a ∧ H a = some (.tup xs) ∧ ResT H (cutV xs lo hi) Q) := sl_tupN
theorem pi_tupB {X : Cx} {K : PySem.W.Frag} (hk : X.K = K) {tg l : Expr} {tl : TE} (hl : PE X l tl) : PI X tg l (iTup K tl) := by
  subst hk
  exact pi_tup hl
theorem pe_joinB {X : Cx} {K : PySem.W.Frag} (hk : X.K = K) {o e : Expr} {to te : TE} {apos pos : Pos} (ho : PE X o to) (he : PE X e te) (hs : starEach [e] X.env = [(false, eval e X.env)] := by rfl) (hbase : attributeBase o "join" X.env (eval o X.env) = eval o X.env := by rfl) (hline : (apos.endLine == pos.line) = true := by rfl) :
    PE X (.Call (.Attribute o "join" apos) [e] [] pos) (tM1 (fun x xs H Q => ∃ a p, ∃ ys : List Str, x = .str a ∧ xs = [.ref p] ∧ (SqL K H p (ys.map V.str) ∨ SqT K H p (ys.map V.str)) ∧ (ys.map (·.length)).sum + ys.length * a.length ≤ 16777216 ∧ Q (.str (Txt.join a ys)) H) to te) := by
  subst hk
  exact L2.pe_join ho he hs hbase hline
section
variable {P : Program} {w : World} {K : PySem.W.Frag} {mg : Str → Option Value} {base : Heap}
end
end Tw
namespace Tw
open PySem PySem.Spec PyProof.Rows L2 GxR Nw Dr Kp Ev1 Rk Od
open TL (tl len_tl)
/-! ### texts spoilt -/
def wt (ws : List Str) : Nat := (ws.map (·.length)).sum + ws.length
theorem wt_app (a b : List Str) : wt (a ++ b) = wt a + wt b := by
  unfold wt
  rw [List.map_append, List.sum_append, List.length_append]
  omega
theorem wt_cut (ws : List Str) (n : Nat) : wt (ws.take n) + wt (ws.drop n) = wt ws := by
  rw [← wt_app, List.take_append_drop]
theorem wt_join (ws : List Str) : (Txt.join " " ws).length ≤ wt ws := by
  have h := join_len " " ws
  rw [show Str.length " " = 1 from by decide +kernel, Nat.mul_one] at h
  exact h
theorem cut_tk (ws : List Str) (n : Nat) : cutV (ws.map V.str) none (some (n : Int)) = (ws.take n).map V.str := by
  unfold cutV
  rw [HT.sIx_none, HT.sIx_nat, List.drop_zero, Nat.sub_zero, List.map_take]
  by_cases h : n ≤ (ws.map V.str).length
  · rw [Nat.min_eq_left h]
  · rw [Nat.min_eq_right (by omega), List.take_length, List.take_of_length_le (by omega)]
theorem cut_dr (ws : List Str) (n : Nat) : cutV (ws.map V.str) (some (n : Int)) none = (ws.drop n).map V.str := by
  unfold cutV
  rw [HT.sIx_none, HT.sIx_nat, List.map_drop]
  by_cases h : n ≤ (ws.map V.str).length
  · rw [Nat.min_eq_left h]
    exact List.take_of_length_le (by rw [List.length_drop]; omega)
  · rw [Nat.min_eq_right (by omega), List.drop_of_length_le (by omega : (ws.map V.str).length ≤ n), List.drop_of_length_le (Nat.le_refl _), List.take_nil]
theorem atI_n {α : Type} {l : List α} {n : Nat} {x : α} (h : l[n]? = some x) : atI l (n : Int) = some x := by
  have ln := (List.getElem?_eq_some_iff.mp h).1
  unfold atI ixN
  rw [if_pos (by omega), if_pos (by omega)]
  show l[((n : Int)).toNat]? = some x
  rw [Int.toNat_natCast]
  exact h
theorem wt_dr (ws : List Str) (n : Nat) : wt (ws.drop (n + 1)) ≤ wt (ws.drop n) := by
  have := wt_cut (ws.drop n) 1
  rw [List.drop_drop] at this
  omega
theorem len_add (a b : Str) : (a ++ b).length = a.length + b.length := by
  rw [len_tl, len_tl, len_tl, TL.tl_append, List.length_append]
theorem spl_sum : ∀ (l acc : List Nat), ((TL.spl [32] 0 acc l).map List.length).sum + (TL.spl [32] 0 acc l).length = acc.length + l.length + 1
  | [], acc => by
    rw [TL.spl_nil]
    show acc.length + 0 + 1 = acc.length + 0 + 1
    rfl
  | c :: r, acc => by
    cases h : TL.pre [32] (c :: r) with
    | true =>
      rw [TL.spl_hit h]
      have := spl_sum r []
      rw [List.length_nil] at this
      show acc.length + ((TL.spl [32] 0 [] r).map List.length).sum + ((TL.spl [32] 0 [] r).length + 1) = acc.length + (r.length + 1) + 1
      omega
    | false =>
      rw [TL.spl_miss h, spl_sum r (acc ++ [c]), List.length_append, List.length_singleton, List.length_cons]
      omega
theorem split_wt (x : Str) : wt (Txt.split x " ") = x.length + 1 := by
  have e0 : tl " " = [32] := by decide +kernel
  have e := TL.split_spl x " " (by rw [e0]; decide) (TL.kind_ok (by decide +kernel))
  rw [e0] at e
  have h := spl_sum (tl x) []
  rw [← e, List.map_map, List.length_map, List.length_nil, Nat.zero_add] at h
  have e2 : (Txt.split x " ").map (·.length) = (Txt.split x " ").map (List.length ∘ tl) := List.map_congr_left fun y _ => len_tl y
  unfold wt
  rw [e2, h, ← len_tl]
theorem split_pos (x : Str) : 1 ≤ (Txt.split x " ").length := by
  have := split_wt x
  cases h : Txt.split x " " with
  | nil =>
    rw [h] at this
    have this : 0 = x.length + 1 := this
    omega
  | cons a b => exact Nat.succ_le_succ (Nat.zero_le _)
section
variable {P : Program} {w : World} {K : PySem.W.Frag} {mg : Str → Option Value} {base : Heap}
abbrev sSgn : Stmt := topS 41
theorem scSgn : FnScope ["pen", "some"] ["pen"] (defScope sSgn) := ⟨rfl, rfl, rfl, by decide +kernel, rfl, by decide +kernel, by decide +kernel⟩
def spSgn : Sp := fun vs H Q _ => ∃ (f c : Addr) (B : Nat), vs = [.ref f] ∧ Feed H f c B ∧ B ≤ 2 ^ 28 ∧ ∀ (x : Str) H', Feed H' f c (B + 1) → Ke (· = f) H H' → x.length = 1 → Q (.str x) H'
theorem ok_sgn {f fD : Addr} {fd fdD : FuncData} {k : Nat} (F : Fun K "_law_e_sign" "_law_e_sign" sSgn f fd) (T : Zd mg)
    (FD : Fun K "_law_e_take" "_law_e_take" sDrw fD fdD) (bD : Binds K fdD ["pen", "many"] []) (gD : mg "_law_e_take" = some (.ref fD)) (GD : FnOk P w K mg base CX0 2 fD fdD ["pen", "many"] spDrw) :
    FnOk P w K mg base CX0 (k + 3) f fd ["pen"] spSgn := by
  refine F.ok scSgn (fun vs H Q E h => ?_) (fun cdv A outer s H vs Q E hr h => ?_)
  · obtain ⟨f, c, B, rfl, _⟩ := h
    rfl
  · obtain ⟨f, c, B, rfl, hF, hB, q⟩ := h
    have hr2 : Room 2 _ := hr.mono (by omega)
    refine ⟨_, (Evl.pss_cut (ps_set (i := 1) scSgn.nd rfl (.inl rfl) (pe_op op_add_str pe_str pe_str))
      (Evl.pss_cut (ps_set (i := 1) scSgn.nd rfl (.inl rfl) (pe_op op_add_str (pv 1) pe_str))
      (Evl.pss_cut (ps_set (i := 1) scSgn.nd rfl (.inl rfl) (pe_op op_add_str (pv 1) pe_str))
      (pss_one (ps_ret (pe_ix ix_str (pv 1) (pe_call GD hr2 (by rfl) gD FD.kp bD .nil pass0 (pa_cons (pv 0) (pa_cons (pe_callB call_len_str (by rfl) T.z_len (by decide +kernel) (pa_cons (pv 1) pa_nil)) pa_nil))) (fun _ _ => rfl))))))), ?_⟩
    refine Evl.q_cut (M := fun σ' G => ∃ x : Str, σ' = [some (.ref f), some (.str x)] ∧ H = G ∧ 1 ≤ x.length ∧ x.length ≤ 60) ?_ ?_
    · exact ⟨_, _, rfl, rfl, Nat.le_trans (by decide +kernel : _ ≤ 60) (by decide), _, rfl, rfl, by rw [len_add]; decide +kernel, by rw [len_add]; decide +kernel⟩
    rintro σ' G ⟨x, rfl, rfl, x1, x2⟩
    refine Evl.q_cut (M := fun σ' G => ∃ x : Str, σ' = [some (.ref f), some (.str x)] ∧ H = G ∧ 1 ≤ x.length ∧ x.length ≤ 90) ?_ ?_
    · have l := (by decide +kernel : Str.length "ABCDEFGHIJKLMNOPQRSTUVWXYZ" = 26)
      exact ⟨_, rfl, _, _, rfl, rfl, Nat.le_trans (by rw [l]; omega : _ ≤ 90) (by decide), _, rfl, rfl, by rw [len_add]; omega, by rw [len_add, l]; omega⟩
    clear x1 x2 x
    rintro σ' G ⟨x, rfl, rfl, x1, x2⟩
    refine Evl.q_cut (M := fun σ' G => ∃ x : Str, σ' = [some (.ref f), some (.str x)] ∧ H = G ∧ 1 ≤ x.length ∧ x.length ≤ 120) ?_ ?_
    · have l := (by decide +kernel : Str.length "abcdefghijklmnopqrstuvwxyz" = 26)
      exact ⟨_, rfl, _, _, rfl, rfl, Nat.le_trans (by rw [l]; omega : _ ≤ 120) (by decide), _, rfl, rfl, by rw [len_add]; omega, by rw [len_add, l]; omega⟩
    clear x1 x2 x
    rintro σ' G ⟨x, rfl, rfl, x1, x2⟩
    have xs : x.length ≤ sizeLine := Nat.le_trans x2 (by decide)
    refine ⟨_, rfl, _, rfl, _, rfl, x, rfl, xs, f, c, _, B, rfl, by omega, by omega, hF, hB, fun d H1 d0 d1 F1 k1 => ?_⟩
    obtain ⟨n, rfl⟩ : ∃ n : Nat, d = (n : Int) := ⟨d.toNat, by omega⟩
    have ld : n < x.cps.toList.length := by
      have : x.length = x.cps.toList.length := len_tl x
      omega
    exact ⟨x, n, x.cps.toList[n], rfl, rfl, xs, atI_n (List.getElem?_eq_getElem ld), q _ H1 F1 k1 rfl⟩
abbrev sSpo : Stmt := topS 42
abbrev nSpo : List Str := ["pen", "words", "menu", "way", "word", "at", "sign", "text", "spot", "some"]
theorem scSpo : FnScope nSpo ["pen", "words", "menu"] (defScope sSpo) := ⟨rfl, rfl, rfl, by decide +kernel, rfl, by decide +kernel, by decide +kernel⟩
def StL (H : Hp) (L : Addr) (ws : List Str) : Prop := H L = some (.lst (ws.map V.str))
def spSpo : Sp := fun vs H Q _ => ∃ (f c L M : Addr) (ws ms : List Str) (B : Nat), vs = [.ref f, .ref L, .ref M] ∧ Feed H f c B ∧ B ≤ 2 ^ 27 ∧ StL H L ws ∧ L ≠ f ∧ 1 ≤ ws.length ∧ wt ws ≤ 20000 ∧ StL H M ms ∧ M ≠ f ∧ 1 ≤ ms.length ∧ ms.length ≤ 100 ∧ (∀ x ∈ ms, x.length ≤ 10) ∧
  ∀ (x : Str) H', Feed H' f c (B + 5) → Ke (· = f) H H' → x.length ≤ 2 * wt ws + 20 → Q (.str x) H'
theorem ok_spo {f fD fS : Addr} {fd fdD fdS : FuncData} {k : Nat} (F : Fun K "_law_e_spoilt" "_law_e_spoilt" sSpo f fd) (T : Zd mg)
    (FD : Fun K "_law_e_take" "_law_e_take" sDrw fD fdD) (bD : Binds K fdD ["pen", "many"] []) (gD : mg "_law_e_take" = some (.ref fD)) (GD : FnOk P w K mg base CX0 2 fD fdD ["pen", "many"] spDrw)
    (FS : Fun K "_law_e_sign" "_law_e_sign" sSgn fS fdS) (bS : Binds K fdS ["pen"] []) (gS : mg "_law_e_sign" = some (.ref fS)) (GS : FnOk P w K mg base CX0 3 fS fdS ["pen"] spSgn) :
    FnOk P w K mg base CX0 (k + 4) f fd ["pen", "words", "menu"] spSpo := by
  refine F.ok scSpo (fun vs H Q E h => ?_) (fun cdv A outer s H vs Q E hr h => ?_)
  · obtain ⟨f, c, L, M, ws, ms, B, rfl, _⟩ := h
    rfl
  · obtain ⟨f, c, L, M, ws, ms, B, rfl, hF, hB, hL, nLf, lw1, w2, hM, nMf, lm1, lm2, bm, q⟩ := h
    have hr2 : Room 2 _ := hr.mono (by omega)
    have hr3 : Room 3 _ := hr.mono (by omega)
    have lws : ws.length ≤ 20000 := by unfold wt at w2; omega
    refine ⟨_, (Evl.pss_cut (ps_set (i := 3) scSpo.nd rfl (.inl rfl) (pe_call GD hr2 (by rfl) gD FD.kp bD .nil pass0 (pa_cons (pv 0) (pa_cons pe_int pa_nil))))
      (Evl.pss_cut (ps_set (i := 4) scSpo.nd rfl (.inl rfl) (pe_ix ix_list (pv 2) (pe_call GD hr2 (by rfl) gD FD.kp bD .nil pass0 (pa_cons (pv 0) (pa_cons (pe_callB call_len_seq (by rfl) T.z_len (by decide +kernel) (pa_cons (pv 2) pa_nil)) pa_nil))) (fun _ _ => rfl)))
      (Evl.pss_cut (ps_set (i := 5) scSpo.nd rfl (.inl rfl) (pe_call GD hr2 (by rfl) gD FD.kp bD .nil pass0 (pa_cons (pv 0) (pa_cons (pe_callB call_len_seq (by rfl) T.z_len (by decide +kernel) (pa_cons (pv 1) pa_nil)) pa_nil))))
      (Evl.pss_cut (ps_set (i := 6) scSpo.nd rfl (.inl rfl) (pe_call GS hr3 (by rfl) gS FS.kp bS .nil pass0 (pa_cons (pv 0) pa_nil)))
      (Evl.pss_cut (ps_set (i := 7) scSpo.nd rfl (.inl rfl) (L2.pe_join pe_str (pv 1)))
      (Evl.pss_cut (ps_set (i := 8) scSpo.nd rfl (.inl rfl) (pe_call GD hr2 (by rfl) gD FD.kp bD .nil pass0 (pa_cons (pv 0) (pa_cons (pe_op op_add (pe_callB call_len_str (by rfl) T.z_len (by decide +kernel) (pa_cons (pv 7) pa_nil)) pe_int) pa_nil))))
      (Evl.pss_cut (ps_if (pt_cmpR op_eq (pv 3) pe_int (nomark _)) (pss_one (ps_ret (L2.pe_join pe_str (pe_op op_catN (pe_slice sl_listN (pv 1) po_none (po_some (pv 5))) (pe_slice sl_listN (pv 1) (po_some (pe_op op_add (pv 5) pe_int)) po_none))))) pss_nil)
      (Evl.pss_cut (ps_if (pt_cmpR op_eq (pv 3) pe_int (nomark _)) (pss_one (ps_ret (L2.pe_join pe_str (pe_op op_catN (pe_op op_catN (pe_slice sl_listN (pv 1) po_none (po_some (pv 5))) (pe_lstN (pa_cons (pv 4) pa_nil))) (pe_slice sl_listN (pv 1) (po_some (pv 5)) po_none))))) pss_nil)
      (Evl.pss_cut (ps_if (pt_cmpR op_lt (pv 3) pe_int (nomark _)) (pss_one (ps_ret (L2.pe_join pe_str (pe_op op_catN (pe_op op_catN (pe_slice sl_listN (pv 1) po_none (po_some (pv 5))) (pe_lstN (pa_cons (pv 4) pa_nil))) (pe_slice sl_listN (pv 1) (po_some (pe_op op_add (pv 5) pe_int)) po_none))))) pss_nil)
      (Evl.pss_cut (ps_if (pt_cmpR op_eq (pv 3) pe_int (nomark _)) (pss_one (ps_ret (L2.pe_join pe_str (pe_slice sl_listN (pv 1) po_none (po_some (pv 5)))))) pss_nil)
      (Evl.pss_cut (ps_set (i := 9) scSpo.nd rfl (.inl rfl) (pe_lstN (pa_cons (pe_op op_add_str (pe_op op_add_str (pe_slice sl_str (pv 7) po_none (po_some (pv 8))) (pv 6)) (pe_slice sl_str (pv 7) (po_some (pv 8)) po_none)) (pa_cons (pe_op op_add_str (pe_slice sl_str (pv 7) po_none (po_some (pv 8))) (pe_slice sl_str (pv 7) (po_some (pe_op op_add (pv 8) pe_int)) po_none)) pa_nil))))
      (pss_one (ps_ret (pe_ix ix_list (pe_op op_catN (pv 9) (pe_lstN (pa_cons (pe_op op_add_str (pe_op op_add_str (pe_slice sl_str (pv 7) po_none (po_some (pv 8))) (pv 6)) (pe_slice sl_str (pv 7) (po_some (pe_op op_add (pv 8) pe_int)) po_none)) pa_nil))) (pe_op op_sub (pv 3) pe_int) (fun _ _ => rfl))))))))))))))), ?_⟩
    -- way
    refine Evl.q_cut (M := fun σ' H' => ∃ a : Nat, σ' = [some (.ref f), some (.ref L), some (.ref M), some (.int a), none, none, none, none, none, none] ∧ a < 8 ∧ Feed H' f c (B + 1) ∧ Ke (· = f) H H') ?_ ?_
    · refine ⟨_, rfl, f, c, 8, B, rfl, by decide, by decide, hF, by omega, fun d H1 d0 d1 F1 k1 => ?_⟩
      obtain ⟨n, rfl⟩ : ∃ n : Nat, d = (n : Int) := ⟨d.toNat, by omega⟩
      exact ⟨n, rfl, by omega, F1, k1⟩
    rintro σ' H1 ⟨a, rfl, la, F1, k1⟩
    -- word
    refine Evl.q_cut (M := fun σ' H' => ∃ y : Str, σ' = [some (.ref f), some (.ref L), some (.ref M), some (.int a), some (.str y), none, none, none, none, none] ∧ y.length ≤ 10 ∧ Feed H' f c (B + 2) ∧ Ke (· = f) H H') ?_ ?_
    · have hM1 := k1.lst hM nMf
      refine ⟨_, rfl, _, rfl, _, rfl, M, _, rfl, .inl (.of hM1), f, c, _, _, rfl, by rw [List.length_map]; omega, by rw [List.length_map]; omega, F1, by omega, fun d H2 d0 d1 F2 k2 => ?_⟩
      rw [List.length_map] at d1
      obtain ⟨n, rfl⟩ : ∃ n : Nat, d = (n : Int) := ⟨d.toNat, by omega⟩
      have hx := List.getElem?_eq_getElem (show n < ms.length by omega)
      exact ⟨M, _, _, .str ms[n], rfl, rfl, .of (k2.lst hM1 nMf), at_of (j := n) rfl (by rw [List.getElem?_map, hx]; rfl), _, rfl, bm _ (List.getElem_mem _), F2, k1.trans k2⟩
    clear k1 F1 H1
    rintro σ' H1 ⟨y, rfl, ly, F1, k1⟩
    -- at
    refine Evl.q_cut (M := fun σ' H' => ∃ b : Nat, σ' = [some (.ref f), some (.ref L), some (.ref M), some (.int a), some (.str y), some (.int b), none, none, none, none] ∧ Feed H' f c (B + 3) ∧ Ke (· = f) H H') ?_ ?_
    · have hL1 := k1.lst hL nLf
      refine ⟨_, rfl, _, rfl, L, _, rfl, .inl (.of hL1), f, c, _, _, rfl, by rw [List.length_map]; omega, by rw [List.length_map]; omega, F1, by omega, fun d H2 d0 d1 F2 k2 => ?_⟩
      obtain ⟨n, rfl⟩ : ∃ n : Nat, d = (n : Int) := ⟨d.toNat, by omega⟩
      exact ⟨n, rfl, F2, k1.trans k2⟩
    clear k1 F1 H1
    rintro σ' H1 ⟨b, rfl, F1, k1⟩
    -- sign
    refine Evl.q_cut (M := fun σ' H' => ∃ z : Str, σ' = [some (.ref f), some (.ref L), some (.ref M), some (.int a), some (.str y), some (.int b), some (.str z), none, none, none] ∧ z.length = 1 ∧ Feed H' f c (B + 4) ∧ Ke (· = f) H H') ?_ ?_
    · exact ⟨_, rfl, f, c, _, rfl, F1, by omega, fun x H2 F2 k2 lx => ⟨x, rfl, lx, F2, k1.trans k2⟩⟩
    clear k1 F1 H1
    rintro σ' H1 ⟨z, rfl, lz, F1, k1⟩
    -- text
    have wj := wt_join ws
    refine Evl.q_cut (M := fun σ' G => ∃ t : Str, σ' = [some (.ref f), some (.ref L), some (.ref M), some (.int a), some (.str y), some (.int b), some (.str z), some (.str t), none, none] ∧ H1 = G ∧ t.length ≤ wt ws) ?_ ?_
    · exact ⟨⟨_, rfl⟩, _, rfl, _, L, ws, rfl, rfl, .inl (.of (k1.lst hL nLf)), by rw [show Str.length " " = 1 from by decide +kernel]; unfold wt at w2; omega, _, rfl, rfl, wj⟩
    rintro σ' G ⟨t, rfl, rfl, lt⟩
    have ts : t.length ≤ sizeLine := Nat.le_trans (Nat.le_trans lt w2) (by decide)
    -- spot
    refine Evl.q_cut (M := fun σ' H' => ∃ p : Nat, σ' = [some (.ref f), some (.ref L), some (.ref M), some (.int a), some (.str y), some (.int b), some (.str z), some (.str t), some (.int p), none] ∧ Feed H' f c (B + 5) ∧ Ke (· = f) H H') ?_ ?_
    · refine ⟨_, rfl, _, rfl, t, rfl, ts, _, _, rfl, rfl, f, c, _, _, rfl, by omega, by omega, F1, by omega, fun d H2 d0 d1 F2 k2 => ?_⟩
      obtain ⟨n, rfl⟩ : ∃ n : Nat, d = (n : Int) := ⟨d.toNat, by omega⟩
      exact ⟨n, rfl, F2, k1.trans k2⟩
    clear k1 F1 H1
    rintro σ' H1 ⟨p, rfl, F1, k1⟩
    have hL1 := k1.lst hL nLf
    have l1 : Str.length " " = 1 := by decide +kernel
    have wc := wt_cut ws b
    have wd := wt_dr ws b
    have lof : ∀ zs : List Str, zs.length ≤ wt zs := fun zs => by unfold wt; omega
    have tl1 := lof (ws.take b)
    have tl2 := lof (ws.drop b)
    have tl3 := lof (ws.drop (b + 1))
    have ly1 : wt [y] ≤ 11 := by
      show y.length + 0 + 1 ≤ 11
      omega
    have big : ∀ n : Nat, n ≤ 100000 → n ≤ sizeLine := fun n h => Nat.le_trans h (by decide)
    have bnd : ∀ zs : List Str, wt zs ≤ wt ws + 11 → (zs.map (·.length)).sum + zs.length * Str.length " " ≤ 16777216 := fun zs h => by
      rw [l1]
      unfold wt at h w2
      omega
    have fin : ∀ (zs : List Str) (G : Hp), Same H1 G → wt zs ≤ wt ws + 11 → Q (.str (Txt.join " " zs)) G := fun zs G g h => q _ G (F1.same g) (k1.trans (.same g)) (by have := wt_join zs; omega)
    -- a word taken out
    refine Evl.q_cut (M := fun σ' G => σ' = [some (.ref f), some (.ref L), some (.ref M), some (.int a), some (.str y), some (.int b), some (.str z), some (.str t), some (.int p), none] ∧ H1 = G ∧ a ≠ 0) ?_ ?_
    · refine ⟨_, rfl, rfl, _, rfl, ite2 (fun e => ?_) (fun e => ⟨rfl, rfl, fun w => e (by rw [w]; rfl)⟩)⟩
      refine ⟨⟨_, rfl⟩, _, rfl, _, rfl, (b : Int), rfl, L, _, rfl, .of hL1, fun X G1 n1 u1 h1 _ => ?_⟩
      refine ⟨_, rfl, _, rfl, _, _, rfl, rfl, ((b + 1 : Nat) : Int), rfl, L, _, rfl, .of (u1 _ _ hL1), fun Y G2 n2 u2 h2 _ => ?_⟩
      rw [cut_tk] at h1
      rw [cut_dr] at h2
      refine ⟨X, Y, _, _, rfl, rfl, u2 _ _ h1, h2, by rw [List.length_map, List.length_map]; exact big _ (by omega), fun Z G3 n3 u3 h3 _ => ?_⟩
      rw [← List.map_append] at h3
      have w3 : wt (ws.take b ++ ws.drop (b + 1)) ≤ wt ws + 11 := by rw [wt_app]; omega
      exact ⟨_, Z, _, rfl, rfl, .inl (.of h3), bnd _ w3, fin _ G3 (u1.trans (u2.trans u3)) w3⟩
    rintro σ' G ⟨rfl, rfl, a0⟩
    -- a word put in
    refine Evl.q_cut (M := fun σ' G => σ' = [some (.ref f), some (.ref L), some (.ref M), some (.int a), some (.str y), some (.int b), some (.str z), some (.str t), some (.int p), none] ∧ H1 = G ∧ a ≠ 1) ?_ ?_
    · refine ⟨_, rfl, rfl, _, rfl, ite2 (fun e => ?_) (fun e => ⟨rfl, rfl, fun w => e (by rw [w]; rfl)⟩)⟩
      refine ⟨⟨_, rfl⟩, _, rfl, _, rfl, (b : Int), rfl, L, _, rfl, .of hL1, fun X G1 n1 u1 h1 _ => ?_⟩
      refine ⟨_, rfl, by show 1 ≤ sizeLine; decide, fun W G2 n2 u2 h2 _ => ?_⟩
      rw [cut_tk] at h1
      refine ⟨X, W, _, [.str y], rfl, rfl, u2 _ _ h1, h2, by rw [List.length_map]; exact big _ (by show _ + 1 ≤ 100000; omega), fun Z1 G3 n3 u3 h3 _ => ?_⟩
      refine ⟨_, rfl, _, rfl, (b : Int), rfl, L, _, rfl, .of ((u1.trans (u2.trans u3)) _ _ hL1), fun Y G4 n4 u4 h4 _ => ?_⟩
      rw [cut_dr] at h4
      have h3 : G3 Z1 = some (.lst ((ws.take b ++ [y]).map V.str)) := by rw [List.map_append]; exact h3
      refine ⟨Z1, Y, _, _, rfl, rfl, u4 _ _ h3, h4, by rw [List.length_map, List.length_map, List.length_append, List.length_singleton]; exact big _ (by omega), fun Z G5 n5 u5 h5 _ => ?_⟩
      rw [← List.map_append] at h5
      have w3 : wt (ws.take b ++ [y] ++ ws.drop b) ≤ wt ws + 11 := by rw [wt_app, wt_app]; omega
      exact ⟨_, Z, _, rfl, rfl, .inl (.of h5), bnd _ w3, fin _ G5 (u1.trans (u2.trans (u3.trans (u4.trans u5)))) w3⟩
    rintro σ' G ⟨rfl, rfl, a1⟩
    -- a word for another
    refine Evl.q_cut (M := fun σ' G => σ' = [some (.ref f), some (.ref L), some (.ref M), some (.int a), some (.str y), some (.int b), some (.str z), some (.str t), some (.int p), none] ∧ H1 = G ∧ 4 ≤ a) ?_ ?_
    · refine ⟨_, rfl, _, _, rfl, rfl, _, rfl, ite2 (fun e => ?_) (fun e => ⟨rfl, rfl, by have : ¬ (a : Int) < 4 := fun w => e (decide_eq_true w); omega⟩)⟩
      refine ⟨⟨_, rfl⟩, _, rfl, _, rfl, (b : Int), rfl, L, _, rfl, .of hL1, fun X G1 n1 u1 h1 _ => ?_⟩
      refine ⟨_, rfl, by show 1 ≤ sizeLine; decide, fun W G2 n2 u2 h2 _ => ?_⟩
      rw [cut_tk] at h1
      refine ⟨X, W, _, [.str y], rfl, rfl, u2 _ _ h1, h2, by rw [List.length_map]; exact big _ (by show _ + 1 ≤ 100000; omega), fun Z1 G3 n3 u3 h3 _ => ?_⟩
      refine ⟨_, rfl, _, rfl, _, _, rfl, rfl, ((b + 1 : Nat) : Int), rfl, L, _, rfl, .of ((u1.trans (u2.trans u3)) _ _ hL1), fun Y G4 n4 u4 h4 _ => ?_⟩
      rw [cut_dr] at h4
      have h3 : G3 Z1 = some (.lst ((ws.take b ++ [y]).map V.str)) := by rw [List.map_append]; exact h3
      refine ⟨Z1, Y, _, _, rfl, rfl, u4 _ _ h3, h4, by rw [List.length_map, List.length_map, List.length_append, List.length_singleton]; exact big _ (by omega), fun Z G5 n5 u5 h5 _ => ?_⟩
      rw [← List.map_append] at h5
      have w3 : wt (ws.take b ++ [y] ++ ws.drop (b + 1)) ≤ wt ws + 11 := by rw [wt_app, wt_app]; omega
      exact ⟨_, Z, _, rfl, rfl, .inl (.of h5), bnd _ w3, fin _ G5 (u1.trans (u2.trans (u3.trans (u4.trans u5)))) w3⟩
    rintro σ' G ⟨rfl, rfl, a4⟩
    -- cut off
    refine Evl.q_cut (M := fun σ' G => σ' = [some (.ref f), some (.ref L), some (.ref M), some (.int a), some (.str y), some (.int b), some (.str z), some (.str t), some (.int p), none] ∧ H1 = G ∧ a ≠ 4) ?_ ?_
    · refine ⟨_, rfl, rfl, _, rfl, ite2 (fun e => ?_) (fun e => ⟨rfl, rfl, fun w => e (by rw [w]; rfl)⟩)⟩
      refine ⟨⟨_, rfl⟩, _, rfl, _, rfl, (b : Int), rfl, L, _, rfl, .of hL1, fun X G1 n1 u1 h1 _ => ?_⟩
      rw [cut_tk] at h1
      have w3 : wt (ws.take b) ≤ wt ws + 11 := by omega
      exact ⟨_, X, _, rfl, rfl, .inl (.of h1), bnd _ w3, fin _ G1 u1 w3⟩
    rintro σ' G ⟨rfl, rfl, a5⟩
    -- a sign
    have cl : ∀ lo hi, (cutS t lo hi).length ≤ wt ws := fun lo hi => Nat.le_trans (cutS_length t lo hi) lt
    have c1 := cl none (some (p : Int))
    have c2 := cl (some (p : Int)) none
    have c3 := cl (some ((p + 1 : Nat) : Int)) none
    have bigs : ∀ n : Nat, n ≤ 100000 → n ≤ sizeLine := big
    refine Evl.q_cut (M := fun σ' G => ∃ (S : Addr) (s1 s2 : Str), σ' = [some (.ref f), some (.ref L), some (.ref M), some (.int a), some (.str y), some (.int b), some (.str z), some (.str t), some (.int p), some (.ref S)] ∧ Same H1 G ∧ G S = some (.lst [.str s1, .str s2]) ∧ s1.length ≤ 2 * wt ws + 20 ∧ s2.length ≤ 2 * wt ws + 20) ?_ ?_
    · refine ⟨_, rfl, _, rfl, (p : Int), rfl, t, rfl, ts, _, rfl, _, _, rfl, rfl, big _ (by omega), _, rfl, _, rfl, (p : Int), rfl, t, rfl, ts, _, _, rfl, rfl, big _ (by rw [len_add]; omega), ?_⟩
      refine ⟨_, rfl, _, rfl, (p : Int), rfl, t, rfl, ts, _, rfl, _, rfl, _, _, rfl, rfl, ((p + 1 : Nat) : Int), rfl, t, rfl, ts, _, _, rfl, rfl, big _ (by omega), by show 2 ≤ sizeLine; decide, fun S G1 n1 u1 h1 _ => ?_⟩
      exact ⟨S, _, _, rfl, u1, h1, by rw [len_add, len_add]; omega, by rw [len_add]; omega⟩
    rintro σ' G ⟨S, s1, s2, rfl, g, hS, b1, b2⟩
    refine ⟨_, rfl, _, rfl, _, rfl, (p : Int), rfl, t, rfl, ts, _, rfl, _, _, rfl, rfl, big _ (by omega), _, rfl, _, rfl, _, _, rfl, rfl, ((p + 1 : Nat) : Int), rfl, t, rfl, ts, _, _, rfl, rfl, big _ (by rw [len_add]; omega), by show 1 ≤ sizeLine; decide, fun W G2 n2 u2 h2 _ => ?_⟩
    refine ⟨S, W, _, _, rfl, rfl, u2 _ _ hS, h2, by show 3 ≤ sizeLine; decide, fun Z G3 n3 u3 h3 _ => ?_⟩
    have fin3 : ∀ x : Str, x.length ≤ 2 * wt ws + 20 → Q (.str x) G3 := fun x lx => q x G3 (F1.same (g.trans (u2.trans u3))) (k1.trans (.same (g.trans (u2.trans u3)))) lx
    rcases (by omega : a = 5 ∨ a = 6 ∨ a = 7) with rfl | rfl | rfl
    · exact ⟨_, rfl, _, _, rfl, rfl, Z, _, _, .str s1, rfl, rfl, .of h3, at_of (j := 0) rfl rfl, fin3 _ b1⟩
    · exact ⟨_, rfl, _, _, rfl, rfl, Z, _, _, .str s2, rfl, rfl, .of h3, at_of (j := 1) rfl rfl, fin3 _ b2⟩
    · exact ⟨_, rfl, _, _, rfl, rfl, Z, _, _, .str _, rfl, rfl, .of h3, at_of (j := 2) rfl rfl, fin3 _ (by rw [len_add, len_add]; omega)⟩
abbrev sAsp : Stmt := topS 43
abbrev nAsp : List Str := ["pen", "text", "menu"]
theorem scAsp : FnScope nAsp ["pen", "text", "menu"] (defScope sAsp) := ⟨rfl, rfl, rfl, by decide +kernel, rfl, by decide +kernel, by decide +kernel⟩
def spAsp : Sp := fun vs H Q _ => ∃ (f c M : Addr) (x : Str) (ms : List Str) (B : Nat), vs = [.ref f, .str x, .ref M] ∧ Feed H f c B ∧ B ≤ 2 ^ 26 ∧ x.length ≤ 5500 ∧ StL H M ms ∧ M ≠ f ∧ 1 ≤ ms.length ∧ ms.length ≤ 100 ∧ (∀ x ∈ ms, x.length ≤ 10) ∧
  ∀ (y : Str) H', Feed H' f c (B + 11) → Ke (· = f) H H' → y.length ≤ 50000 → Q (.str y) H'
theorem ok_asp {f fD fP : Addr} {fd fdD fdP : FuncData} {k : Nat} (F : Fun K "_law_e_all_spoilt" "_law_e_all_spoilt" sAsp f fd)
    (FD : Fun K "_law_e_take" "_law_e_take" sDrw fD fdD) (bD : Binds K fdD ["pen", "many"] []) (gD : mg "_law_e_take" = some (.ref fD)) (GD : FnOk P w K mg base CX0 2 fD fdD ["pen", "many"] spDrw)
    (FP : Fun K "_law_e_spoilt" "_law_e_spoilt" sSpo fP fdP) (bP : Binds K fdP ["pen", "words", "menu"] []) (gP : mg "_law_e_spoilt" = some (.ref fP)) (GP : FnOk P w K mg base CX0 4 fP fdP ["pen", "words", "menu"] spSpo) :
    FnOk P w K mg base CX0 (k + 5) f fd ["pen", "text", "menu"] spAsp := by
  refine F.ok scAsp (fun vs H Q E h => ?_) (fun cdv A outer s H vs Q E hr h => ?_)
  · obtain ⟨f, c, M, x, ms, B, rfl, _⟩ := h
    rfl
  · obtain ⟨f, c, M, x, ms, B, rfl, hF, hB, lx, hM, nMf, lm1, lm2, bm, q⟩ := h
    have hr2 : Room 2 _ := hr.mono (by omega)
    have hr4 : Room 4 _ := hr.mono (by omega)
    refine ⟨_, (Evl.pss_cut (ps_set (i := 1) scAsp.nd rfl (.inl rfl) (pe_call GP hr4 (by rfl) gP FP.kp bP .nil pass0 (pa_cons (pv 0) (pa_cons (pe_split (pv 1) pe_str) (pa_cons (pv 2) pa_nil)))))
      (Evl.pss_cut (ps_if (pt_cmpR op_eq (pe_call GD hr2 (by rfl) gD FD.kp bD .nil pass0 (pa_cons (pv 0) (pa_cons pe_int pa_nil))) pe_int (nomark _)) (pss_one (ps_set (i := 1) scAsp.nd rfl (.inl rfl) (pe_call GP hr4 (by rfl) gP FP.kp bP .nil pass0 (pa_cons (pv 0) (pa_cons (pe_split (pv 1) pe_str) (pa_cons (pv 2) pa_nil)))))) pss_nil)
      (pss_one (ps_ret (pv 1))))), ?_⟩
    have sp1 : (Str.length " " == 0) = false := by decide +kernel
    refine Evl.q_cut (M := fun σ' H' => ∃ y : Str, σ' = [some (.ref f), some (.str y), some (.ref M)] ∧ Feed H' f c (B + 5) ∧ Ke (· = f) H H' ∧ y.length ≤ 11100) ?_ ?_
    · refine ⟨_, rfl, _, rfl, ⟨_, rfl⟩, _, _, rfl, rfl, (sp1 : (Str.length " " == 0) = false), Nat.le_trans (by omega : _ ≤ 6000) (by decide), fun L nL => ?_⟩
      have s1 : Same H (upd H L (.lst ((Txt.split x " ").map V.str))) := same_new nL
      refine ⟨_, rfl, f, c, L, M, _, ms, B, rfl, hF.same s1, by omega, upd_same, hF.nf nL, split_pos x, by rw [split_wt]; omega, s1 _ _ hM, nMf, lm1, lm2, bm, fun y H2 F2 k2 ly => ?_⟩
      rw [split_wt] at ly
      exact ⟨y, rfl, F2, (Ke.same s1).trans k2, by omega⟩
    rintro σ' H1 ⟨y, rfl, F1, k1, ly⟩
    refine Evl.q_cut (M := fun σ' H' => ∃ y : Str, σ' = [some (.ref f), some (.str y), some (.ref M)] ∧ Feed H' f c (B + 11) ∧ Ke (· = f) H H' ∧ y.length ≤ 50000) ?_ ?_
    · refine ⟨_, rfl, f, c, 2, _, rfl, by decide, by decide, F1, by omega, fun d H2 d0 d1 F2 k2 => ⟨rfl, _, rfl, ite2 (fun e => ?_) (fun e => ?_)⟩⟩
      · have hM2 := (k1.trans k2).lst hM nMf
        refine ⟨_, rfl, _, rfl, ⟨_, rfl⟩, _, _, rfl, rfl, (sp1 : (Str.length " " == 0) = false), Nat.le_trans (by omega : _ ≤ 12000) (by decide), fun L nL => ?_⟩
        have s1 : Same H2 (upd H2 L (.lst ((Txt.split y " ").map V.str))) := same_new nL
        refine ⟨_, rfl, f, c, L, M, _, ms, _, rfl, F2.same s1, by omega, upd_same, F2.nf nL, split_pos y, by rw [split_wt]; omega, s1 _ _ hM2, nMf, lm1, lm2, bm, fun v H4 F4 k4 lv => ?_⟩
        rw [split_wt] at lv
        exact ⟨v, rfl, F4, k1.trans (k2.trans ((Ke.same s1).trans k4)), by omega⟩
      · exact ⟨y, rfl, F2.mono (by omega), k1.trans k2, by omega⟩
    clear ly k1 F1 H1 y
    rintro σ' H1 ⟨y, rfl, F1, k1, ly⟩
    exact ⟨_, rfl, q y H1 F1 k1 ly⟩
end
end Tw
namespace Tw
open PySem PySem.Spec PyProof.Rows L2 GxR Nw Dr Kp
open TL (tl tl_num numL numL_digits numL_len numL_ne numL_val numL_free ext_tl len_tl)
/-! ### numbers told by words, those below 0 too (k81, k80) -/
theorem numT_neg (n : Nat) : tl (numT (-((n + 1 : Nat) : Int))) = 45 :: numL (n + 1) := by
  unfold numT
  rw [TL.tl_ofString]
  show (("-" ++ Nat.repr (n + 1) : String)).toList.map Char.toNat = _
  rw [String.toList_append, List.map_append, Nat.toList_repr]
  rfl
theorem negT_get {n : Nat} (h : n < 999) : ∃ f : Str, Txt.removeprefix (numT (-((n + 1 : Nat) : Int))) "-" = f ∧ Txt.isascii f = true ∧ Txt.isdigit f = true ∧ f.length ≤ 3 ∧ intText? (numT (-((n + 1 : Nat) : Int))) = some (-((n + 1 : Nat) : Int)) ∧ (numT (-((n + 1 : Nat) : Int))).length ≤ 4 := by
  have e := numT_neg n
  have l3 := numL_len (n := n + 1) (k := 3) (by decide) (by omega)
  have ad := numL_digits (n + 1)
  have ne := numL_ne (n + 1)
  refine ⟨_, rfl, ?_⟩
  rcases rp_cases (numT (-((n + 1 : Nat) : Int))) with ⟨cs, z, zf⟩ | ⟨z, _⟩
  · obtain rfl : cs = numL (n + 1) := (List.cons.inj (z.symm.trans e)).2
    obtain ⟨a1, a2⟩ := all_figs (by rw [zf]; exact ad) (by rw [zf]; exact ne)
    refine ⟨a1, a2, by rw [len_tl, zf]; exact l3, ?_, by rw [len_tl, e, List.length_cons]; omega⟩
    rw [PySem.intText_neg e ad ne (by rw [len_tl, e, List.length_cons]; omega), numL_val]
  · exact absurd e (z _)
/-- exactly: the number that a word tells, or None -/
def spNoz : Sp := fun vs H Q _ => ∃ x : Str, vs = [.str x] ∧ x.length ≤ 100000 ∧ (∀ i : Int, -1000 < i → i < 1000 → x = numT i → Q (.int i) H) ∧ ((∀ i : Int, -1000 < i → i < 1000 → x ≠ numT i) → Q .non H)
section
variable {P : Program} {w : World} {K : PySem.W.Frag} {mg : Str → Option Value} {base : Heap}
theorem ok_noz {f : Addr} {fd : FuncData} {k : Nat} {tk : Tok} (F : Fun K "number_or_none" "number_or_none" sNon f fd) (T : Zn mg) (M3 : mg "MOST_FIGURES" = some (.int 3 tk)) : FnOk P w K mg base CX0 (k + 1) f fd ["word"] spNoz := by
  refine F.ok scNon (fun vs H Q E h => ?_) (fun cdv A outer s H vs Q E hr h => ?_)
  · obtain ⟨x, rfl, _⟩ := h
    rfl
  · obtain ⟨x, rfl, lx, q1, q2⟩ := h
    refine ⟨_, (Evl.pss_cut (ps_set (i := 1) scNon.nd rfl (.inl rfl) (pe_m1 PySem.F.slot_str_removeprefix PySem.F.type_str_removeprefix mt_removeprefix (pv 0) pe_str))
      (Evl.pss_cut (ps_if (PW.pt (pw_or (pt_not (pt_val (pe_m0 PySem.F.slot_str_isascii PySem.F.type_str_isascii mt_isascii (pv 1)))) (pw_or (pt_not (pt_val (pe_m0 PySem.F.slot_str_isdigit PySem.F.type_str_isdigit mt_isdigit (pv 1)))) (pw_or1 (pt_cmpR op_gt (pe_callB call_len_str (by rfl) T.z_len (by decide +kernel) (pa_cons (pv 1) pa_nil)) (pe_glob (v := .int 3) rfl M3 ⟨_, rfl⟩) (nomark _)))))) (pss_one (ps_ret pe_non)) pss_nil)
      (pss_cons (ps_set (i := 2) scNon.nd rfl (.inl rfl) (pe_callTy call_int_str (by rfl) T.z_int (by decide +kernel) (pa_cons (pv 0) pa_nil)))
      (pss_one (ps_ret (pe_ifExp (pt_cmpR op_eq (pe_callTy call_str_int (by rfl) T.z_str (by decide +kernel) (pa_cons (pv 2) pa_nil)) (pv 0) (nomark _)) (pv 2) pe_non)))))), ?_⟩
    refine Evl.q_cut (M := fun σ' H' => σ' = [some (.str x), some (.str (Txt.removeprefix x "-")), none] ∧ H' = H) ?_ ?_
    · exact ⟨_, rfl, ⟨_, rfl⟩, _, _, rfl, rfl, Nat.le_trans lx (by decide), rfl, rfl⟩
    rintro σ' G ⟨rfl, rfl⟩
    by_cases c : ∃ n : Nat, n < 1000 ∧ x = numT n
    · obtain ⟨n, hn, rfl⟩ := c
      obtain ⟨e1, e2, e3, e4, e5⟩ := numT_get hn
      have q := q1 (n : Int) (by omega) (by omega) rfl
      rw [e1]
      refine Evl.q_cut (M := fun σ' H' => σ' = [some (.str (numT n)), some (.str (numT n)), none] ∧ H' = G) ?_ ?_
      · refine ⟨_, rfl, ⟨_, rfl⟩, _, rfl, rfl, trivial, _, rfl, ite2 (fun e => ?_) (fun _ => ?_)⟩
        · rw [e2] at e
          cases e
        refine ⟨_, rfl, ⟨_, rfl⟩, _, rfl, rfl, trivial, _, rfl, ite2 (fun e => ?_) (fun _ => ?_)⟩
        · rw [e3] at e
          cases e
        refine ⟨_, rfl, _, rfl, Nat.le_trans e4 (by decide), _, _, rfl, rfl, _, rfl, ite2 (fun e => ?_) (fun _ => ⟨rfl, rfl⟩)⟩
        have e : (3 : Int) < ((numT n).length : Nat) := of_decide_eq_true e
        omega
      rintro σ' H' ⟨rfl, rfl⟩
      refine ⟨_, rfl, _, _, rfl, e5, Nat.le_trans e4 (by decide), ?_⟩
      refine ⟨_, rfl, (n : Int), rfl, lg0 hn, _, rfl, rfl, _, rfl, ite2 (fun e => ⟨_, rfl, q⟩) (fun e => ?_)⟩
      exact absurd (decide_eq_true rfl) e
    · have no : ∀ n : Nat, n < 1000 → x ≠ numT n := fun n hn e => c ⟨n, hn, e⟩
      by_cases cn : ∃ n : Nat, n < 999 ∧ x = numT (-((n + 1 : Nat) : Int))
      · obtain ⟨n, hn, rfl⟩ := cn
        obtain ⟨g, e1, e2, e3, e4, e5, e6⟩ := negT_get hn
        have q := q1 (-((n + 1 : Nat) : Int)) (by omega) (by omega) rfl
        rw [e1]
        refine Evl.q_cut (M := fun σ' H' => σ' = [some (.str (numT (-((n + 1 : Nat) : Int)))), some (.str g), none] ∧ H' = G) ?_ ?_
        · refine ⟨_, rfl, ⟨_, rfl⟩, _, rfl, rfl, trivial, _, rfl, ite2 (fun e => ?_) (fun _ => ?_)⟩
          · rw [e2] at e
            cases e
          refine ⟨_, rfl, ⟨_, rfl⟩, _, rfl, rfl, trivial, _, rfl, ite2 (fun e => ?_) (fun _ => ?_)⟩
          · rw [e3] at e
            cases e
          refine ⟨_, rfl, _, rfl, Nat.le_trans e4 (by decide), _, _, rfl, rfl, _, rfl, ite2 (fun e => ?_) (fun _ => ⟨rfl, rfl⟩)⟩
          have e : (3 : Int) < ((Str.length g : Nat) : Int) := of_decide_eq_true e
          omega
        rintro σ' H' ⟨rfl, rfl⟩
        refine ⟨_, rfl, _, _, rfl, e5, Nat.le_trans e6 (by decide), ?_⟩
        refine ⟨_, rfl, (-((n + 1 : Nat) : Int)), rfl, by rw [Int.natAbs_neg]; exact lg0 (by omega), _, rfl, rfl, _, rfl, ite2 (fun e => ⟨_, rfl, q⟩) (fun e => ?_)⟩
        exact absurd (decide_eq_true rfl) e
      have qn := q2 fun i i1 i2 e => by
        rcases Int.lt_or_le i 0 with l | l
        · exact cn ⟨(-i).toNat - 1, by omega, by rw [show (-(((-i).toNat - 1 + 1 : Nat) : Int)) = i by omega]; exact e⟩
        · exact no i.toNat (by omega) (by rw [show ((i.toNat : Nat) : Int) = i by omega]; exact e)
      by_cases b1 : Txt.isascii (Txt.removeprefix x "-") = true ∧ Txt.isdigit (Txt.removeprefix x "-") = true ∧ (Txt.removeprefix x "-").length ≤ 3
      · obtain ⟨e2, e3, e4⟩ := b1
        obtain ⟨i, e5, l4, lg, ei, ib⟩ := num_neg rfl e2 e3 e4 no
        refine Evl.q_cut (M := fun σ' H' => σ' = [some (.str x), some (.str (Txt.removeprefix x "-")), none] ∧ H' = G) ?_ ?_
        · refine ⟨_, rfl, ⟨_, rfl⟩, _, rfl, rfl, trivial, _, rfl, ite2 (fun e => ?_) (fun _ => ?_)⟩
          · rw [e2] at e
            cases e
          refine ⟨_, rfl, ⟨_, rfl⟩, _, rfl, rfl, trivial, _, rfl, ite2 (fun e => ?_) (fun _ => ?_)⟩
          · rw [e3] at e
            cases e
          refine ⟨_, rfl, _, rfl, Nat.le_trans e4 (by decide), _, _, rfl, rfl, _, rfl, ite2 (fun e => ?_) (fun _ => ⟨rfl, rfl⟩)⟩
          have e : (3 : Int) < ((Txt.removeprefix x "-").length : Nat) := of_decide_eq_true e
          omega
        rintro σ' H' ⟨rfl, rfl⟩
        refine ⟨_, rfl, _, _, rfl, e5, Nat.le_trans l4 (by decide), ?_⟩
        refine ⟨_, rfl, i, rfl, lg, _, rfl, rfl, _, rfl, ite2 (fun e => ?_) (fun e => qn)⟩
        have e : decide (V.str (numT i) = V.str x) = true := e
        have e := V.str.inj (of_decide_eq_true e)
        have l := ei e
        exact absurd ⟨(-i).toNat - 1, by omega, by rw [show (-(((-i).toNat - 1 + 1 : Nat) : Int)) = i by omega]; exact e.symm⟩ cn
      · refine Evl.q_cut (M := fun _ _ => False) ?_ fun _ _ z => z.elim
        refine ⟨_, rfl, ⟨_, rfl⟩, _, rfl, rfl, trivial, _, rfl, ite2 (fun e => qn) (fun e2 => ?_)⟩
        refine ⟨_, rfl, ⟨_, rfl⟩, _, rfl, rfl, trivial, _, rfl, ite2 (fun e => qn) (fun e3 => ?_)⟩
        refine ⟨_, rfl, _, rfl, ?_, _, _, rfl, rfl, _, rfl, ite2 (fun e => qn) (fun e4 => ?_)⟩
        · exact Nat.le_trans (rp_len x) (Nat.le_trans lx (by decide))
        · exfalso
          have e2 : Txt.isascii (Txt.removeprefix x "-") = true := by
            cases z : Txt.isascii (Txt.removeprefix x "-") with
            | true => rfl
            | false => exact absurd (by rw [z]; rfl) e2
          have e3 : Txt.isdigit (Txt.removeprefix x "-") = true := by
            cases z : Txt.isdigit (Txt.removeprefix x "-") with
            | true => rfl
            | false => exact absurd (by rw [z]; rfl) e3
          have e4 : ¬ (3 : Int) < ((Txt.removeprefix x "-").length : Nat) := fun z => e4 (decide_eq_true z)
          exact b1 ⟨e2, e3, by omega⟩
end
end Tw
namespace Tc
open PySem PySem.Spec PyProof.Rows L2 GxR Nw Dr Kp Tw
open TL (tl)
/-! ### how the words of a book are read (k81, k80) -/
def InR (i : Int) : Prop := -8 ≤ i ∧ i ≤ 8 ∧ i ≠ 0
theorem int_of_numT {i : Int} (h : -999 ≤ i ∧ i ≤ 999) : intText? (numT i) = some i := by
  rcases Int.lt_or_le i 0 with l | l
  · obtain ⟨n, hn, e⟩ : ∃ n : Nat, n < 999 ∧ i = -((n + 1 : Nat) : Int) := ⟨(-i).toNat - 1, by omega, by omega⟩
    obtain ⟨_, _, _, _, _, h5, _⟩ := negT_get hn
    rw [e]
    exact h5
  · obtain ⟨n, rfl⟩ : ∃ n : Nat, i = n := ⟨i.toNat, by omega⟩
    exact (numT_get (by omega)).2.2.2.2
theorem numZ_inj {i j : Int} (hi : -999 ≤ i ∧ i ≤ 999) (hj : -999 ≤ j ∧ j ≤ 999) (e : numT i = numT j) : i = j := by
  have h := int_of_numT hi
  rw [e, int_of_numT hj] at h
  exact (Option.some.inj h).symm
theorem InR.b {i : Int} (h : InR i) : -999 ≤ i ∧ i ≤ 999 := ⟨by have := h.1; omega, by have := h.2.1; omega⟩
theorem numZ_head {i : Int} (h : -999 ≤ i ∧ i ≤ 999) : ∃ c r, tl (numT i) = c :: r ∧ (c = 45 ∨ (48 ≤ c ∧ c ≤ 57)) := by
  rcases Int.lt_or_le i 0 with l | l
  · obtain ⟨n, rfl⟩ : ∃ n : Nat, i = -((n + 1 : Nat) : Int) := ⟨(-i).toNat - 1, by omega⟩
    exact ⟨_, _, numT_neg n, .inl rfl⟩
  · obtain ⟨n, rfl⟩ : ∃ n : Nat, i = n := ⟨i.toNat, by omega⟩
    have ne := TL.numL_ne n
    rw [← numT_tl] at ne
    cases e : tl (numT (n : Int)) with
    | nil => exact absurd e ne
    | cons c r => exact ⟨c, r, rfl, .inr (numT_head rfl c (by rw [e]; exact List.mem_cons_self))⟩
theorem tl_none : tl "none" = [110, 111, 110, 101] := by decide +kernel
theorem num_none {i : Int} (h : InR i) : numT i ≠ "none" := fun e => by
  obtain ⟨c, r, e1, e2⟩ := numZ_head h.b
  rw [e, tl_none] at e1
  have := (List.cons.inj e1).1
  omega
theorem num_str {i : Int} (h : InR i) : numT i ≠ "/" := fun e => by
  obtain ⟨c, r, e1, e2⟩ := numZ_head h.b
  rw [e, tl_str] at e1
  have := (List.cons.inj e1).1
  omega
/-- the says that are read: none yet, the word none, some -/
inductive Cs where
  | no | nil | som (l : List Int)
inductive Cstep (cls : List (List Int)) : Cs → Str → List (List Int) → Cs → Prop
  | none : Cstep cls .no "none" cls .nil
  | first (i : Int) (h : InR i) : Cstep cls .no (numT i) cls (.som [i])
  | stroke0 (h : cls.length < 15) : Cstep cls .nil "/" (cls ++ [[]]) .no
  | stroke (l : List Int) (h : cls.length < 15) : Cstep cls (.som l) "/" (cls ++ [l]) .no
  | next (l : List Int) (i : Int) (h : InR i) (hl : ∀ j ∈ l, j < i) (ho : -i ∉ l) : Cstep cls (.som l) (numT i) cls (.som (l ++ [i]))
theorem Cstep.one {cls a b : List (List Int)} {s p q : Cs} {x : Str} (h : Cstep cls s x a p) (g : Cstep cls s x b q) : a = b ∧ p = q := by
  generalize hx : x = y at g
  cases h with
  | none =>
    cases g with
    | none => exact ⟨rfl, rfl⟩
    | first i h => exact absurd hx.symm (num_none h)
  | first i h =>
    cases g with
    | none => exact absurd hx (num_none h)
    | first j h' =>
      have := numZ_inj h.b h'.b hx
      subst this
      exact ⟨rfl, rfl⟩
  | stroke0 _ => cases g with | stroke0 _ => exact ⟨rfl, rfl⟩
  | stroke l _ =>
    cases g with
    | stroke _ _ => exact ⟨rfl, rfl⟩
    | next _ i h _ _ => exact absurd hx.symm (num_str h)
  | next l i h _ _ =>
    cases g with
    | stroke _ _ => exact absurd hx (num_str h)
    | next _ j h' _ _ =>
      have := numZ_inj h.b h'.b hx
      subst this
      exact ⟨rfl, rfl⟩
inductive Creach (ws : List Str) : Nat → List (List Int) → Cs → Prop
  | zero : Creach ws 0 [] .no
  | succ {n : Nat} {cls cls' : List (List Int)} {s s' : Cs} {x : Str} (h : Creach ws n cls s) (e : ws[n]? = some x) (st : Cstep cls s x cls' s') : Creach ws (n + 1) cls' s'
theorem Creach.le {ws : List Str} {n : Nat} {cls : List (List Int)} {s : Cs} (h : Creach ws n cls s) : n ≤ ws.length := by
  cases h with
  | zero => exact Nat.zero_le _
  | succ h e s =>
    have := (List.getElem?_eq_some_iff.mp e).1
    omega
theorem Creach.one {ws : List Str} : ∀ {n : Nat} {a b : List (List Int)} {s t : Cs}, Creach ws n a s → Creach ws n b t → a = b ∧ s = t
  | 0, _, _, _, _, .zero, .zero => ⟨rfl, rfl⟩
  | n + 1, _, _, _, _, .succ h e s, .succ h' e' s' => by
    obtain ⟨rfl, rfl⟩ := Creach.one h h'
    rw [e] at e'
    cases e'
    exact s.one s'
theorem Creach.back {ws : List Str} : ∀ {n : Nat} {cls : List (List Int)} {s : Cs}, Creach ws n cls s → ∀ m, m < n → ∃ c t x c2 t2, Creach ws m c t ∧ ws[m]? = some x ∧ Cstep c t x c2 t2
  | 0, _, _, .zero, m, h => by omega
  | n + 1, _, _, .succ h e s, m, l => by
    by_cases z : m = n
    · subst z
      exact ⟨_, _, _, _, _, h, e, s⟩
    · exact Creach.back h m (by omega)
/-- the last claim, where there is one -/
def csL : Cs → Option (List Int)
  | .no => none
  | .nil => some []
  | .som l => some l
def Ctold (ws : List Str) (cls : List (List Int)) : Prop := ∃ cls0 s l, csL s = some l ∧ cls = cls0 ++ [l] ∧ Creach ws ws.length cls0 s
def Cbad (ws : List Str) (e : Nat) : Prop := ∃ cls s, Creach ws e cls s ∧ ((∃ x, ws[e]? = some x ∧ ∀ c t, ¬ Cstep cls s x c t) ∨ (e = ws.length ∧ s = .no))
theorem Ctold.one {ws : List Str} {a b : List (List Int)} (h : Ctold ws a) (g : Ctold ws b) : a = b := by
  obtain ⟨a0, s, l, e1, rfl, h⟩ := h
  obtain ⟨b0, t, m, e2, rfl, g⟩ := g
  obtain ⟨rfl, rfl⟩ := h.one g
  rw [e1] at e2
  rw [Option.some.inj e2]
theorem Cbad.told {ws : List Str} {a : List (List Int)} {e : Nat} (h : Ctold ws a) (g : Cbad ws e) : False := by
  obtain ⟨a0, s, l, e1, rfl, h⟩ := h
  obtain ⟨cls, t, g, z⟩ := g
  rcases z with ⟨x, ex, no⟩ | ⟨ee, rfl⟩
  · have lt := (List.getElem?_eq_some_iff.mp ex).1
    obtain ⟨c1, t1, y, c2, t2, h1, h2, h3⟩ := h.back e lt
    obtain ⟨rfl, rfl⟩ := g.one h1
    rw [ex] at h2
    cases h2
    exact no _ _ h3
  · subst ee
    obtain ⟨_, rfl⟩ := g.one h
    cases e1
theorem Cbad.one {ws : List Str} {d e : Nat} (h : Cbad ws d) (g : Cbad ws e) : d = e := by
  have key : ∀ {d e : Nat}, Cbad ws d → Cbad ws e → ¬ d < e := fun {d e} h g l => by
    obtain ⟨cls, s, h, z⟩ := h
    obtain ⟨cls', s', g, _⟩ := g
    obtain ⟨c1, t1, y, c2, t2, h1, h2, h3⟩ := g.back d l
    obtain ⟨rfl, rfl⟩ := h.one h1
    rcases z with ⟨x, ex, no⟩ | ⟨ee, _⟩
    · rw [ex] at h2
      cases h2
      exact no _ _ h3
    · have := g.le
      omega
  have := key h g
  have := key g h
  omega
end Tc
namespace Se
open PySem PySem.Spec PyProof.Rows L2 GxR Nw Dr Kp
/-- a def of the text whose code object stands at c -/
structure FunC (K : PySem.W.Frag) (x qual : Str) (st : Stmt) (f c : Addr) (fd : FuncData) : Prop where
  ex : ∃ (oc : Value) (od : Option Addr) (kV doc pm : Value) (an : Option Addr) (ct : Value) (osl : Array (Option Value)), fd = PySem.W.fnOf x qual (defArgs st) (defBody st) (defScope st) .none kV doc pm an (.ref c) ct ∧ K.lookup f = some ⟨oc, od, .func fd, osl⟩ ∧ PySem.W.codeIn K (.ref c) qual = true
  kp : PySem.W.keepIn K (.ref f) = true
section
variable {P : Program} {w : World} {K : PySem.W.Frag} {mg : Str → Option Value} {base : Heap}
theorem FunC.fn {x qual : Str} {st : Stmt} {f c : Addr} {fd : FuncData} (F : FunC K x qual st f c fd) : Fun K x qual st f fd := by
  obtain ⟨oc, od, kV, doc, pm, an, ct, osl, e, l, cd⟩ := F.ex
  exact ⟨⟨oc, od, kV, doc, pm, an, .ref c, ct, osl, e, l, cd⟩, F.kp⟩
theorem FunC.ok {x qual : Str} {st : Stmt} {f c : Addr} {fd : FuncData} {N ps : List Str} {k : Nat} {sp : Sp} (F : FunC K x qual st f c fd) (S : FnScope N ps (defScope st)) (len : ∀ vs H Q E, sp vs H Q E → vs.length = ps.length)
    (body : ∀ (A : Around) (outer : List Env) (s : Shared) (H : Hp) (vs : List V) (Q : VK) (E : XK), Room k (A.deeper (envOfC qual (defScope st) s.heap.objs.size f (.ref c))) → sp vs H Q E →
      ∃ t, PSs (cxOf CX0 P w K mg base N qual (defScope st) f (.ref c) A outer s H E).nox (defBody st) t ∧ t { nx := fun _ H' => Q .non H', rt := Q } (start N vs) H) : FnOk P w K mg base CX0 (k + 1) f fd ps sp := by
  obtain ⟨oc, od, kV, doc, pm, an, ct, osl, rfl, lk, hcd⟩ := F.ex
  refine fn_of lk hcd S len fun A outer s H vs Q E hr hsp => ?_
  obtain ⟨t, h, q⟩ := body A outer s H vs Q E hr hsp
  exact ⟨t, h.nox, q⟩
end
end Se
namespace Sl
open PySem PySem.Spec PyProof.Rows L2
theorem filter_take {α : Type} {f : α → Bool} {l : List α} {i : Nat} {x : α} (h : l[i]? = some x) : (l.take (i + 1)).filter f = (l.take i).filter f ++ (if f x = true then [x] else []) := by
  rw [List.take_add_one, h, List.filter_append]
  congr 1
  show List.filter f [x] = _
  cases e : f x with
  | true => rw [List.filter_cons_of_pos e]; rfl
  | false => rw [List.filter_cons_of_neg (by rw [e]; decide)]; rfl
theorem filter_all {α : Type} (f : α → Bool) (l : List α) : decide (V.int ((l.filter (fun x => !f x)).length : Int) = V.int 0) = l.all f := by
  cases e : l.all f with
  | true =>
    have z : l.filter (fun x => !f x) = [] := List.filter_eq_nil_iff.mpr fun x hx h => by
      have := List.all_eq_true.mp e x hx
      rw [this] at h
      cases h
    rw [z]
    rfl
  | false =>
    obtain ⟨x, hx, h⟩ := List.all_eq_false.mp e
    have := List.length_pos_of_mem (List.mem_filter (p := fun x => !f x).mpr ⟨hx, (by cases g : f x with | true => exact absurd g h | false => rfl : (!f x) = true)⟩)
    exact decide_eq_false fun z => by
      have := V.int.inj z
      omega
end Sl
namespace Kc
open PySem PySem.Spec PyProof.Rows L2 GxR Nw Dr Kp Se Od
/-! ### is_claim, is_book: of anything -/
theorem at_int {ks : List Int} {i : Nat} {x : V} (hx : (ks.map V.int)[i]? = some x) : ∃ z, ks[i]? = some z ∧ x = V.int z := by
  rw [List.getElem?_map] at hx
  cases e : ks[i]? with
  | none =>
    rw [e] at hx
    cases hx
  | some z =>
    rw [e] at hx
    exact ⟨z, rfl, (Option.some.inj hx).symm⟩
theorem ints_flat (cs : List Int) : (cs.map V.int).all flatV = true := by
  rw [List.all_eq_true]
  intro v hv
  obtain ⟨z, _, rfl⟩ := List.mem_map.mp hv
  rfl
theorem pg_tupB {X : Cx} {K : PySem.W.Frag} {es : List Expr} {k : Nat} {t : TGs} {n : Nat} {pos : Pos} (hK : X.K = K) (hc : X.calm = true) (h : PGs X es t) (hn : (assignEach es X.env).length = n := by rfl) (hst : (assignEach es X.env).findIdx? (·.1) = none := by rfl) : PG X (.Tuple es k pos) (gTup K n t) := by
  subst hK
  exact pg_tup hc h hn hst
def sayD : PyData → Bool
  | .int n => decide (-8 ≤ n) && decide (n ≤ 8) && decide (n ≠ 0)
  | _ => false
structure Cl0 (ns : List Int) : Prop where
  up : ns.Pairwise (· < ·)
  says : ∀ k ∈ ns, k ≠ 0 ∧ -8 ≤ k ∧ k ≤ 8
  opp : ∀ k ∈ ns, -k ∉ ns
def ClD (d : PyData) : Prop := ∃ ns : List Int, d = .tuple (ns.map PyData.int) ∧ Cl0 ns
def BkD (d : PyData) : Prop := ∃ ds : List PyData, d = .tuple ds ∧ 1 ≤ ds.length ∧ ds.length ≤ 16 ∧ ∀ e ∈ ds, ClD e
theorem say_of {d : PyData} (h : sayD d = true) : ∃ n : Int, d = .int n ∧ n ≠ 0 ∧ -8 ≤ n ∧ n ≤ 8 := by
  cases d with
  | int n =>
    simp only [sayD, Bool.and_eq_true, decide_eq_true_eq] at h
    exact ⟨n, rfl, h.2, h.1.1, h.1.2⟩
  | _ => cases h
theorem say_int {n : Int} (h : n ≠ 0 ∧ -8 ≤ n ∧ n ≤ 8) : sayD (.int n) = true := by
  simp only [sayD, Bool.and_eq_true, decide_eq_true_eq]
  exact ⟨⟨h.2.1, h.2.2⟩, h.1⟩
theorem says_of : ∀ {ds : List PyData}, (∀ d ∈ ds, sayD d = true) → ∃ ns : List Int, ds = ns.map PyData.int ∧ ∀ k ∈ ns, k ≠ 0 ∧ -8 ≤ k ∧ k ≤ 8
  | [], _ => ⟨[], rfl, fun k h => nomatch h⟩
  | d :: r, h => by
    obtain ⟨n, rfl, hn⟩ := say_of (h d List.mem_cons_self)
    obtain ⟨ns, e, hs⟩ := says_of (ds := r) fun x hx => h x (List.mem_cons_of_mem _ hx)
    refine ⟨n :: ns, by rw [e]; rfl, fun k hk => ?_⟩
    rcases List.mem_cons.mp hk with z | z
    · rw [z]
      exact hn
    · exact hs k z
theorem int_inj : ∀ {l m : List Int}, l.map PyData.int = m.map PyData.int → l = m
  | [], [], _ => rfl
  | [], _ :: _, h => by cases h
  | _ :: _, [], h => by cases h
  | a :: l, b :: m, h => by
    obtain ⟨h1, h2⟩ := List.cons.inj h
    rw [PyData.int.inj h1, int_inj h2]
theorem od_is {f : Addr → Prop} {H : Hp} : ∀ {vs : List V} {ns : List Int}, OdAll f H vs (ns.map PyData.int) → vs = ns.map V.int
  | [], [], _ => rfl
  | [], _ :: _, h => by cases h
  | _ :: _, [], h => by cases h
  | v :: vs, n :: ns, h => by
    cases h with
    | cons h1 h2 =>
      cases h1
      rw [od_is h2]
      rfl
theorem no_say {ds : List PyData} {d : PyData} (hd : d ∈ ds) (h : sayD d = false) : ¬ ClD (.tuple ds) := fun ⟨ns, e, c⟩ => by
  rw [PyData.tuple.inj e] at hd
  obtain ⟨n, hn, rfl⟩ := List.mem_map.mp hd
  rw [say_int (c.says n hn)] at h
  cases h
theorem up_of : ∀ {ns : List Int}, (∀ (j : Nat) (x y : Int), ns[j]? = some x → (ns.drop 1)[j]? = some y → x < y) → ns.Pairwise (· < ·)
  | [], _ => .nil
  | [a], _ => .cons (fun _ h => nomatch h) .nil
  | a :: b :: r, h => by
    have ih := up_of (ns := b :: r) fun j x y hx hy => h (j + 1) x y (by simpa using hx) (by simpa using hy)
    have hab : a < b := h 0 a b rfl rfl
    refine .cons (fun c hc => ?_) ih
    rcases List.mem_cons.mp hc with z | z
    · rw [z]
      exact hab
    · exact Int.lt_trans hab (List.rel_of_pairwise_cons ih z)
theorem up_at {ns : List Int} (h : ns.Pairwise (· < ·)) {i : Nat} {x y : Int} (hx : ns[i]? = some x) (hy : (ns.drop 1)[i]? = some y) : x < y := by
  rw [List.getElem?_drop] at hy
  obtain ⟨l1, e1⟩ := List.getElem?_eq_some_iff.mp hx
  obtain ⟨l2, e2⟩ := List.getElem?_eq_some_iff.mp hy
  rw [← e1, ← e2]
  exact List.pairwise_iff_getElem.mp h i (1 + i) l1 l2 (by omega)
theorem cut_tail (ns : List Int) : cutV (ns.map V.int) (some 1) none = (ns.drop 1).map V.int := by
  unfold cutV
  have e : (1 : Int) = ((1 : Nat) : Int) := rfl
  rw [HT.sIx_none, e, HT.sIx_nat, ← List.map_drop]
  cases ns with
  | nil => rfl
  | cons x r =>
    rw [Nat.min_eq_left (by simp)]
    exact List.take_of_length_le (by simp)
theorem in_ints (k : Int) : ∀ cs : List Int, inV (.int k) (cs.map V.int) = true ↔ k ∈ cs
  | [] => by
    constructor
    · intro h
      cases h
    · intro h
      cases h
  | c :: r => by
    have ih := in_ints k r
    show (eqV (.int c) (.int k) || inV (.int k) (r.map V.int)) = true ↔ _
    rw [Bool.or_eq_true, ih, List.mem_cons]
    have e : eqV (.int c) (.int k) = true ↔ k = c := by
      show (c == k) = true ↔ k = c
      rw [beq_iff_eq]
      exact eq_comm
    rw [e]
structure Zi (mg : Str → Option Value) : Prop where
  z_all : mg "all" = none
  z_any : mg "any" = none
  z_zip : mg "zip" = none
  z_isinstance : mg "isinstance" = none
  z_tuple : mg "tuple" = none
  z_int : mg "int" = none
  z_bool : mg "bool" = none
  z_len : mg "len" = none
section
variable {P : Program} {w : World} {K : PySem.W.Frag} {mg : Str → Option Value} {base : Heap}
abbrev sWhp : Stmt := topS 3
theorem scWhp : FnScope ["thing"] ["thing"] (defScope sWhp) := ⟨rfl, rfl, rfl, by decide +kernel, rfl, by decide +kernel, by decide +kernel⟩
/-- is_whole(thing): of anything -/
def spWhG : Sp := fun vs H Q _ => ∃ (f0 : Addr → Prop) (v : V) (d : PyData), vs = [v] ∧ OdV f0 H v d ∧ Q (.bl (whD d)) H
theorem ok_whp {f : Addr} {fd : FuncData} {k : Nat} (F : Fun K "is_whole" "is_whole" sWhp f fd) (T : Zi mg) : FnOk P w K mg base CX0 (k + 1) f fd ["thing"] spWhG := by
  refine F.ok scWhp (fun vs H Q E h => ?_) (fun cdv A outer s H vs Q E hr h => ?_)
  · obtain ⟨f0, v, d, rfl, _⟩ := h
    rfl
  · obtain ⟨f0, v, d, rfl, hv, q⟩ := h
    refine ⟨_, (pss_one (ps_ret (pe_and (pe_callB call_isi (by rfl) T.z_isinstance (by decide +kernel) (pa_cons (pv 0) (pa_cons (pe_bltn (v := .ty "int") (u := .type "int") (by rfl) T.z_int (by decide +kernel) rfl) pa_nil))) (pe_one (pe_not (pe_callB call_isi (by rfl) T.z_isinstance (by decide +kernel) (pa_cons (pv 0) (pa_cons (pe_bltn (v := .ty "bool") (u := .type "bool") (by rfl) T.z_bool (by decide +kernel) rfl) pa_nil)))))))), ?_⟩
    have t := hv.ty (K := K)
    cases d with
    | int n => exact ⟨_, rfl, v, .ty "int", .type "int", .type "int", true, rfl, .ty _, t, kit_ty (by decide +kernel), _, rfl, _, rfl, v, .ty "bool", .type "int", .type "bool", false, rfl, .ty _, t, kit_ty (by decide +kernel), _, rfl, q⟩
    | bool b => exact ⟨_, rfl, v, .ty "int", .type "bool", .type "int", true, rfl, .ty _, t, kit_ty (by decide +kernel), _, rfl, _, rfl, v, .ty "bool", .type "bool", .type "bool", true, rfl, .ty _, t, kit_ty (by decide +kernel), _, rfl, q⟩
    | none => exact ⟨_, rfl, v, .ty "int", .type "NoneType", .type "int", false, rfl, .ty _, t, kit_ty (by decide +kernel), _, rfl, q⟩
    | str x => exact ⟨_, rfl, v, .ty "int", .type "str", .type "int", false, rfl, .ty _, t, kit_ty (by decide +kernel), _, rfl, q⟩
    | list x => exact ⟨_, rfl, v, .ty "int", .type "list", .type "int", false, rfl, .ty _, t, kit_ty (by decide +kernel), _, rfl, q⟩
    | tuple x => exact ⟨_, rfl, v, .ty "int", .type "tuple", .type "int", false, rfl, .ty _, t, kit_ty (by decide +kernel), _, rfl, q⟩
    | dict x => cases hv
abbrev sSay : Stmt := topS 4
theorem scSay : FnScope ["thing"] ["thing"] (defScope sSay) := ⟨rfl, rfl, rfl, by decide +kernel, rfl, by decide +kernel, by decide +kernel⟩
def spSyG : Sp := fun vs H Q _ => ∃ (f0 : Addr → Prop) (v : V) (d : PyData), vs = [v] ∧ OdV f0 H v d ∧ Q (.bl (sayD d)) H
theorem ok_say {f fW : Addr} {fd fdW : FuncData} {k : Nat} {tk : Tok} (F : Fun K "is_say" "is_say" sSay f fd) (M8 : mg "MOST_THINGS" = some (.int 8 tk)) (FW : Fun K "is_whole" "is_whole" sWhp fW fdW) (bW : Binds K fdW ["thing"] []) (gW : mg "is_whole" = some (.ref fW)) (GW : FnOk P w K mg base CX0 1 fW fdW ["thing"] spWhG) :
    FnOk P w K mg base CX0 (k + 2) f fd ["thing"] spSyG := by
  refine F.ok scSay (fun vs H Q E h => ?_) (fun cdv A outer s H vs Q E hr h => ?_)
  · obtain ⟨f0, v, d, rfl, _⟩ := h
    rfl
  · obtain ⟨f0, v, d, rfl, hv, q⟩ := h
    have hr1 : Room 1 _ := hr.mono (by omega)
    refine ⟨_, (pss_one (ps_ret (pe_and (pe_call GW hr1 (by rfl) gW FW.kp bW .nil pass0 (pa_cons (pv 0) pa_nil)) (pe_and (pe_chain op_le op_le (pe_un un_neg (pe_glob (v := .int 8) rfl M8 ⟨_, rfl⟩)) (pv 0) (pe_glob (v := .int 8) rfl M8 ⟨_, rfl⟩)) (pe_one (pe_cmpR op_ne (pv 0) pe_int (nomark _))))))), ?_⟩
    cases d with
    | int n =>
      cases id hv
      refine ⟨_, rfl, f0, _, .int n, rfl, hv, true, rfl, ?_⟩
      refine ⟨_, rfl, _, rfl, _, _, rfl, rfl, decide (-8 ≤ n), rfl, ?_⟩
      by_cases h1 : -8 ≤ n
      · rw [decide_eq_true h1]
        refine ⟨_, _, rfl, rfl, decide (n ≤ 8), rfl, ?_⟩
        by_cases h2 : n ≤ 8
        · rw [decide_eq_true h2]
          refine ⟨_, rfl, rfl, ?_⟩
          have e : (!decide (V.int n = V.int 0)) = sayD (.int n) := by
            simp [sayD, h1, h2]
          show Q (.bl (!decide (V.int n = V.int 0))) H
          rw [e]
          exact q
        · rw [decide_eq_false h2]
          have e : sayD (.int n) = false := by simp [sayD, h2]
          rw [e] at q
          exact q
      · rw [decide_eq_false h1]
        have e : sayD (.int n) = false := by simp [sayD, h1]
        rw [e] at q
        exact ⟨false, rfl, q⟩
    | bool b => exact ⟨_, rfl, f0, v, _, rfl, hv, false, rfl, q⟩
    | none => exact ⟨_, rfl, f0, v, _, rfl, hv, false, rfl, q⟩
    | str x => exact ⟨_, rfl, f0, v, _, rfl, hv, false, rfl, q⟩
    | list x => exact ⟨_, rfl, f0, v, _, rfl, hv, false, rfl, q⟩
    | tuple x => exact ⟨_, rfl, f0, v, _, rfl, hv, false, rfl, q⟩
    | dict x => cases hv
abbrev sRis : Stmt := topS 5
abbrev nRis : List Str := ["says", "one", "other"]
theorem scRis : FnScope nRis ["says"] (defScope sRis) := ⟨rfl, rfl, rfl, by decide +kernel, rfl, by decide +kernel, by decide +kernel⟩
/-- all(..) over zip of two tuples -/
theorem aa_zipT {K : PySem.W.Frag} {a b : Addr} {xs ys : List V} {g : TG} {tt : TT} {te : TE} {vs : List Nat} {σ : L2.St} {H1 : Hp} {stopb : Bool} {Q : VK} (hy : ys.length ≤ xs.length) (Pv : Nat → Hp → Prop) (h0 : Pv 0 H1) (hl : ∀ i H, Pv i H → SqT K H a xs ∧ SqT K H b ys)
    (hs : ∀ i x y T H, xs[i]? = some x → ys[i]? = some y → Pv i H → H T = none → g (.ref T) (wipe σ vs) (upd H T (.tup [x, y])) fun σ2 H2 => wipe σ2 vs = wipe σ vs ∧ tt σ2 H2 fun b H3 => if b = true then te σ2 H3 fun y H4 => (y = .bl stopb ∧ Q (.bl stopb) H4) ∨ (y = .bl (!stopb) ∧ Pv (i + 1) H4) else Pv (i + 1) H3) (hd : ∀ H, Pv ys.length H → Q (.bl (!stopb)) H) :
    ∃ W : Nat → Nat → Hp → Prop, (∃ m, W 0 m H1) ∧ ∀ i m H, W i m H → ((RZ.ItzT K a b).stop i H ∧ Q (.bl (!stopb)) H) ∨ ((RZ.ItzT K a b).go i H ∧ ∃ Nx : Hp → Prop, (∀ H', Nx H' → ∃ m', m' < m ∧ W (i + 1) m' H') ∧ ∀ x H', (RZ.ItzT K a b).yld i H x H' → g x (wipe σ vs) H' fun σ2 H2 => wipe σ2 vs = wipe σ vs ∧ tt σ2 H2 fun b H3 =>
      if b = true then te σ2 H3 fun y H4 => (y = .bl stopb ∧ Q (.bl stopb) H4) ∨ (y = .bl (!stopb) ∧ Nx H4) else Nx H3) := by
  refine ⟨fun i m H => i + m = ys.length ∧ Pv i H, ⟨ys.length, Nat.zero_add _, h0⟩, fun i m H ⟨e, p⟩ => ?_⟩
  obtain ⟨sa, sb⟩ := hl i H p
  cases m with
  | zero =>
    have ei : i = ys.length := by omega
    subst ei
    exact .inl ⟨⟨xs, ys, sa, sb, .inr (Nat.le_refl _)⟩, hd H p⟩
  | succ m =>
    have lt : i < ys.length := by omega
    have lx : i < xs.length := by omega
    refine .inr ⟨⟨xs, ys, xs[i], ys[i], sa, sb, List.getElem?_eq_getElem lx, List.getElem?_eq_getElem lt⟩, Pv (i + 1), fun H' q => ⟨m, Nat.lt_succ_self m, by omega, q⟩, fun v H' z => ?_⟩
    obtain ⟨T, x, y, rfl, nT, rfl, hx, hy'⟩ := z
    exact hs i x y T H (hx xs sa) (hy' ys sb) p nT
def spRiG (Pr : Addr) : Sp := fun vs H Q _ => ∃ (v : V) (ns : List Int), vs = [v] ∧ TupI H v ns ∧ TabG H Pr ∧ ∀ b H', (b = true ↔ ns.Pairwise (· < ·)) → Ke Nof H H' → Q (.bl b) H'
theorem ok_ris {f c Pr : Addr} {fd : FuncData} {k : Nat} (F : FunC K "is_rising" "is_rising" sRis f c fd) (T : Zi mg) (TB : TabB base mg c Pr) : FnOk P w K mg base CX0 (k + 3) f fd ["says"] (spRiG Pr) := by
  refine F.ok scRis (fun vs H Q E h => ?_) (fun A outer s H vs Q E hr h => ?_)
  · obtain ⟨v, ns, rfl, _⟩ := h
    rfl
  · obtain ⟨v, ns, rfl, ⟨a, rfl, ha⟩, tg, q⟩ := h
    refine ⟨_, (pss_one (ps_ret (Gx.pe_all hr (by rfl) T.z_all rfl scRis.nd TB rfl (RZ.pi_zipA (by rfl) T.z_zip (pa_cons (pv 0) (pa_cons (pe_slice sl_tupN (pv 0) (po_some pe_int) po_none) pa_nil))) (own := [("one", 1), ("other", 2)]) (tt := tYes) (blkOk_by (N := nRis) (sc := defScope sRis) (by decide +kernel)) ⟨rfl, by decide +kernel, rfl⟩ (fun _ _ _ _ _ _ _ => pg_tupB (K := K) (n := 2) rfl rfl (pgs_cons (pg_name (i := 1) scRis.nd rfl (.inl rfl)) (pgs_cons (pg_name (i := 2) scRis.nd rfl (.inl rfl)) pgs_nil))) (fun _ _ _ _ _ _ _ => pts_nil) (fun _ _ _ _ _ _ _ => (pe_cmpR op_lt (pv 1) (pv 2) (nomark _)))))), ?_⟩
    refine ⟨_, rfl, _, rfl, _, rfl, a, _, rfl, ha, fun p H1 s1 hp => ?_⟩
    rw [cut_tail] at hp
    have k1 : Ke Nof H H1 := .same s1
    have tg1 := k1.tabs _ tg
    refine ⟨a, p, _, _, rfl, .inr ⟨.of (s1 _ _ ha), .of hp, tg1, fun H2 tb => ?_⟩⟩
    have k2 : Ke Nof H1 H2 := .tabbed tg1 tb
    refine aa_zipT (xs := ns.map V.int) (ys := (ns.drop 1).map V.int) (by rw [List.length_map, List.length_map, List.length_drop]; omega) (Pv := fun i H' => Ke Nof H1 H' ∧ ∀ (j : Nat) (x y : Int), j < i → ns[j]? = some x → (ns.drop 1)[j]? = some y → x < y) ⟨k2, fun j x y h => absurd h (Nat.not_lt_zero _)⟩ (fun i H' k => ⟨.of (k.1.tups _ _ (s1 _ _ ha)), .of (k.1.tups _ _ hp)⟩) ?_ ?_
    · rintro i x y T' H3 hx hy ⟨k3, pv⟩ nT
      obtain ⟨z, hz, rfl⟩ := at_int hx
      obtain ⟨z2, hz2, rfl⟩ := at_int hy
      refine ⟨T', _, rfl, .of upd_same, rfl, _, _, rfl, _, _, rfl, rfl, rfl, ?_⟩
      have k4 : Ke Nof H1 (upd H3 T' (.tup [.int z, .int z2])) := k3.trans (.same (same_new nT))
      refine ⟨_, rfl, _, rfl, _, _, rfl, rfl, ?_⟩
      by_cases lt : z < z2
      · refine .inr ⟨?_, k4, fun j x y hj h1 h2 => ?_⟩
        · show V.bl (decide (z < z2)) = V.bl true
          rw [decide_eq_true lt]
        · rcases Nat.lt_or_ge j i with g | g
          · exact pv j x y g h1 h2
          · have ej : j = i := by omega
            subst ej
            rw [hz] at h1
            rw [hz2] at h2
            cases h1
            cases h2
            exact lt
      · refine .inl ⟨?_, q _ _ ⟨fun h => (nomatch h), fun h => absurd (up_at h hz hz2) lt⟩ (k1.trans k4)⟩
        show V.bl (decide (z < z2)) = V.bl false
        rw [decide_eq_false lt]
    · rintro H3 ⟨k3, pv⟩
      refine q _ _ ⟨fun _ => up_of fun j x y h1 h2 => pv j x y ?_ h1 h2, fun _ => rfl⟩ (k1.trans k3)
      rw [List.length_map]
      exact (List.getElem?_eq_some_iff.mp h2).1
abbrev sHop : Stmt := topS 6
abbrev nHop : List Str := ["says", "say"]
theorem scHop : FnScope nHop ["says"] (defScope sHop) := ⟨rfl, rfl, rfl, by decide +kernel, rfl, by decide +kernel, by decide +kernel⟩
def spHoG (Po : Addr) : Sp := fun vs H Q _ => ∃ (v : V) (ns : List Int), vs = [v] ∧ TupI H v ns ∧ TabG H Po ∧ ∀ b H', (b = true ↔ ∃ k ∈ ns, 0 < k ∧ -k ∈ ns) → Ke Nof H H' → Q (.bl b) H'
theorem ok_hpt {f c Po : Addr} {fd : FuncData} {k : Nat} (F : FunC K "has_opposites" "has_opposites" sHop f c fd) (T : Zi mg) (TB : TabB base mg c Po) : FnOk P w K mg base CX0 (k + 3) f fd ["says"] (spHoG Po) := by
  refine F.ok scHop (fun vs H Q E h => ?_) (fun A outer s H vs Q E hr h => ?_)
  · obtain ⟨v, ns, rfl, _⟩ := h
    rfl
  · obtain ⟨v, ns, rfl, ⟨a, rfl, ha⟩, tg, q⟩ := h
    refine ⟨_, (pss_one (ps_ret (Gx.pe_any hr (by rfl) T.z_any rfl scHop.nd TB rfl (pi_tup (pv 0)) (own := [("say", 1)]) (g := gName 1) (blkOk_by (N := nHop) (sc := defScope sHop) (by decide +kernel)) ⟨rfl, by decide +kernel, rfl⟩ (fun _ _ _ _ _ _ _ => pg_name (i := 1) scHop.nd rfl (.inl rfl)) (fun _ _ _ _ _ _ _ => (pts_one (pt_cmpR op_gt (pv 1) pe_int (nomark _)))) (fun _ _ _ _ _ _ _ => (pe_cmpR (op_in_seqB (K := K) rfl) (pe_un un_neg (pv 1)) (pv 0) (by rfl)))))), ?_⟩
    refine ⟨_, rfl, a, rfl, ⟨_, .of ha⟩, tg, fun H1 tb => ?_⟩
    have k1 : Ke Nof H H1 := .tabbed tg tb
    refine Gx.aa_tup (xs := ns.map V.int) (Pv := fun i H' => Ke Nof H H' ∧ ∀ (j : Nat) (x : Int), j < i → ns[j]? = some x → ¬ (0 < x ∧ -x ∈ ns)) ⟨k1, fun j x h => absurd h (Nat.not_lt_zero _)⟩ (fun i H' _ p => .of (p.1.tups _ _ ha)) ?_ ?_
    · rintro i x H' hx ⟨k2, pv⟩
      obtain ⟨z, hz, rfl⟩ := at_int hx
      have more : ¬ (0 < z ∧ -z ∈ ns) → ∀ (j : Nat) (x : Int), j < i + 1 → ns[j]? = some x → ¬ (0 < x ∧ -x ∈ ns) := fun nz j x hj h1 => by
        rcases Nat.lt_or_ge j i with g | g
        · exact pv j x g h1
        · have ej : j = i := by omega
          subst ej
          rw [hz] at h1
          cases h1
          exact nz
      refine ⟨rfl, _, rfl, _, _, rfl, rfl, decide (z > 0), rfl, ?_⟩
      by_cases z0 : 0 < z
      · rw [decide_eq_true (show z > 0 from z0)]
        refine ⟨_, rfl, _, rfl, _, rfl, a, _, rfl, .inr (.of (k2.tups _ _ ha)), rfl, ints_flat ns, ?_⟩
        cases e : inV (.int (-z)) (ns.map V.int) with
        | false =>
          refine .inr ⟨?_, k2, more fun h => ?_⟩
          · rfl
          · rw [(in_ints _ _).mpr h.2] at e
            cases e
        | true =>
          exact .inl ⟨rfl, q _ _ ⟨fun _ => ⟨z, List.mem_of_getElem? hz, z0, (in_ints _ _).mp e⟩, fun _ => rfl⟩ k2⟩
      · rw [decide_eq_false (show ¬ z > 0 from z0)]
        exact ⟨k2, more fun h => z0 h.1⟩
    · rintro H' ⟨k2, pv⟩
      rw [List.length_map] at pv
      refine q _ _ ⟨fun h => (nomatch h), fun h => ?_⟩ k2
      obtain ⟨k, hk, h⟩ := h
      obtain ⟨j, hj⟩ := List.getElem?_of_mem hk
      exact absurd h (pv j k (List.getElem?_eq_some_iff.mp hj).1 hj)
abbrev sIcl : Stmt := topS 7
abbrev nIcl : List Str := ["thing", "say"]
theorem scIcl : FnScope nIcl ["thing"] (defScope sIcl) := ⟨rfl, rfl, rfl, by decide +kernel, rfl, by decide +kernel, by decide +kernel⟩
def spClG (Pc Pr Po : Addr) : Sp := fun vs H Q _ => ∃ (f0 : Addr → Prop) (v : V) (d : PyData), vs = [v] ∧ OdV f0 H v d ∧ (∀ ds, d = .tuple ds → ds.length ≤ 60) ∧ TabG H Pc ∧ TabG H Pr ∧ TabG H Po ∧ ∀ b H', (b = true ↔ ClD d) → Ke Nof H H' → Q (.bl b) H'
theorem no_cl {d : PyData} (h : ∀ ds, d ≠ .tuple ds) : (false = true ↔ ClD d) := ⟨fun z => (nomatch z), fun ⟨_, e, _⟩ => absurd e (h _)⟩
theorem opp_of {ns : List Int} (h : ∀ k ∈ ns, k ≠ 0 ∧ -8 ≤ k ∧ k ≤ 8) : (∃ k ∈ ns, 0 < k ∧ -k ∈ ns) ↔ ¬ ∀ k ∈ ns, -k ∉ ns := by
  constructor
  · rintro ⟨k, hk, _, h2⟩ z
    exact z k hk h2
  · intro z
    apply Classical.byContradiction
    intro n
    refine z fun k hk hn => ?_
    obtain ⟨k0, _⟩ := h k hk
    rcases Int.lt_or_gt_of_ne k0 with g | g
    · exact n ⟨-k, hn, by omega, by rw [Int.neg_neg]; exact hk⟩
    · exact n ⟨k, hk, g, hn⟩
theorem ok_icl {f c Pc Pr Po fS fR fH : Addr} {fd fdS fdR fdH : FuncData} {k : Nat} (F : FunC K "is_claim" "is_claim" sIcl f c fd) (T : Zi mg) (TB : TabB base mg c Pc) (FS : Fun K "is_say" "is_say" sSay fS fdS) (bS : Binds K fdS ["thing"] []) (gS : mg "is_say" = some (.ref fS)) (GS : FnOk P w K mg base CX0 2 fS fdS ["thing"] spSyG)
    (kpR : PySem.W.keepIn K (.ref fR) = true) (bR : Binds K fdR ["says"] []) (gR : mg "is_rising" = some (.ref fR)) (GR : FnOk P w K mg base CX0 3 fR fdR ["says"] (spRiG Pr))
    (kpH : PySem.W.keepIn K (.ref fH) = true) (bH : Binds K fdH ["says"] []) (gH : mg "has_opposites" = some (.ref fH)) (GH : FnOk P w K mg base CX0 3 fH fdH ["says"] (spHoG Po)) :
    FnOk P w K mg base CX0 (k + 5) f fd ["thing"] (spClG Pc Pr Po) := by
  refine F.ok scIcl (fun vs H Q E h => ?_) (fun A outer s H vs Q E hr h => ?_)
  · obtain ⟨f0, v, d, rfl, _⟩ := h
    rfl
  · obtain ⟨f0, v, d, rfl, hv, _, t1, t2, t3, q⟩ := h
    have hr3 : Room (2 + 1) _ := hr.mono (by omega)
    have hr4 : Room 4 _ := hr.mono (by omega)
    refine ⟨_, (pss_cons (ps_if (pt_not (pt_val (pe_callB call_isi (by rfl) T.z_isinstance (by decide +kernel) (pa_cons (pv 0) (pa_cons (pe_bltn (v := .ty "tuple") (u := .type "tuple") (by rfl) T.z_tuple (by decide +kernel) rfl) pa_nil))))) (pss_one (ps_ret pe_bl)) pss_nil)
      (pss_cons (ps_if (pt_not (pt_val (pe_cl (Gx.pe_all hr4 (by rfl) T.z_all rfl scIcl.nd TB rfl (pi_tup (pv 0)) (own := [("say", 1)]) (g := gName 1) (tt := tYes) (blkOk_by (N := nIcl) (sc := defScope sIcl) (by decide +kernel)) ⟨rfl, by decide +kernel, rfl⟩ (fun _ _ _ _ _ _ _ => pg_name (i := 1) scIcl.nd rfl (.inl rfl)) (fun _ _ _ _ _ _ _ => pts_nil) (fun _ _ _ _ _ _ _ => pe_call GS (Gx.room_gen hr3) (by rfl) gS FS.kp bS .nil pass0 (pa_cons (pv 1) pa_nil)))))) (pss_one (ps_ret pe_bl)) pss_nil)
      (pss_one (ps_ret (pe_and (pe_call GR hr3 (by rfl) gR kpR bR .nil pass0 (pa_cons (pv 0) pa_nil)) (pe_one (pe_not (pe_call GH hr3 (by rfl) gH kpH bH .nil pass0 (pa_cons (pv 0) pa_nil))))))))), ?_⟩
    have t := hv.ty (K := K)
    cases d with
    | int n => exact ⟨_, rfl, v, .ty "tuple", .type "int", .type "tuple", false, rfl, .ty _, t, kit_ty (by decide +kernel), _, rfl, q _ _ (no_cl fun _ => nofun) (.refl _ _)⟩
    | bool b => exact ⟨_, rfl, v, .ty "tuple", .type "bool", .type "tuple", false, rfl, .ty _, t, kit_ty (by decide +kernel), _, rfl, q _ _ (no_cl fun _ => nofun) (.refl _ _)⟩
    | none => exact ⟨_, rfl, v, .ty "tuple", .type "NoneType", .type "tuple", false, rfl, .ty _, t, kit_ty (by decide +kernel), _, rfl, q _ _ (no_cl fun _ => nofun) (.refl _ _)⟩
    | str x => exact ⟨_, rfl, v, .ty "tuple", .type "str", .type "tuple", false, rfl, .ty _, t, kit_ty (by decide +kernel), _, rfl, q _ _ (no_cl fun _ => nofun) (.refl _ _)⟩
    | list x => exact ⟨_, rfl, v, .ty "tuple", .type "list", .type "tuple", false, rfl, .ty _, t, kit_ty (by decide +kernel), _, rfl, q _ _ (no_cl fun _ => nofun) (.refl _ _)⟩
    | dict x => cases hv
    | tuple ds =>
      cases id hv with
      | tup ha od =>
        rename_i a xs
        refine ⟨_, rfl, .ref a, .ty "tuple", .type "tuple", .type "tuple", true, rfl, .ty _, t, kit_ty (by decide +kernel), _, rfl, ?_⟩
        refine ⟨fun v H' => Ke Nof H H' ∧ ((v = .bl true ∧ ∀ d ∈ ds, sayD d = true) ∨ (v = .bl false ∧ ∃ d ∈ ds, sayD d = false)), fun v H2 ⟨k2, w⟩ => ?_, _, rfl, a, rfl, ⟨_, .of ha⟩, t1, fun H1 tb => ?_⟩
        · rcases w with ⟨rfl, al⟩ | ⟨rfl, d, hd, no⟩
          · obtain ⟨ns, rfl, sy⟩ := says_of al
            have ex := od_is od
            subst ex
            have tv : TupI H2 (.ref a) ns := ⟨a, rfl, k2.tups _ _ ha⟩
            refine ⟨true, rfl, ?_⟩
            refine ⟨_, rfl, .ref a, ns, rfl, tv, k2.tabs _ t2, fun b1 H3 hb1 k3 => ⟨b1, rfl, ?_⟩⟩
            cases b1 with
            | false =>
              refine q _ _ ⟨fun z => (nomatch z), fun z => ?_⟩ (k2.trans k3)
              obtain ⟨ms, e, c⟩ := z
              rw [← int_inj (PyData.tuple.inj e)] at c
              exact hb1.mpr c.up
            | true =>
              have k23 := k2.trans k3
              refine ⟨_, rfl, .ref a, ns, rfl, tv.ke k3, k23.tabs _ t3, fun b2 H4 hb2 k4 => ⟨_, rfl, ?_⟩⟩
              refine q _ _ ?_ (k23.trans k4)
              rw [opp_of sy] at hb2
              cases b2 with
              | true =>
                refine ⟨fun z => (nomatch z), fun z => ?_⟩
                obtain ⟨ms, e, c⟩ := z
                rw [← int_inj (PyData.tuple.inj e)] at c
                exact absurd c.opp (hb2.mp rfl)
              | false =>
                refine ⟨fun _ => ⟨ns, rfl, hb1.mp rfl, sy, ?_⟩, fun _ => rfl⟩
                apply Classical.byContradiction
                intro z
                cases hb2.mpr z
          · exact ⟨false, rfl, q _ _ ⟨fun z => (nomatch z), fun z => absurd z (no_say hd no)⟩ k2⟩
        have k1 : Ke Nof H H1 := .tabbed t1 tb
        refine Gx.aa_tup (xs := xs) (stopb := false) (Q := fun v H' => Ke Nof H H' ∧ ((v = .bl true ∧ ∀ d ∈ ds, sayD d = true) ∨ (v = .bl false ∧ ∃ d ∈ ds, sayD d = false))) (Pv := fun i H' => Ke Nof H H' ∧ ∀ (j : Nat) (d : PyData), j < i → ds[j]? = some d → sayD d = true) ⟨k1, fun j d h => absurd h (Nat.not_lt_zero _)⟩ (fun i H' _ p => .of (p.1.tups _ _ ha)) ?_ ?_
        · rintro i x H' hx ⟨k2, pv⟩
          obtain ⟨d, hd, ox⟩ := (od.ke k2.all).at hx
          refine ⟨rfl, _, rfl, f0, x, d, rfl, ox, ?_⟩
          cases e : sayD d with
          | false => exact .inl ⟨rfl, k2, .inr ⟨rfl, d, List.mem_of_getElem? hd, e⟩⟩
          | true =>
            refine .inr ⟨rfl, k2, fun j d' hj h1 => ?_⟩
            rcases Nat.lt_or_ge j i with g | g
            · exact pv j d' g h1
            · have ej : j = i := by omega
              subst ej
              rw [hd] at h1
              cases h1
              exact e
        · rintro H' ⟨k2, pv⟩
          refine ⟨k2, .inl ⟨rfl, fun d hd => ?_⟩⟩
          obtain ⟨j, hj⟩ := List.getElem?_of_mem hd
          exact pv j d (by rw [od.len]; exact (List.getElem?_eq_some_iff.mp hj).1) hj
end
end Kc
namespace Tc
open PySem PySem.Spec PyProof.Rows L2 GxR Nw Dr Kp Tw Kc
/-! ### what may follow in a claim -/
theorem cl0_nil : Cl0 [] := ⟨.nil, fun k h => (nomatch h), fun k h => (nomatch h)⟩
theorem cl0_snoc {l : List Int} {i : Int} (h : Cl0 l) : Cl0 (l ++ [i]) ↔ InR i ∧ (∀ j ∈ l, j < i) ∧ -i ∉ l := by
  constructor
  · intro g
    obtain ⟨a1, a2, a3⟩ := g.says i (List.mem_append_right _ (List.mem_singleton_self _))
    have up := g.up
    rw [List.pairwise_append] at up
    exact ⟨⟨a2, a3, a1⟩, fun j hj => up.2.2 j hj i (List.mem_singleton_self _), fun z => g.opp i (List.mem_append_right _ (List.mem_singleton_self _)) (List.mem_append_left _ z)⟩
  · rintro ⟨⟨a1, a2, a3⟩, b, c⟩
    refine ⟨?_, fun k hk => ?_, fun k hk z => ?_⟩
    · rw [List.pairwise_append]
      refine ⟨h.up, by simp, fun x hx y hy => ?_⟩
      rw [List.mem_singleton.mp hy]
      exact b x hx
    · rcases List.mem_append.mp hk with m | m
      · exact h.says k m
      · rw [List.mem_singleton.mp m]
        exact ⟨a3, a1, a2⟩
    · rcases List.mem_append.mp hk with m | m
      · rcases List.mem_append.mp z with y | y
        · exact h.opp k m y
        · have e := List.mem_singleton.mp y
          exact c (by rw [← e, Int.neg_neg]; exact m)
      · have e := List.mem_singleton.mp m
        subst e
        rcases List.mem_append.mp z with y | y
        · exact c y
        · have e := List.mem_singleton.mp y
          omega
theorem Creach.cl {ws : List Str} : ∀ {n : Nat} {cls : List (List Int)} {s : Cs}, Creach ws n cls s → cls.length ≤ 15 ∧ (∀ c ∈ cls, Cl0 c) ∧ ∀ l, csL s = some l → Cl0 l
  | 0, _, _, .zero => ⟨Nat.zero_le _, fun c h => (nomatch h), fun l h => (nomatch h)⟩
  | n + 1, _, _, .succ h e st => by
    obtain ⟨h1, h2, h3⟩ := Creach.cl h
    cases st with
    | none => exact ⟨h1, h2, fun l e => by rw [← Option.some.inj e]; exact cl0_nil⟩
    | first i hi => exact ⟨h1, h2, fun l e => by rw [← Option.some.inj e]; exact (cl0_snoc cl0_nil).mpr ⟨hi, fun j hj => (nomatch hj), fun z => (nomatch z)⟩⟩
    | stroke0 hl =>
      refine ⟨by rw [List.length_append, List.length_singleton]; omega, fun c hc => ?_, fun l e => nomatch e⟩
      rcases List.mem_append.mp hc with m | m
      · exact h2 c m
      · rw [List.mem_singleton.mp m]
        exact cl0_nil
    | stroke l hl =>
      refine ⟨by rw [List.length_append, List.length_singleton]; omega, fun c hc => ?_, fun l e => nomatch e⟩
      rcases List.mem_append.mp hc with m | m
      · exact h2 c m
      · rw [List.mem_singleton.mp m]
        exact h3 l rfl
    | next l i hi hl ho => exact ⟨h1, h2, fun l' e => by rw [← Option.some.inj e]; exact (cl0_snoc (h3 l rfl)).mpr ⟨hi, hl, ho⟩⟩
/-- one more say: just where is_claim says so -/
theorem next_iff {cls : List (List Int)} {l : List Int} {x : Str} (h : Cl0 l) (ne : l ≠ []) : (∃ i, Cl0 (l ++ [i]) ∧ x = numT i) ↔ (∃ c t, Cstep cls (.som l) x c t) ∧ x ≠ "/" := by
  constructor
  · rintro ⟨i, hi, rfl⟩
    obtain ⟨a, b, c⟩ := (cl0_snoc h).mp hi
    exact ⟨⟨_, _, .next l i a b c⟩, num_str a⟩
  · rintro ⟨⟨c, t, st⟩, nx⟩
    cases st with
    | stroke _ _ => exact absurd rfl nx
    | next _ i hi hl ho => exact ⟨i, (cl0_snoc h).mpr ⟨hi, hl, ho⟩, rfl⟩
theorem first_iff {cls : List (List Int)} {x : Str} : (∃ i, Cl0 ([] ++ [i]) ∧ x = numT i) ↔ (∃ c t, Cstep cls .no x c t) ∧ x ≠ "none" := by
  constructor
  · rintro ⟨i, hi, rfl⟩
    obtain ⟨a, _, _⟩ := (cl0_snoc cl0_nil).mp hi
    exact ⟨⟨_, _, .first i a⟩, num_none a⟩
  · rintro ⟨⟨c, t, st⟩, nx⟩
    cases st with
    | none => exact absurd rfl nx
    | first i hi => exact ⟨i, (cl0_snoc cl0_nil).mpr ⟨hi, fun j hj => (nomatch hj), fun z => (nomatch z)⟩, rfl⟩
end Tc
namespace Tc
open PySem PySem.Spec PyProof.Rows L2 GxR Nw Dr Kp Ev1 Tw Kc Od
theorem od_ints {f : Addr → Prop} {H : Hp} : ∀ l : List Int, OdAll f H (l.map V.int) (l.map PyData.int)
  | [] => .nil
  | i :: r => .cons (.int i) (od_ints r)
theorem up_len : ∀ {l : List Int} {lo : Int}, l.Pairwise (· < ·) → (∀ k ∈ l, lo ≤ k ∧ k ≤ 8) → l = [] ∨ (l.length : Int) ≤ 9 - lo
  | [], _, _, _ => .inl rfl
  | a :: r, lo, h, g => by
    have ga := g a List.mem_cons_self
    have h' := List.pairwise_cons.mp h
    rcases up_len (l := r) (lo := lo + 1) h'.2 fun k hk => ⟨by have := h'.1 k hk; omega, (g k (List.mem_cons_of_mem _ hk)).2⟩ with e | e
    · rw [e]
      exact .inr (by show (1 : Int) ≤ _; omega)
    · refine .inr ?_
      rw [List.length_cons]
      omega
theorem cl0_len {l : List Int} (h : Cl0 l) : l.length ≤ 17 := by
  rcases up_len (lo := -8) h.up fun k hk => (h.says k hk).2 with e | e
  · rw [e]
    exact Nat.zero_le _
  · omega
theorem cld_snoc {l : List Int} {i : Int} : ClD (.tuple (l.map PyData.int ++ [.int i])) ↔ Cl0 (l ++ [i]) := by
  constructor
  · rintro ⟨ns, e, c⟩
    have e := PyData.tuple.inj e
    rw [show l.map PyData.int ++ [PyData.int i] = (l ++ [i]).map PyData.int by rw [List.map_append]; rfl] at e
    rw [int_inj e]
    exact c
  · exact fun c => ⟨l ++ [i], by rw [List.map_append]; rfl, c⟩
theorem InR.big {i : Int} (h : InR i) : -1000 < i ∧ i < 1000 := ⟨by have := h.1; omega, by have := h.2.1; omega⟩
section
variable {P : Program} {w : World} {K : PySem.W.Frag} {mg : Str → Option Value} {base : Heap}
abbrev sClf : Stmt := topS 29
theorem scClf : FnScope ["words", "at", "claim"] ["words", "at"] (defScope sClf) := ⟨rfl, rfl, rfl, by decide +kernel, rfl, by decide +kernel, by decide +kernel⟩
def spClf (C Pc Pr Po : Addr) : Sp := fun vs H Q E => ∃ (L : Addr) (ws : List Str) (a : Nat) (cls : List (List Int)), vs = [.ref L, .int a] ∧ WsL H L ws ∧ Creach ws a cls .no ∧ TabG H Pc ∧ TabG H Pr ∧ TabG H Po ∧
  (∀ (s : Cs) (l : List Int) (t p : Addr) (b : Nat) H', Ke Nof H H' → a < b → Creach ws b cls s → csL s = some l → (∀ x c t, ws[b]? = some x → Cstep cls s x c t → x = "/") → H' t = some (.tup [.ref p, .int b]) → H' p = some (.tup (l.map V.int)) → Q (.ref t) H') ∧ ∀ e H', Ke Nof H H' → Cbad ws e → Rf E C H' e
theorem ok_clf {f fA fN fI f1 C Pc Pr Po : Addr} {fd fdA fdN fdI fd1 : FuncData} {tk : Tok} (F : Fun K "claim_from" "claim_from" sClf f fd) (T : Zn mg) (N : NT P w K mg base C f1 fd1) (MN : mg "NO_SAYS" = some (.str "none" tk))
    (FA : Fun K "word_at" "word_at" sWat fA fdA) (bA : Binds K fdA ["words", "at"] []) (gA : mg "word_at" = some (.ref fA)) (GA : FnOk P w K mg base CX0 1 fA fdA ["words", "at"] spWat)
    (FN : Fun K "number_or_none" "number_or_none" sNon fN fdN) (bN : Binds K fdN ["word"] []) (gN : mg "number_or_none" = some (.ref fN)) (GN : FnOk P w K mg base CX0 1 fN fdN ["word"] spNoz)
    (kpI : PySem.W.keepIn K (.ref fI) = true) (bI : Binds K fdI ["thing"] []) (gI : mg "is_claim" = some (.ref fI)) (GI : FnOk P w K mg base CX0 5 fI fdI ["thing"] (spClG Pc Pr Po)) :
    Gx2.FnX P w K mg base (L2.CX P w) 7 f fd ["words", "at"] (spClf C Pc Pr Po) := by
  refine Gx2.okX F scClf (fun vs H Q E h => ?_) (fun cdv A outer s H vs Q E gd0 hr h => ?_)
  · obtain ⟨L, ws, a, cls, rfl, _⟩ := h
    rfl
  · obtain ⟨L, ws, a, cls, rfl, hw, R, t1, t2, t3, q1, q2⟩ := h
    have hr1 : Room 1 _ := hr.mono (by omega)
    have hr2 : Room 2 _ := hr.mono (by omega)
    have hr5 : Room 5 _ := hr.mono (by omega)
    refine ⟨_, (Evl.pss_cut (ps_if (pt_cmpR op_eq (pe_call GA hr1 (by rfl) gA FA.kp bA .nil pass0 (pa_cons (pv 0) (pa_cons (pv 1) pa_nil))) (pe_glob (v := .str "none") rfl MN ⟨_, rfl⟩) (nomark _)) (pss_one (ps_ret (pe_tupN (pa_cons (pe_tupN pa_nil) (pa_cons (pe_op op_add (pv 1) pe_int) pa_nil))))) pss_nil)
      (Evl.pss_cut (ps_set (i := 2) scClf.nd rfl (.inl rfl) (pe_tupN pa_nil))
      (Evl.pss_cut (ps_while (passes_of rfl) (PW.pt (pw_and (pt_cmpR op_lt (pv 1) (pe_callB call_len_seq (by rfl) T.z_len (by decide +kernel) (pa_cons (pv 0) pa_nil)) (nomark _)) (pw_and1 (pt_val (pe_call GI hr5 (by rfl) gI kpI bI .nil pass0 (pa_cons (pe_op op_catTN (pv 2) (pe_tupN (pa_cons (pe_call GN hr1 (by rfl) gN FN.kp bN .nil pass0 (pa_cons (pe_ix ix_list (pv 0) (pv 1) (fun _ _ => rfl)) pa_nil)) pa_nil))) pa_nil)))))) (Evl.pss_cut (ps_set (i := 2) scClf.nd rfl (.inl rfl) (pe_op op_catTN (pv 2) (pe_tupN (pa_cons (pe_call GN hr1 (by rfl) gN FN.kp bN .nil pass0 (pa_cons (pe_ix ix_list (pv 0) (pv 1) (fun _ _ => rfl)) pa_nil)) pa_nil))))
      (pss_one (ps_aug (i := 1) scClf.nd rfl (.inl rfl) pe_int ip_add))))
      (Evl.pss_cut (ps_if (pt_not (pt_truth (pv 2) (fun _ => rfl))) (pss_one (ps_raise rfl (takes_of rfl rfl rfl rfl) (pmk_oex N.O N.i N.t N.G hr2 N.b .nil pass0 (by rfl) N.g (pa_cons (pv 1) pa_nil)))) pss_nil)
      (pss_one (ps_ret (pe_tupN (pa_cons (pv 2) (pa_cons (pv 1) pa_nil))))))))), ?_⟩
    -- none
    refine Evl.q_cut (M := fun σ' G => σ' = [some (.ref L), some (.int a), none] ∧ H = G ∧ ws[a]? ≠ some ("none" : Str)) ?_ ?_
    · refine ⟨_, rfl, _, rfl, L, ws, a, rfl, hw, scal_w, _, rfl, ite2 (fun e => ?_) (fun e => ⟨rfl, rfl, fun z => e (eq_w.mpr z)⟩)⟩
      have R1 := R.succ (eq_w.mp e) .none
      refine ⟨Nat.zero_le _, fun p G1 n1 u1 h1 _ => ⟨_, rfl, _, _, rfl, rfl, by show 2 ≤ sizeLine; decide, fun t G2 n2 u2 h2 _ => ?_⟩⟩
      refine q1 .nil [] t p (a + 1) G2 (.same (u1.trans u2)) (by omega) R1 rfl (fun x c t hx st => ?_) h2 (u2 _ _ h1)
      cases st with
      | stroke0 _ => rfl
    rintro σ' G ⟨rfl, rfl, nn⟩
    have Rc := R.cl
    refine Evl.q_cut (M := fun σ' G => ∃ p : Addr, σ' = [some (.ref L), some (.int a), some (.ref p)] ∧ Same H G ∧ G p = some (.tup [])) ?_ ?_
    · exact ⟨Nat.zero_le _, fun p G1 n1 u1 h1 _ => ⟨p, rfl, u1, h1⟩⟩
    rintro σ' H1 ⟨p, rfl, u1, hp⟩
    -- the says
    refine Evl.q_cut (M := fun σ' G => ∃ (b : Nat) (p : Addr) (l : List Int), σ' = [some (.ref L), some (.int b), some (.ref p)] ∧ Ke Nof H G ∧ G p = some (.tup (l.map V.int)) ∧ Cl0 l ∧ ((l = [] ∧ b = a) ∨ (l ≠ [] ∧ a < b ∧ Creach ws b cls (.som l))) ∧ ∀ x i, ws[b]? = some x → Cl0 (l ++ [i]) → x ≠ numT i) ?_ ?_
    · refine while_by (fun σ G => ∃ (b : Nat) (p : Addr) (l : List Int), σ = [some (.ref L), some (.int b), some (.ref p)] ∧ Ke Nof H G ∧ G p = some (.tup (l.map V.int)) ∧ Cl0 l ∧ ((l = [] ∧ b = a) ∨ (l ≠ [] ∧ a < b ∧ Creach ws b cls (.som l)))) (fun σ _ => mA ws.length σ) ?_ ?_ ?_
      · exact ⟨a, p, [], rfl, .same u1, hp, cl0_nil, .inl ⟨rfl, rfl⟩⟩
      · clear hp u1 p H1
        rintro σ G ⟨b, p, l, rfl, kG, hp, cl, st⟩
        have hL := kG.lst hw.1 (fun z => z)
        have ll := cl0_len cl
        refine ⟨_, rfl, _, rfl, L, _, rfl, .inl (.of hL), _, _, rfl, rfl, _, rfl, ite2 (fun e => ?_) (fun e => ite2 (fun z => nomatch z) fun _ => ?_)⟩
        · have e : (b : Int) < ((ws.map V.str).length : Nat) := of_decide_eq_true e
          rw [List.length_map] at e
          have lb : b < ws.length := by omega
          have hx := List.getElem?_eq_getElem lb
          generalize ws[b] = x at hx
          have lx : x.length ≤ 100000 := hw.2.2 x (List.mem_of_getElem? hx)
          have hv : (ws.map V.str)[b]? = some (V.str x) := by
            rw [List.getElem?_map, hx]
            rfl
          refine ⟨_, rfl, _, rfl, _, rfl, L, _, _, .str x, rfl, rfl, .of hL, at_of (j := b) rfl hv, x, rfl, lx, fun i i1 i2 ex => ?_, fun no => ?_⟩
          · refine ⟨by show 1 ≤ sizeLine; decide, fun t G1 nt s1 ht _ => ⟨p, t, _, _, rfl, rfl, s1 _ _ hp, ht, ?_, fun p2 G2 s2 hp2 => ?_⟩⟩
            · rw [List.length_map]
              exact Nat.le_trans (by show l.length + 1 ≤ 1000; omega : _ ≤ 1000) (by decide)
            have k2 : Ke Nof H G2 := kG.trans (.same (s1.trans s2))
            refine ⟨Nof, .ref p2, .tuple (l.map PyData.int ++ [.int i]), rfl, .tup hp2 (.cat (od_ints l) (.cons (.int i) .nil)), fun ds e => ?_, k2.tabs _ t1, k2.tabs _ t2, k2.tabs _ t3, fun bb G3 hb k3 => ⟨bb, rfl, ?_⟩⟩
            · rw [← PyData.tuple.inj e, List.length_append, List.length_map]
              show l.length + 1 ≤ 60
              omega
            rw [cld_snoc] at hb
            have kH := k2.trans k3
            have hp3 : G3 p = some (.tup (l.map V.int)) := k3.tups _ _ (s2 _ _ (s1 _ _ hp))
            refine ite2 (fun eb => ?_) (fun eb => ?_)
            · have c2 := hb.mp eb
              obtain ⟨ir, il, io⟩ := (cl0_snoc cl).mp c2
              refine Evl.q_cut (M := fun σ' G' => ∃ p' : Addr, σ' = [some (.ref L), some (.int b), some (.ref p')] ∧ Same G3 G' ∧ G' p' = some (.tup ((l ++ [i]).map V.int))) ?_ ?_
              · refine ⟨_, rfl, _, rfl, _, rfl, L, _, _, .str x, rfl, rfl, .of (kH.lst hw.1 fun z => z), at_of (j := b) rfl hv, x, rfl, lx, fun j j1 j2 ej => ?_, fun no => absurd ex (no i i1 i2)⟩
                obtain rfl : j = i := numZ_inj (by omega) (by omega) (ej.symm.trans ex)
                refine ⟨by show 1 ≤ sizeLine; decide, fun t' G4 nt' s4 ht' _ => ⟨p, t', _, _, rfl, rfl, s4 _ _ hp3, ht', ?_, fun p4 G5 s5 hp5 => ?_⟩⟩
                · rw [List.length_map]
                  exact Nat.le_trans (by show l.length + 1 ≤ 1000; omega : _ ≤ 1000) (by decide)
                · refine ⟨p4, rfl, s4.trans s5, ?_⟩
                  rw [hp5, List.map_append]
                  rfl
              rintro σ' G4 ⟨p', rfl, s4, hp4⟩
              refine ⟨_, rfl, _, _, rfl, rfl, ?_⟩
              refine ⟨⟨b + 1, p', l ++ [i], rfl, kH.trans (.same s4), hp4, c2, .inr ⟨by simp, ?_, ?_⟩⟩, ?_⟩
              · rcases st with ⟨_, rfl⟩ | ⟨_, lt, _⟩ <;> omega
              · rcases st with ⟨rfl, rfl⟩ | ⟨_, _, Rb⟩
                · exact R.succ hx (by rw [ex]; exact .first i ir)
                · exact Rb.succ hx (by rw [ex]; exact .next l i ir il io)
              · show ws.length - ((b : Int) + 1).toNat < ws.length - (b : Int).toNat
                omega
            · refine ⟨b, p, l, rfl, kH, hp3, cl, st, fun y j hy c3 ey => ?_⟩
              rw [hx] at hy
              cases hy
              obtain ⟨jr, _, _⟩ := (cl0_snoc cl).mp c3
              obtain rfl : j = i := numZ_inj jr.b (by omega) (ey.symm.trans ex)
              exact eb (hb.mpr c3)
          · refine ⟨by show 1 ≤ sizeLine; decide, fun t G1 nt s1 ht _ => ⟨p, t, _, _, rfl, rfl, s1 _ _ hp, ht, ?_, fun p2 G2 s2 hp2 => ?_⟩⟩
            · rw [List.length_map]
              exact Nat.le_trans (by show l.length + 1 ≤ 1000; omega : _ ≤ 1000) (by decide)
            have k2 : Ke Nof H G2 := kG.trans (.same (s1.trans s2))
            refine ⟨Nof, .ref p2, .tuple (l.map PyData.int ++ [.none]), rfl, .tup hp2 (.cat (od_ints l) (.cons .non .nil)), fun ds e => ?_, k2.tabs _ t1, k2.tabs _ t2, k2.tabs _ t3, fun bb G3 hb k3 => ⟨bb, rfl, ?_⟩⟩
            · rw [← PyData.tuple.inj e, List.length_append, List.length_map]
              show l.length + 1 ≤ 60
              omega
            have kH := k2.trans k3
            have hp3 : G3 p = some (.tup (l.map V.int)) := k3.tups _ _ (s2 _ _ (s1 _ _ hp))
            refine ite2 (fun eb => ?_) (fun eb => ?_)
            · exact absurd (hb.mp eb) (no_say (d := .none) (List.mem_append_right _ (List.mem_singleton_self _)) rfl)
            · refine ⟨b, p, l, rfl, kH, hp3, cl, st, fun y j hy c3 ey => ?_⟩
              rw [hx] at hy
              cases hy
              obtain ⟨jr, _, _⟩ := (cl0_snoc cl).mp c3
              exact no j jr.big.1 jr.big.2 ey
        · have e : ¬ (b : Int) < ((ws.map V.str).length : Nat) := fun z => e (decide_eq_true z)
          rw [List.length_map] at e
          refine ⟨b, p, l, rfl, kG, hp, cl, st, fun y j hy c3 ey => ?_⟩
          have := (List.getElem?_eq_some_iff.mp hy).1
          omega
      · rintro σ H0 Q1 Q2 hq ⟨v, e, v2, e2, l, xs, e3, sq, i, j, e5, e6, b, e7, z⟩
        refine ⟨v, e, v2, e2, l, xs, e3, sq, i, j, e5, e6, b, e7, ?_⟩
        cases b with
        | false => exact hq _ _ z
        | true =>
          have imp : ∀ (y p : V) (G : Hp), ((1 : Nat) ≤ sizeLine ∧ New G (.tup [y]) fun t G1 => ∃ a b xs ys, p = .ref a ∧ t = .ref b ∧ G1 a = some (.tup xs) ∧ G1 b = some (.tup ys) ∧ xs.length + ys.length ≤ sizeLine ∧ ResT G1 (xs ++ ys) fun q G2 => spClG Pc Pr Po [q] G2 (fun x H' => ∃ d, x = .bl d ∧ Q1 d H') E) → ((1 : Nat) ≤ sizeLine ∧ New G (.tup [y]) fun t G1 => ∃ a b xs ys, p = .ref a ∧ t = .ref b ∧ G1 a = some (.tup xs) ∧ G1 b = some (.tup ys) ∧ xs.length + ys.length ≤ sizeLine ∧ ResT G1 (xs ++ ys) fun q G2 => spClG Pc Pr Po [q] G2 (fun x H' => ∃ d, x = .bl d ∧ Q2 d H') E) := by
            rintro y p G ⟨l1, n⟩
            refine ⟨l1, fun t G1 g1 g2 g3 g4 => ?_⟩
            obtain ⟨a, b, xs, ys, h1, h2, h3, h4, h5, r⟩ := n t G1 g1 g2 g3 g4
            refine ⟨a, b, xs, ys, h1, h2, h3, h4, h5, fun q G2 s2 hq2 => ?_⟩
            obtain ⟨f0, v, d, k1, k2, k3, k4, k5, k6, qq⟩ := r q G2 s2 hq2
            refine ⟨f0, v, d, k1, k2, k3, k4, k5, k6, fun bb H' hb k => ?_⟩
            obtain ⟨d, ed, qd⟩ := qq bb H' hb k
            exact ⟨d, ed, hq _ _ qd⟩
          obtain ⟨w0, f0, w1, f1, w2, f2, A1, n1, m1, y1, g1, g2, g3, g4, x, g5, g6, z1, z2⟩ := z
          exact ⟨w0, f0, w1, f1, w2, f2, A1, n1, m1, y1, g1, g2, g3, g4, x, g5, g6, fun i i1 i2 ex => imp _ _ _ (z1 i i1 i2 ex), fun no => imp _ _ _ (z2 no)⟩
    rintro σ' G ⟨b, p, l, rfl, kG, hp, cl, st, stop⟩
    rcases st with ⟨rfl, rfl⟩ | ⟨ne, lt, Rb⟩
    · have bad : Cbad ws b := by
        refine ⟨cls, .no, R, ?_⟩
        cases hx : ws[b]? with
        | none =>
          have := List.getElem?_eq_none_iff.mp hx
          have := R.le
          exact .inr ⟨by omega, rfl⟩
        | some x =>
          refine .inl ⟨x, rfl, fun c t st => ?_⟩
          obtain ⟨i, hi, e⟩ := first_iff.mpr ⟨⟨c, t, st⟩, fun z => nn (by rw [hx, z])⟩
          exact stop x i hx hi e
      refine Evl.q_cut (M := fun _ _ => False) ?_ fun _ _ z => z.elim
      exact ⟨_, rfl, false, .inr (.inl ⟨_, .of hp, rfl⟩), _, rfl, made_R N.O N.nf fun dx H2 _ s2 e2 => q2 b G kG bad dx H2 s2 e2⟩
    · refine Evl.q_cut (M := fun σ' G' => σ' = [some (.ref L), some (.int b), some (.ref p)] ∧ G = G') ?_ ?_
      · refine ⟨_, rfl, true, .inr (.inl ⟨_, .of hp, ?_⟩), rfl, rfl⟩
        cases l with
        | nil => exact absurd rfl ne
        | cons i r => rfl
      rintro σ' G' ⟨rfl, rfl⟩
      refine ⟨_, rfl, _, rfl, by show 2 ≤ sizeLine; decide, fun t G2 n2 u2 h2 _ => ?_⟩
      refine q1 (.som l) l t p b G2 (kG.trans (.same u2)) lt Rb rfl (fun x c t' hx st => ?_) h2 (u2 _ _ hp)
      refine Classical.byContradiction fun nx => ?_
      obtain ⟨i, hi, e⟩ := (next_iff cl ne).mpr ⟨⟨c, t', st⟩, nx⟩
      exact stop x i hx hi e
end
end Tc
namespace Tc
open PySem PySem.Spec PyProof.Rows L2 GxR Nw Dr Kp Ev1 Tw Kc Od
/-! ### a book read -/
def ClsL (H : Hp) (R : Addr) (cls : List (List Int)) : Prop := ∃ vs, H R = some (.lst vs) ∧ All2 (TupI H) vs cls
theorem tupI_wr {H : Hp} {D : Addr} {ys : List V} {o : HO} {v : V} {l : List Int} (h : TupI H v l) (hD : H D = some (.lst ys)) : TupI (upd H D o) v l := by
  obtain ⟨p, e, h⟩ := h
  exact ⟨p, e, by rw [upd_ne (fun z => by rw [z, hD] at h; cases h)]; exact h⟩
theorem Cstep.str {cls : List (List Int)} {s : Cs} {l : List Int} (e : csL s = some l) (h : cls.length < 15) : Cstep cls s "/" (cls ++ [l]) .no := by
  cases s with
  | no => cases e
  | nil =>
    cases e
    exact .stroke0 h
  | som l' =>
    cases e
    exact .stroke l h
theorem Cstep.lt {cls c : List (List Int)} {s t : Cs} {l : List Int} (h : Cstep cls s "/" c t) (e : csL s = some l) : cls.length < 15 := by
  generalize hx : ("/" : Str) = x at h
  cases h with
  | none => cases e
  | first i h => cases e
  | stroke0 h => exact h
  | stroke l h => exact h
  | next l i h _ _ => exact absurd hx.symm (num_str h)
theorem bk_of {H : Hp} {a : Addr} {vs : List V} {cls : List (List Int)} (h : H a = some (.tup vs)) (r : All2 (TupI H) vs cls) : Bk H (.ref a) cls := ⟨a, vs, rfl, h, r.1, r.2⟩
theorem WsL.ke {H H' : Hp} {L : Addr} {ws : List Str} (h : WsL H L ws) (k : Ke Nof H H') : WsL H' L ws := ⟨k.lst h.1 fun z => z, h.2⟩
structure Zb (mg : Str → Option Value) : Prop where
  z_len : mg "len" = none
  z_tuple : mg "tuple" = none
section
variable {P : Program} {w : World} {K : PySem.W.Frag} {mg : Str → Option Value} {base : Heap}
abbrev sBkf : Stmt := topS 31
theorem scBkf : FnScope ["words", "at", "claim", "claims"] ["words", "at"] (defScope sBkf) := ⟨rfl, rfl, rfl, by decide +kernel, rfl, by decide +kernel, by decide +kernel⟩
def spBkf (C Pc Pr Po : Addr) : Sp := fun vs H Q E => ∃ (L : Addr) (ws : List Str), vs = [.ref L, .int 0] ∧ WsL H L ws ∧ TabG H Pc ∧ TabG H Pr ∧ TabG H Po ∧
  (∀ (b : V) (cls : List (List Int)) H', Ke Nof H H' → Ctold ws cls → cls.length ≤ 16 → Bk H' b cls → Q b H') ∧ ∀ e H', Ke Nof H H' → Cbad ws e → Rf E C H' e
theorem ok_bkf {f fB fC C Pc Pr Po : Addr} {fd fdB fdC : FuncData} {tk : Tok} (F : Fun K "book_from" "book_from" sBkf f fd) (T : Zb mg) (M16 : mg "MOST_CLAIMS" = some (.int 16 tk))
    (FB : Fun K "behind_stroke" "behind_stroke" sBst fB fdB) (bB : Binds K fdB ["words", "at", "many", "most"] []) (gB : mg "behind_stroke" = some (.ref fB)) (GB : Gx2.FnX P w K mg base (L2.CX P w) 3 fB fdB ["words", "at", "many", "most"] (spBst C))
    (FC : Fun K "claim_from" "claim_from" sClf fC fdC) (bC : Binds K fdC ["words", "at"] []) (gC : mg "claim_from" = some (.ref fC)) (GC : Gx2.FnX P w K mg base (L2.CX P w) 7 fC fdC ["words", "at"] (spClf C Pc Pr Po)) :
    Gx2.FnX P w K mg base (L2.CX P w) 8 f fd ["words", "at"] (spBkf C Pc Pr Po) := by
  refine Gx2.okX F scBkf (fun vs H Q E h => ?_) (fun cdv A outer s H vs Q E gd0 hr h => ?_)
  · obtain ⟨L, ws, rfl, _⟩ := h
    rfl
  · obtain ⟨L, ws, rfl, hw, t1, t2, t3, q1, q2⟩ := h
    have gd : (A.deeper (envOfC "book_from" (defScope sBkf) s.heap.objs.size f cdv)).guards = some [] := gd0
    have hr3 : Room 3 _ := hr.mono (by omega)
    have hr7 : Room 7 _ := hr.mono (by omega)
    refine ⟨_, (Evl.pss_cut (ps_asg (Gx2.pe_callX GC gd hr7 (by rfl) gC FC.kp bC .nil (passes_call (takes_of rfl rfl rfl rfl) (fun _ _ _ _ h => h)) (pa_cons (pv 0) (pa_cons (pv 1) pa_nil))) (pg_tup rfl (pgs_cons (pg_name (i := 2) scBkf.nd rfl (.inl rfl)) (pgs_cons (pg_name (i := 1) scBkf.nd rfl (.inl rfl)) pgs_nil))))
      (Evl.pss_cut (ps_set (i := 3) scBkf.nd rfl (.inl rfl) (pe_lstN (pa_cons (pv 2) pa_nil)))
      (Evl.pss_cut (ps_while (passes_of rfl) (pt_cmpR op_lt (pv 1) (pe_callB call_len_seq (by rfl) T.z_len (by decide +kernel) (pa_cons (pv 0) pa_nil)) (nomark _)) (Evl.pss_cut (ps_asg (Gx2.pe_callX GC gd hr7 (by rfl) gC FC.kp bC .nil (passes_call (takes_of rfl rfl rfl rfl) (fun _ _ _ _ h => h)) (pa_cons (pv 0) (pa_cons (Gx2.pe_callX GB gd hr3 (by rfl) gB FB.kp bB .nil (passes_call (takes_of rfl rfl rfl rfl) (fun _ _ _ _ h => h)) (pa_cons (pv 0) (pa_cons (pv 1) (pa_cons (pe_callB call_len_seq (by rfl) T.z_len (by decide +kernel) (pa_cons (pv 3) pa_nil)) (pa_cons (pe_glob (v := .int 16) rfl M16 ⟨_, rfl⟩) pa_nil))))) pa_nil))) (pg_tup rfl (pgs_cons (pg_name (i := 2) scBkf.nd rfl (.inl rfl)) (pgs_cons (pg_name (i := 1) scBkf.nd rfl (.inl rfl)) pgs_nil))))
      (pss_one (ps_expr (pe_bm PySem.F.plainAttrs_list PySem.F.slot_list_append PySem.F.type_list_append mt_append (pv 3) (pa_cons (pv 2) pa_nil))))))
      (pss_one (ps_ret (pe_callTy call_tuple_ofN (by rfl) T.z_tuple (by decide +kernel) (pa_cons (pv 3) pa_nil))))))), ?_⟩
    refine Evl.q_cut (M := fun σ' H' => ∃ (b : Nat) (p : Addr) (s : Cs) (l : List Int), σ' = [some (.ref L), some (.int b), some (.ref p), none] ∧ Ke Nof H H' ∧ Creach ws b [] s ∧ csL s = some l ∧ (∀ x c t, ws[b]? = some x → Cstep [] s x c t → x = "/") ∧ H' p = some (.tup (l.map V.int))) ?_ ?_
    · refine ⟨_, rfl, _, rfl, L, ws, 0, [], rfl, hw, .zero, t1, t2, t3, fun s l t p b H1 k1 _ R1 es stop ht hp => ?_, fun e H1 k1 z => q2 e H1 k1 z⟩
      exact ⟨t, _, rfl, .of ht, rfl, _, _, rfl, _, _, rfl, rfl, b, p, s, l, rfl, k1, R1, es, stop, hp⟩
    rintro σ' H1 ⟨b, p, s0, l, rfl, k1, R1, es, stop, hp⟩
    refine Evl.q_cut (M := fun σ' H' => ∃ R : Addr, σ' = [some (.ref L), some (.int b), some (.ref p), some (.ref R)] ∧ Frs H R ∧ Ke Nof H H' ∧ ClsL H' R [l]) ?_ ?_
    · refine ⟨_, rfl, by show 1 ≤ sizeLine; decide, fun R H2 nR s2 hR _ => ⟨R, rfl, (Frs.of nR).ke0 k1, k1.trans (.same s2), _, hR, ?_⟩⟩
      exact All2.snoc (xs := []) (ys := []) .nil ⟨p, rfl, s2 _ _ hp⟩
    rintro σ' H2 ⟨R, rfl, fR, k2, hR2⟩
    refine Evl.q_cut (M := fun σ' H' => ∃ (y1 y2 : Option V) (cls : List (List Int)), σ' = [some (.ref L), y1, y2, some (.ref R)] ∧ Ke Nof H H' ∧ Ctold ws cls ∧ cls.length ≤ 16 ∧ ClsL H' R cls) ?_ ?_
    · refine while_by (fun σ H' => ∃ (b : Nat) (p : Addr) (cls0 : List (List Int)) (s : Cs) (l : List Int), σ = [some (.ref L), some (.int b), some (.ref p), some (.ref R)] ∧ Ke Nof H H' ∧ Creach ws b cls0 s ∧ csL s = some l ∧ (∀ x c t, ws[b]? = some x → Cstep cls0 s x c t → x = "/") ∧ ClsL H' R (cls0 ++ [l]) ∧ cls0.length ≤ 15) (fun σ _ => mA ws.length σ) ?_ ?_ ?_
      · exact ⟨b, p, [], s0, l, rfl, k2, R1, es, stop, hR2, by decide⟩
      · clear hR2 k2 H2 stop es R1 hp k1 H1 l s0
        rintro σ H2 ⟨b, p, cls0, s0, l, rfl, k2, R1, es, stop, ⟨vs, hR, aR⟩, l15⟩
        have hw2 := WsL.ke hw k2
        have lv := aR.1
        rw [List.length_append, List.length_singleton] at lv
        have lb := R1.le
        refine ⟨_, rfl, _, rfl, L, _, rfl, .inl (.of hw2.1), _, _, rfl, rfl, _, rfl, ite2 (fun e => ?_) (fun e => ?_)⟩
        · have e : (b : Int) < ((ws.map V.str).length : Nat) := of_decide_eq_true e
          rw [List.length_map] at e
          have hx := List.getElem?_eq_getElem (show b < ws.length by omega)
          generalize ws[b]'(by omega) = x at hx
          refine Evl.q_cut (M := fun σ' H' => ∃ (b' : Nat) (p' : Addr) (s' : Cs) (l' : List Int), σ' = [some (.ref L), some (.int b'), some (.ref p'), some (.ref R)] ∧ Ke Nof H2 H' ∧ b < b' ∧ Creach ws b' (cls0 ++ [l]) s' ∧ csL s' = some l' ∧ (∀ x c t, ws[b']? = some x → Cstep (cls0 ++ [l]) s' x c t → x = "/") ∧ H' p' = some (.tup (l'.map V.int)) ∧ cls0.length < 15) ?_ ?_
          · refine ⟨_, rfl, _, rfl, _, rfl, _, rfl, R, _, rfl, .inl (.of hR), L, ws, b, cls0.length + 1, 16, ?_, hw2, fun e1 e2 => ?_, fun no => ?_⟩
            · show [V.ref L, V.int b, V.int (vs.length : Nat), V.int 16] = _
              rw [lv]
              rfl
            · have R2 := R1.succ e1 (.str es (by omega))
              refine ⟨L, ws, b + 1, cls0 ++ [l], rfl, hw2, R2, k2.tabs _ t1, k2.tabs _ t2, k2.tabs _ t3, fun s' l' t p' b' H3 k3 lt R3 es' stop' ht hp' => ?_, fun e H3 k3 z => q2 e H3 (k2.trans k3) z⟩
              exact ⟨t, _, rfl, .of ht, rfl, _, _, rfl, _, _, rfl, rfl, b', p', s', l', rfl, k3, by omega, R3, es', stop', hp', by omega⟩
            · refine q2 b H2 k2 ⟨cls0, s0, R1, .inl ⟨x, hx, fun c t st => ?_⟩⟩
              obtain rfl := stop x c t hx st
              exact no ⟨hx, by have := st.lt es; omega⟩
          rintro σ' H3 ⟨b', p', s', l', rfl, k3, lt, R3, es', stop', hp', l14⟩
          have hR3 := k3.lst hR fun z => z
          refine ⟨_, rfl, .inl ⟨rfl, _, .of hR3⟩, _, rfl, R, _, _, rfl, rfl, hR3, small1000 (by omega), ?_⟩
          refine ⟨⟨b', p', cls0 ++ [l], s', l', rfl, (k2.trans k3).write fR hR3, R3, es', stop', ⟨_, upd_same, All2.snoc (aR.imp fun _ _ h => tupI_wr (h.ke k3) hR3) (tupI_wr ⟨p', rfl, hp'⟩ hR3)⟩, by rw [List.length_append, List.length_singleton]; omega⟩, ?_⟩
          show ws.length - (b' : Int).toNat < ws.length - (b : Int).toNat
          omega
        · have e : ¬ (b : Int) < ((ws.map V.str).length : Nat) := fun z => e (decide_eq_true z)
          rw [List.length_map] at e
          obtain rfl : b = ws.length := by omega
          exact ⟨_, _, cls0 ++ [l], rfl, k2, ⟨cls0, s0, l, es, rfl, R1⟩, by rw [List.length_append, List.length_singleton]; omega, vs, hR, aR⟩
      · rintro σ H0 Q1 Q2 hq ⟨v, e, v2, e2, l, xs, e3, sq, i, j, e5, e6, b, e7, z⟩
        exact ⟨v, e, v2, e2, l, xs, e3, sq, i, j, e5, e6, b, e7, hq _ _ z⟩
    rintro σ' H3 ⟨y1, y2, cls, rfl, k3, td, l16, vs, hR, aR⟩
    exact ⟨_, rfl, R, _, rfl, .of hR, fun p H4 np s4 hp _ => q1 _ cls H4 (k3.trans (.same s4)) td l16 (bk_of hp (aR.imp fun _ _ h => h.ke (.same s4) (F := Nof)))⟩
abbrev sRbk : Stmt := topS 32
theorem scRbk : FnScope ["text"] ["text"] (defScope sRbk) := ⟨rfl, rfl, rfl, by decide +kernel, rfl, by decide +kernel, by decide +kernel⟩
def spRbk (C Pc Pr Po : Addr) : Sp := fun vs H Q E => ∃ (x : Str), vs = [.str x] ∧ x.length ≤ 50000 ∧ TabG H Pc ∧ TabG H Pr ∧ TabG H Po ∧
  (∀ (b : V) (cls : List (List Int)) H', Ke Nof H H' → Ctold (Txt.split x " ") cls → cls.length ≤ 16 → Bk H' b cls → Q b H') ∧ ∀ e H', Ke Nof H H' → Cbad (Txt.split x " ") e → Rf E C H' e
theorem ok_rbk {f fW fK C Pc Pr Po : Addr} {fd fdW fdK : FuncData} (F : Fun K "read_book" "read_book" sRbk f fd)
    (FW : Fun K "words_of" "words_of" sWof fW fdW) (bW : Binds K fdW ["text"] []) (gW : mg "words_of" = some (.ref fW)) (GW : FnOk P w K mg base CX0 1 fW fdW ["text"] spWof)
    (FK : Fun K "book_from" "book_from" sBkf fK fdK) (bK : Binds K fdK ["words", "at"] []) (gK : mg "book_from" = some (.ref fK)) (GK : Gx2.FnX P w K mg base (L2.CX P w) 8 fK fdK ["words", "at"] (spBkf C Pc Pr Po)) :
    Gx2.FnX P w K mg base (L2.CX P w) 9 f fd ["text"] (spRbk C Pc Pr Po) := by
  refine Gx2.okX F scRbk (fun vs H Q E h => ?_) (fun cdv A outer s H vs Q E gd0 hr h => ?_)
  · obtain ⟨x, rfl, _⟩ := h
    rfl
  · obtain ⟨x, rfl, lx, t1, t2, t3, q1, q2⟩ := h
    have gd : (A.deeper (envOfC "read_book" (defScope sRbk) s.heap.objs.size f cdv)).guards = some [] := gd0
    have hr1 : Room 1 _ := hr.mono (by omega)
    have hr8 : Room 8 _ := hr.mono (by omega)
    refine ⟨_, (pss_one (ps_ret (Gx2.pe_callX GK gd hr8 (by rfl) gK FK.kp bK .nil (passes_call (takes_of rfl rfl rfl rfl) (fun _ _ _ _ h => h)) (pa_cons (pe_call GW hr1 (by rfl) gW FW.kp bW .nil pass0 (pa_cons (pv 0) pa_nil)) (pa_cons pe_int pa_nil))))), ?_⟩
    refine ⟨_, rfl, x, rfl, lx, fun p H1 np s1 hp => ?_⟩
    have k1 : Ke Nof H H1 := .same s1
    refine ⟨p, Txt.split x " ", rfl, ⟨hp, ?_, ?_⟩, k1.tabs _ t1, k1.tabs _ t2, k1.tabs _ t3, fun b cls H2 k2 td l2 hb => q1 b cls H2 (k1.trans k2) td l2 hb, fun e H2 k2 z => q2 e H2 (k1.trans k2) z⟩
    · have := (Tw.split_len x).1
      omega
    · intro y hy
      have := (Tw.split_len x).2 y hy
      omega
end
end Tc
namespace Tc
open PySem PySem.Spec PyProof.Rows L2 GxR Nw Dr Kp Ev1 Tw Kc Od
open TL (tl)
/-! ### claims and books as texts -/
def clT (cs : List Int) : Str := if cs = [] then "none" else Txt.join " " (cs.map numT)
def bkT (css : List (List Int)) : Str := Txt.join " / " (css.map clT)
theorem lgZ {i : Int} (h : -9 ≤ i ∧ i ≤ 9) : i.natAbs.log2 < 1920 := by
  rcases Int.lt_or_le i 0 with l | l
  · obtain ⟨n, hn, rfl⟩ : ∃ n : Nat, n < 999 ∧ i = -((n : Nat) : Int) := ⟨(-i).toNat, by omega, by omega⟩
    rw [Int.natAbs_neg]
    exact lg0 (by omega)
  · obtain ⟨n, rfl⟩ : ∃ n : Nat, i = n := ⟨i.toNat, by omega⟩
    exact lg0 (by omega)
def ClS (cs : List Int) : Prop := (∀ k ∈ cs, InR k) ∧ cs.length ≤ 8
theorem cls_of {cs : List Int} (h : IsCl cs) : ClS cs := ⟨fun k hk => ⟨(h.says k hk).2.1, (h.says k hk).2.2, (h.says k hk).1⟩, h.len⟩
theorem numZ_len' {i : Int} (h : InR i) : (numT i).length ≤ 4 := by
  obtain ⟨h1, h2, _⟩ := h
  rcases Int.lt_or_le i 0 with l | l
  · obtain ⟨n, hn, rfl⟩ : ∃ n : Nat, n < 999 ∧ i = -((n + 1 : Nat) : Int) := ⟨(-i).toNat - 1, by omega, by omega⟩
    obtain ⟨_, _, _, _, _, _, h⟩ := negT_get hn
    exact h
  · obtain ⟨n, rfl⟩ : ∃ n : Nat, i = n := ⟨i.toNat, by omega⟩
    exact Nat.le_trans (numT_get (n := n) (by omega)).2.2.2.1 (by decide)
theorem nums_sum {cs : List Int} (h : ClS cs) : ((cs.map numT).map (·.length)).sum + (cs.map numT).length * Str.length " " ≤ 40 := by
  have sl := sum_lens (B := 4) (ys := cs.map numT) fun y hy => by
    obtain ⟨k, hk, rfl⟩ := List.mem_map.mp hy
    exact numZ_len' (h.1 k hk)
  rw [List.length_map] at sl ⊢
  rw [show Str.length " " = 1 from by decide +kernel]
  have := h.2
  omega
theorem clT_len {cs : List Int} (h : ClS cs) : (clT cs).length ≤ 40 := by
  unfold clT
  split
  · decide +kernel
  · exact Nat.le_trans (join_len _ _) (nums_sum h)
theorem cls_sum {css : List (List Int)} (h : ∀ cs ∈ css, ClS cs) (l : css.length ≤ 20) : ((css.map clT).map (·.length)).sum + (css.map clT).length * Str.length " / " ≤ 1000 := by
  have sl := sum_lens (B := 40) (ys := css.map clT) fun y hy => by
    obtain ⟨k, hk, rfl⟩ := List.mem_map.mp hy
    exact clT_len (h k hk)
  rw [List.length_map] at sl ⊢
  rw [show Str.length " / " = 3 from by decide +kernel]
  omega
theorem bkT_len {css : List (List Int)} (h : ∀ cs ∈ css, ClS cs) (l : css.length ≤ 20) : (bkT css).length ≤ 1000 := Nat.le_trans (join_len _ _) (cls_sum h l)
structure Zh (mg : Str → Option Value) : Prop where
  z_str : mg "str" = none
section
variable {P : Program} {w : World} {K : PySem.W.Frag} {mg : Str → Option Value} {base : Heap}
abbrev sShc : Stmt := topS 24
abbrev nShc : List Str := ["claim", "say"]
theorem scShc : FnScope nShc ["claim"] (defScope sShc) := ⟨rfl, rfl, rfl, by decide +kernel, rfl, by decide +kernel, by decide +kernel⟩
def spShc : Sp := fun vs H Q _ => ∃ (v : V) (cs : List Int), vs = [v] ∧ TupI H v cs ∧ ClS cs ∧ ∀ H', Same H H' → Q (.str (clT cs)) H'
theorem ok_shc {f : Addr} {fd : FuncData} {k : Nat} {tk : Tok} (F : Fun K "show_claim" "show_claim" sShc f fd) (T : Zh mg) (MN : mg "NO_SAYS" = some (.str "none" tk)) : FnOk P w K mg base CX0 (k + 1) f fd ["claim"] spShc := by
  refine F.ok scShc (fun vs H Q E h => ?_) (fun cdv A outer s H vs Q E hr h => ?_)
  · obtain ⟨v, cs, rfl, _⟩ := h
    rfl
  · obtain ⟨v, cs, rfl, ⟨a, rfl, ha⟩, cl, q⟩ := h
    refine ⟨_, (Evl.pss_cut (ps_if (pt_not (pt_truth (pv 0) (fun _ => rfl))) (pss_one (ps_ret (pe_glob (v := .str "none") rfl MN ⟨_, rfl⟩))) pss_nil)
      (pss_one (ps_ret (pe_join pe_str (pe_lc (own := [("say", 1)]) (g := (gName 1)) (tt := tYes) rfl scShc.nd (pi_tup (pv 0)) (blkOk_by (N := nShc) (sc := defScope sShc) (by decide +kernel)) (fun _ _ _ _ _ => (pg_name (i := 1) scShc.nd rfl (.inl rfl))) (fun _ _ _ _ _ => pts_nil) (fun _ _ _ _ _ => (pe_callTy call_str_int (by rfl) T.z_str (by decide +kernel) (pa_cons (pv 1) pa_nil)))))))), ?_⟩
    refine Evl.q_cut (M := fun σ' G => σ' = [some (.ref a), none] ∧ H = G ∧ cs ≠ []) ?_ ?_
    · by_cases z : cs = []
      · subst z
        exact ⟨_, rfl, false, .inr (.inl ⟨_, .of ha, rfl⟩), q H (Same.refl _)⟩
      · refine ⟨_, rfl, true, .inr (.inl ⟨_, .of ha, ?_⟩), rfl, rfl, z⟩
        cases cs with
        | nil => exact absurd rfl z
        | cons i r => rfl
    rintro σ' G ⟨rfl, rfl, ne⟩
    refine ⟨⟨_, rfl⟩, _, rfl, a, rfl, ⟨_, .of ha⟩, fun Z nZ => ?_⟩
    refine lc_tup (xs := cs.map V.int) (Pv := fun u H' => Same H H' ∧ H' Z = some (.lst (((cs.take u).map numT).map V.str))) ⟨same_new nZ, upd_same⟩ (fun u H' _ z => .of (z.1 _ _ ha)) ?_ ?_
    · rintro u x H4 hx ⟨s4, hZ⟩
      rw [List.getElem?_map] at hx
      obtain ⟨n, hn, rfl⟩ := Option.map_eq_some_iff.mp hx
      have kn := cl.1 n (List.mem_of_getElem? hn)
      obtain ⟨k1, k2, _⟩ := kn
      refine ⟨rfl, _, rfl, n, rfl, lgZ ⟨by omega, by omega⟩, _, hZ, small1000 (by rw [List.length_map, List.length_map, List.length_take]; have := cl.2; omega), same_wr s4 nZ, ?_⟩
      rw [upd_same, List.take_add_one, hn, List.map_append, List.map_append]
      rfl
    · rintro H4 ⟨s4, hZ⟩
      rw [List.length_map, List.take_length] at hZ
      refine ⟨_, Z, cs.map numT, rfl, rfl, .inl (.of hZ), Nat.le_trans (nums_sum cl) (by decide), ?_⟩
      have r := q H4 s4
      unfold clT at r
      rw [if_neg ne] at r
      exact r
abbrev sShb : Stmt := topS 25
abbrev nShb : List Str := ["book", "shown", "claim"]
theorem scShb : FnScope nShb ["book"] (defScope sShb) := ⟨rfl, rfl, rfl, by decide +kernel, rfl, by decide +kernel, by decide +kernel⟩
def spShb : Sp := fun vs H Q _ => ∃ (v : V) (css : List (List Int)), vs = [v] ∧ Bk H v css ∧ (∀ cs ∈ css, ClS cs) ∧ css.length ≤ 20 ∧ ∀ H', Same H H' → Q (.str (bkT css)) H'
theorem ok_shb {f fC : Addr} {fd fdC : FuncData} {k : Nat} {tk : Tok} (F : Fun K "show_book" "show_book" sShb f fd) (MB : mg "BETWEEN" = some (.str " / " tk))
    (FC : Fun K "show_claim" "show_claim" sShc fC fdC) (bC : Binds K fdC ["claim"] []) (gC : mg "show_claim" = some (.ref fC)) (GC : FnOk P w K mg base CX0 1 fC fdC ["claim"] spShc) : FnOk P w K mg base CX0 (k + 2) f fd ["book"] spShb := by
  refine F.ok scShb (fun vs H Q E h => ?_) (fun cdv A outer s H vs Q E hr h => ?_)
  · obtain ⟨v, css, rfl, _⟩ := h
    rfl
  · obtain ⟨v, css, rfl, ⟨a, vs, rfl, ha, lv, at_⟩, cl, l20, q⟩ := h
    have hr1 : Room 1 _ := hr.mono (by omega)
    refine ⟨_, (Evl.pss_cut (ps_setLc (i := 1) (own := [("claim", 2)]) (g := (gName 2)) (tt := tYes) rfl scShb.nd rfl rfl (sw_true rfl rfl rfl (by decide +kernel)) (pi_tup (pv 0)) (blkOk_by (N := nShb) (sc := defScope sShb) (by decide +kernel)) (fun _ _ _ _ _ => (pg_name (i := 2) scShb.nd rfl (.inl rfl))) (fun _ _ _ _ _ => pts_nil) (fun _ _ _ _ _ => (pe_call GC hr1 (by rfl) gC FC.kp bC .nil pass0 (pa_cons (pv 2) pa_nil))))
      (pss_one (ps_ret (pe_join (pe_glob (v := .str " / ") rfl MB ⟨_, rfl⟩) (pv 1))))), ?_⟩
    refine Evl.q_cut (M := fun σ' G => ∃ (Z : Addr) (y : Option V), σ' = [some (.ref a), some (.ref Z), y] ∧ Same H G ∧ G Z = some (.lst ((css.map clT).map V.str))) ?_ ?_
    · refine ⟨_, rfl, a, rfl, ⟨_, .of ha⟩, fun Z nZ => ?_⟩
      refine lc_tup (xs := vs) (Pv := fun u H' => Same H H' ∧ H' Z = some (.lst (((css.take u).map clT).map V.str))) ⟨same_new nZ, upd_same⟩ (fun u H' _ z => .of (z.1 _ _ ha)) ?_ ?_
      · rintro u x H4 hx ⟨s4, hZ⟩
        have lu := (List.getElem?_eq_some_iff.mp hx).1
        have hc := List.getElem?_eq_getElem (show u < css.length by omega)
        generalize css[u]'(by omega) = cs at hc
        have ti := at_ u x cs hx hc
        refine ⟨rfl, _, rfl, x, cs, rfl, ti.ke (.same s4) (F := Nof), cl cs (List.mem_of_getElem? hc), fun H5 s5 => ?_⟩
        refine ⟨_, s5 _ _ hZ, small1000 (by rw [List.length_map, List.length_map, List.length_take]; omega), same_wr (s4.trans s5) nZ, ?_⟩
        rw [upd_same, List.take_add_one, hc, List.map_append, List.map_append]
        rfl
      · rintro H4 ⟨s4, hZ⟩
        rw [lv, List.take_length] at hZ
        exact ⟨Z, _, rfl, s4, hZ⟩
    rintro σ' G ⟨Z, y, rfl, s1, hZ⟩
    exact ⟨⟨_, rfl⟩, _, rfl, _, Z, css.map clT, rfl, rfl, .inl (.of hZ), Nat.le_trans (cls_sum cl l20) (by decide), q G s1⟩
end
end Tc
namespace Tc
open PySem PySem.Spec PyProof.Rows L2 GxR Nw Dr Kp Ev1 Tw Kc Od
open TL (tl)
/-! ### the law's own reading of a book -/
theorem for_enl {K : PySem.W.Frag} {a : Addr} {xs : List V} {g : TG} {tb : TS} {D : Ends} {σ : L2.St} {H : Hp} (Pv : Nat → L2.St → Hp → Prop) (h0 : Pv 0 σ H) (hl : ∀ i σ H, i ≤ xs.length → Pv i σ H → SqL K H a xs)
    (hs : ∀ i x σ H T, xs[i]? = some x → Pv i σ H → H T = none → g (.ref T) σ (upd H T (.tup [.int (i : Nat), x])) fun σ2 H2 => tb { D with nx := Pv (i + 1), ct := Pv (i + 1), bk := D.nx } σ2 H2) (hd : ∀ σ H, Pv xs.length σ H → D.nx σ H) :
    ∃ W : Nat → Nat → L2.St → Hp → Prop, (∃ m, W 0 m σ H) ∧ ∀ i m σ H, W i m σ H →
      ((Ite K a).stop i H ∧ D.nx σ H) ∨ ((Ite K a).go i H ∧ ∃ N : L2.St → Hp → Prop, (∀ σ' H', N σ' H' → ∃ m', m' < m ∧ W (i + 1) m' σ' H') ∧ ∀ x H', (Ite K a).yld i H x H' → g x σ H' fun σ2 H2 => tb { D with nx := N, ct := N, bk := D.nx } σ2 H2) := by
  refine ⟨fun i m σ H => i + m = xs.length ∧ Pv i σ H, ⟨xs.length, Nat.zero_add _, h0⟩, fun i m σ H ⟨e, p⟩ => ?_⟩
  have sq := hl i σ H (by omega) p
  cases m with
  | zero =>
    obtain rfl : i = xs.length := by omega
    exact .inl ⟨⟨xs, sq, Nat.le_refl _⟩, hd σ H p⟩
  | succ m =>
    have hx := List.getElem?_eq_getElem (show i < xs.length by omega)
    refine .inr ⟨⟨xs, _, sq, hx⟩, Pv (i + 1), fun σ' H' q => ⟨m, Nat.lt_succ_self m, by omega, q⟩, ?_⟩
    rintro y H' ⟨T, x, rfl, nT, rfl, hy⟩
    exact hs i x σ H T (hy xs sq) p nT
theorem inV_str (x : Str) (ks : List Str) : inV (.str x) (ks.map V.str) = true ↔ x ∈ ks := by
  unfold inV
  rw [List.any_eq_true]
  constructor
  · rintro ⟨y, hy, e⟩
    obtain ⟨z, hz, rfl⟩ := List.mem_map.mp hy
    have e : (z == x) = true := e
    rw [← beq_iff_eq.mp e]
    exact hz
  · exact fun h => ⟨_, List.mem_map_of_mem h, beq_iff_eq.mpr rfl⟩
theorem flat_strs' (ks : List Str) : (ks.map V.str).all flatV = true := by
  rw [List.all_eq_true]
  intro v hv
  obtain ⟨z, _, rfl⟩ := List.mem_map.mp hv
  rfl
theorem cr_tupA {X : Cx} : CallR X (.type "tuple") (fun xs H Q => ∃ p ys, xs = [.ref p] ∧ ((SqL X.K H p ys ∧ New H (.tup ys) Q) ∨ (SqT X.K H p ys ∧ Q (.ref p) H))) := call_weak call_tuple_of fun _ _ _ ⟨p, ys, h1, h2⟩ => ⟨p, ys, h1, h2.imp (fun h => ⟨h.1, h.2.to⟩) id⟩
theorem at_last {xs : List V} {x : V} (h : xs[xs.length - 1]? = some x) : atI xs (-1) = some x := by
  have l := (List.getElem?_eq_some_iff.mp h).1
  unfold atI ixN
  rw [if_neg (by decide), if_pos (by omega)]
  show xs[(-1 + (xs.length : Int)).toNat]? = some x
  rw [show (-1 + (xs.length : Int)).toNat = xs.length - 1 by omega]
  exact h
/-- the says that a book knows, as texts -/
def kz (n : Nat) : List Str := ((List.range n).filter fun i => decide (i ≠ 8)).map fun i : Nat => numT (-8 + (i : Int))
theorem kz_snoc (n : Nat) : kz (n + 1) = if n = 8 then kz n else kz n ++ [numT (-8 + (n : Int))] := by
  unfold kz
  rw [List.range_succ, List.filter_append, List.map_append]
  by_cases h : n = 8
  · subst h
    rfl
  · rw [if_neg h, List.filter_cons_of_pos (by simpa using h)]
    rfl
theorem kz_len (n : Nat) : (kz n).length ≤ n := by
  unfold kz
  rw [List.length_map]
  exact Nat.le_trans (List.length_filter_le _ _) (by rw [List.length_range]; exact Nat.le_refl _)
theorem kz_mem {x : Str} : x ∈ kz 17 ↔ ∃ i : Int, InR i ∧ x = numT i := by
  unfold kz
  rw [List.mem_map]
  constructor
  · rintro ⟨i, hi, rfl⟩
    obtain ⟨h1, h2⟩ := List.mem_filter.mp hi
    have h1 := List.mem_range.mp h1
    have h2 : i ≠ 8 := of_decide_eq_true h2
    exact ⟨_, ⟨by omega, by omega, by omega⟩, rfl⟩
  · rintro ⟨i, ⟨h1, h2, h3⟩, rfl⟩
    exact ⟨(i + 8).toNat, List.mem_filter.mpr ⟨List.mem_range.mpr (by omega), decide_eq_true (by omega)⟩, by rw [show (-8 + ((i + 8).toNat : Int)) = i by omega]⟩
/-- the says that are told -/
def Said (H0 H : Hp) (C W Kn : Addr) (v : V) : Cs → Prop
  | .no => v = .non
  | .nil => ∃ p, v = .ref p ∧ H p = some (.tup [])
  | .som l => ∃ p, v = .ref p ∧ H p = some (.lst (l.map V.int)) ∧ H0 p = none ∧ p ≠ C ∧ p ≠ W ∧ p ≠ Kn
theorem Said.same {H0 H H' : Hp} {C W Kn : Addr} {v : V} {s : Cs} (h : Said H0 H C W Kn v s) (k : Same H H') : Said H0 H' C W Kn v s := by
  cases s with
  | no => exact h
  | nil =>
    obtain ⟨p, e, h⟩ := h
    exact ⟨p, e, k _ _ h⟩
  | som l =>
    obtain ⟨p, e, h, r⟩ := h
    exact ⟨p, e, k _ _ h, r⟩
theorem ClsL.same {H H' : Hp} {R : Addr} {cls : List (List Int)} (h : ClsL H R cls) (s : Same H H') : ClsL H' R cls := by
  obtain ⟨vs, h, a⟩ := h
  exact ⟨vs, s _ _ h, a.imp fun _ _ r => r.ke (.same s) (F := Nof)⟩
theorem nostep_no {cls : List (List Int)} {x : Str} (h1 : x ≠ "none") (h2 : ∀ i, InR i → x ≠ numT i) : ∀ c t, ¬ Cstep cls .no x c t := fun c t st => by
  cases st with
  | none => exact h1 rfl
  | first i h => exact h2 i h rfl
theorem nostep_full {cls : List (List Int)} {s : Cs} {l : List Int} (e : csL s = some l) (h : ¬ cls.length < 15) : ∀ c t, ¬ Cstep cls s "/" c t := fun c t st => h (st.lt e)
theorem nostep_nil {cls : List (List Int)} {x : Str} (h : x ≠ "/") : ∀ c t, ¬ Cstep cls .nil x c t := fun c t st => by
  cases st with
  | stroke0 _ => exact h rfl
theorem nostep_som {cls : List (List Int)} {l : List Int} {x : Str} (h : x ≠ "/") (h2 : ∀ i, InR i → x = numT i → (∀ j ∈ l, j < i) → -i ∉ l → False) : ∀ c t, ¬ Cstep cls (.som l) x c t := fun c t st => by
  cases st with
  | stroke _ _ => exact h rfl
  | next _ i hi hl ho => exact h2 i hi rfl hl ho
theorem som_ne {ws : List Str} : ∀ {n : Nat} {cls : List (List Int)} {l : List Int}, Creach ws n cls (.som l) → l ≠ []
  | n + 1, _, _, .succ h e st => by
    cases st with
    | first i _ => exact nofun
    | next l i _ _ _ => exact fun z => absurd (congrArg List.length z) (by simp)
theorem last_is {l : List Int} (h : l ≠ []) : ∃ k, (l.map V.int)[(l.map V.int).length - 1]? = some (V.int k) ∧ k ∈ l ∧ l = l.dropLast ++ [k] := by
  have e := List.dropLast_concat_getLast h
  refine ⟨l.getLast h, ?_, List.getLast_mem h, e.symm⟩
  rw [List.length_map, List.getElem?_map, ← List.getLast?_eq_getElem?, List.getLast?_eq_some_getLast h]
  rfl
theorem last_lt {l : List Int} {k i : Int} (up : l.Pairwise (· < ·)) (e : l = l.dropLast ++ [k]) (h : k < i) : ∀ j ∈ l, j < i := fun j hj => by
  rw [e] at up hj
  rcases List.mem_append.mp hj with z | z
  · exact Int.lt_trans ((List.pairwise_append.mp up).2.2 j z k (List.mem_singleton_self _)) h
  · rw [List.mem_singleton.mp z]
    exact h
theorem sh_ints (l : List Int) : SeqAt.shaped (.list (l.map PyData.int)) = true := shaped_list (by
  rw [List.all_eq_true]
  intro d hd
  obtain ⟨z, _, rfl⟩ := List.mem_map.mp hd
  rfl)
theorem numZ_len {i : Int} (h : InR i) : (numT i).length ≤ 4 := by
  obtain ⟨h1, h2, _⟩ := h
  rcases Int.lt_or_le i 0 with l | l
  · obtain ⟨n, hn, rfl⟩ : ∃ n : Nat, n < 999 ∧ i = -((n + 1 : Nat) : Int) := ⟨(-i).toNat - 1, by omega, by omega⟩
    obtain ⟨_, _, _, _, _, _, h⟩ := negT_get hn
    exact h
  · obtain ⟨n, rfl⟩ : ∃ n : Nat, i = n := ⟨i.toNat, by omega⟩
    exact Nat.le_trans (numT_get (n := n) (by omega)).2.2.2.1 (by decide)
structure Zt (mg : Str → Option Value) : Prop where
  z_len : mg "len" = none
  z_int : mg "int" = none
  z_str : mg "str" = none
  z_range : mg "range" = none
  z_tuple : mg "tuple" = none
  z_enumerate : mg "enumerate" = none
section
variable {P : Program} {w : World} {K : PySem.W.Frag} {mg : Str → Option Value} {base : Heap}
abbrev sBre : Stmt := topS 40
abbrev nBre : List Str := ["text", "words", "known", "claims", "says", "at", "word", "k"]
theorem scBre : FnScope nBre ["text"] (defScope sBre) := ⟨rfl, rfl, rfl, by decide +kernel, rfl, by decide +kernel, by decide +kernel⟩
def spBre : Sp := fun vs H Q _ => ∃ (x : Str), vs = [.str x] ∧ x.length ≤ 50000 ∧ (∀ (b : V) (cls : List (List Int)) H', Same H H' → Ctold (Txt.split x " ") cls → cls.length ≤ 16 → Bk H' b cls → Q b H') ∧ ∀ (e : Nat) H', Same H H' → Cbad (Txt.split x " ") e → Q (.int e) H'
theorem ok_bre {f : Addr} {fd : FuncData} {k : Nat} (F : Fun K "_law_e_book_read" "_law_e_book_read" sBre f fd) (T : Zt mg) : FnOk P w K mg base CX0 (k + 1) f fd ["text"] spBre := by
  refine F.ok scBre (fun vs H Q E h => ?_) (fun cdv A outer s H vs Q E hr h => ?_)
  · obtain ⟨x, rfl, _⟩ := h
    rfl
  · obtain ⟨x, rfl, lx, q1, q2⟩ := h
    refine ⟨_, (Evl.pss_cut (ps_set (i := 1) scBre.nd rfl (.inl rfl) (pe_split (pv 0) pe_str))
      (Evl.pss_cut (ps_setLc (i := 2) (own := [("k", 7)]) (g := (gName 7))  rfl scBre.nd rfl rfl (sw_true rfl rfl rfl (by decide +kernel)) (pi_range2 (by rfl) T.z_range (pa_cons (pe_un un_neg pe_int) (pa_cons pe_int pa_nil))) (blkOk_by (N := nBre) (sc := defScope sBre) (by decide +kernel)) (fun _ _ _ _ _ => (pg_name (i := 7) scBre.nd rfl (.inl rfl))) (fun _ _ _ _ _ => (pts_one (pt_cmpR op_ne (pv 7) pe_int (nomark _)))) (fun _ _ _ _ _ => (pe_callTy call_str_int (by rfl) T.z_str (by decide +kernel) (pa_cons (pv 7) pa_nil))))
      (Evl.pss_cut (ps_set (i := 3) scBre.nd rfl (.inl rfl) (pe_lstN pa_nil))
      (Evl.pss_cut (ps_set (i := 4) scBre.nd rfl (.inl rfl) pe_non)
      (Evl.pss_cut (ps_for PassesOwn.never rfl (pi_enum (by rfl) T.z_enumerate (pa_cons (pv 1) pa_nil)) (pg_tup rfl (pgs_cons (pg_name (i := 5) scBre.nd rfl (.inl rfl)) (pgs_cons (pg_name (i := 6) scBre.nd rfl (.inl rfl)) pgs_nil))) (pss_one (ps_if (PW.pt (pw_and (pt_cmpR op_isN (pv 4) pe_non (nomark _)) (pw_and1 (pt_cmpR op_eq (pv 6) pe_str (nomark _))))) (pss_one (ps_set (i := 4) scBre.nd rfl (.inl rfl) (pe_tupN pa_nil))) (pss_one (ps_if (pt_cmpR op_isN (pv 4) pe_non (nomark _)) (pss_cons (ps_if (pt_cmpR op_notIn_seq (pv 6) (pv 2) (by rfl)) (pss_one (ps_ret (pv 5))) pss_nil)
      (pss_one (ps_set (i := 4) scBre.nd rfl (.inl rfl) (pe_lstN (pa_cons (pe_callTy call_int_str (by rfl) T.z_int (by decide +kernel) (pa_cons (pv 6) pa_nil)) pa_nil))))) (pss_one (ps_if (pt_cmpR op_eq (pv 6) pe_str (nomark _)) (pss_cons (ps_if (pt_cmpR op_eq (pe_callB call_len_seq (by rfl) T.z_len (by decide +kernel) (pa_cons (pv 3) pa_nil)) pe_int (nomark _)) (pss_one (ps_ret (pv 5))) pss_nil)
      (pss_cons (ps_expr (pe_bm PySem.F.plainAttrs_list PySem.F.slot_list_append PySem.F.type_list_append mt_append (pv 3) (pa_cons (pe_callTy cr_tupA (by rfl) T.z_tuple (by decide +kernel) (pa_cons (pv 4) pa_nil)) pa_nil)))
      (pss_one (ps_set (i := 4) scBre.nd rfl (.inl rfl) pe_non)))) (pss_one (ps_if (PW.pt (pw_or (pt_cmpR (op_eqD hr.units) (pv 4) (pe_tupN pa_nil) (nomark _)) (pw_or (pt_cmpR op_notIn_seq (pv 6) (pv 2) (by rfl)) (pw_or (pt_cmpR op_le (pe_callTy call_int_str (by rfl) T.z_int (by decide +kernel) (pa_cons (pv 6) pa_nil)) (pe_ix ix_list (pv 4) (pe_un un_neg pe_int) (fun _ _ => rfl)) (nomark _)) (pw_or1 (pt_cmpR op_in_seq (pe_op op_sub pe_int (pe_callTy call_int_str (by rfl) T.z_int (by decide +kernel) (pa_cons (pv 6) pa_nil))) (pv 4) (by rfl))))))) (pss_one (ps_ret (pv 5))) (pss_one (ps_expr (pe_bm PySem.F.plainAttrs_list PySem.F.slot_list_append PySem.F.type_list_append mt_append (pv 4) (pa_cons (pe_callTy call_int_str (by rfl) T.z_int (by decide +kernel) (pa_cons (pv 6) pa_nil)) pa_nil)))))))))))))
      (Evl.pss_cut (ps_if (pt_cmpR op_isN (pv 4) pe_non (nomark _)) (pss_one (ps_ret (pe_callB call_len_seq (by rfl) T.z_len (by decide +kernel) (pa_cons (pv 1) pa_nil)))) pss_nil)
      (pss_one (ps_ret (pe_callTy call_tuple_ofN (by rfl) T.z_tuple (by decide +kernel) (pa_cons (pe_op op_catN (pv 3) (pe_lstN (pa_cons (pe_callTy cr_tupA (by rfl) T.z_tuple (by decide +kernel) (pa_cons (pv 4) pa_nil)) pa_nil))) pa_nil)))))))))), ?_⟩
    have wl := Tw.split_len x
    obtain ⟨ws, ews⟩ : ∃ ws, ws = Txt.split x " " := ⟨_, rfl⟩
    rw [← ews] at wl q1 q2
    refine Evl.q_cut (M := fun σ' H' => ∃ W : Addr, σ' = [some (.str x), some (.ref W), none, none, none, none, none, none] ∧ Same H H' ∧ H' W = some (.lst (ws.map V.str))) ?_ ?_
    · refine ⟨_, rfl, ⟨_, rfl⟩, _, _, rfl, rfl, by decide +kernel, Nat.le_trans (Nat.add_le_add_right lx 2) (by decide), fun p np => ⟨p, rfl, same_new np, ?_⟩⟩
      rw [upd_same, ews]
    rintro σ' H1 ⟨W, rfl, s1, hW⟩
    -- known
    refine Evl.q_cut (M := fun σ' H' => ∃ (Kn : Addr) (y7 : Option V), σ' = [some (.str x), some (.ref W), some (.ref Kn), none, none, none, none, y7] ∧ Same H1 H' ∧ H' Kn = some (.lst ((kz 17).map V.str))) ?_ ?_
    · refine ⟨_, rfl, -8, 9, rfl, by decide, fun Y nY => ?_⟩
      refine lc_range (lo := -8) (n := 17) (Pv := fun i H' => Same H1 H' ∧ H' Y = some (.lst ((kz i).map V.str))) ⟨same_new nY, upd_same⟩ ?_ ?_
      · rintro i' H' hi' ⟨u, hY⟩
        have hi' : i' < 17 := hi'
        refine ⟨rfl, _, rfl, rfl, _, rfl, ite2 (fun e => ?_) (fun e => ?_)⟩
        · have n8 : i' ≠ 8 := fun z => by
            subst z
            cases e
          refine ⟨_, rfl, -8 + (i' : Int), rfl, lgZ ⟨by omega, by omega⟩, _, hY, small1000 (by rw [List.length_map]; have := kz_len i'; omega), same_wr u nY, ?_⟩
          rw [upd_same, kz_snoc, if_neg n8, List.map_append]
          rfl
        · have n8 : i' = 8 := Classical.byContradiction fun z => e (by
            show (!decide (V.int (-8 + (i' : Int)) = V.int 0)) = true
            rw [decide_eq_false fun y => z (by have := V.int.inj y; omega)]
            rfl)
          refine ⟨u, ?_⟩
          rw [hY, kz_snoc, if_pos n8]
      · rintro H' ⟨u, hY⟩
        exact ⟨Y, _, rfl, u, hY⟩
    rintro σ' H2 ⟨Kn, y7, rfl, s2, hK2⟩
    refine Evl.q_cut (M := fun σ' H' => ∃ C : Addr, σ' = [some (.str x), some (.ref W), some (.ref Kn), some (.ref C), none, none, none, y7] ∧ H2 C = none ∧ Same H2 H' ∧ H' C = some (.lst [])) ?_ ?_
    · exact ⟨Nat.zero_le _, fun R H2 nR s2 hR _ => ⟨R, rfl, nR, s2, hR⟩⟩
    rintro σ' H3 ⟨C, rfl, nC2, s3, hC3⟩
    have s03 := s1.trans (s2.trans s3)
    have nC := (s1.trans s2).free nC2
    have nWC : W ≠ C := ne_of_none (s2 _ _ hW) nC2
    have nKC : Kn ≠ C := ne_of_none hK2 nC2
    have hW3 := s3 _ _ (s2 _ _ hW)
    have hK3 := s3 _ _ hK2
    clear nC2 s3 hK2 s2 hW s1
    refine Evl.q_cut (M := fun σ' H' => σ' = [some (.str x), some (.ref W), some (.ref Kn), some (.ref C), some .non, none, none, y7] ∧ H3 = H') ⟨rfl, rfl⟩ ?_
    rintro σ' H' ⟨rfl, rfl⟩
    -- the words
    refine Evl.q_cut (M := fun σ' H' => ∃ (v : V) (y5 y6 : Option V) (cls : List (List Int)) (s : Cs), σ' = [some (.str x), some (.ref W), some (.ref Kn), some (.ref C), some v, y5, y6, y7] ∧ Same H H' ∧ Creach ws ws.length cls s ∧ Said H H' C W Kn v s ∧ ClsL H' C cls ∧ H' W = some (.lst (ws.map V.str))) ?_ ?_
    · refine ⟨_, rfl, W, ws.map V.str, rfl, .of hW3, for_enl (K := K) (a := W) (xs := ws.map V.str) (Pv := fun i σ H' => ∃ (v : V) (y5 y6 : Option V) (cls : List (List Int)) (s : Cs), σ = [some (.str x), some (.ref W), some (.ref Kn), some (.ref C), some v, y5, y6, y7] ∧ Same H H' ∧ Creach ws i cls s ∧ Said H H' C W Kn v s ∧ ClsL H' C cls ∧ H' W = some (.lst (ws.map V.str)) ∧ H' Kn = some (.lst ((kz 17).map V.str))) ?_ (fun i σ H' _ z => ?_) ?_ ?_⟩
      · exact ⟨.non, none, none, [], .no, rfl, s03, .zero, rfl, ⟨[], hC3, .nil⟩, hW3, hK3⟩
      · obtain ⟨_, _, _, _, _, _, _, _, _, _, h, _⟩ := z
        exact .of h
      · clear hC3 hW3 hK3 s03 H3 H2 H1
        rintro i u σ H4 T' hx ⟨v, y5, y6, cls, s, rfl, s4, R1, sd, ⟨cvs, hC, aC⟩, hW4, hK4⟩ nT
        rw [List.getElem?_map] at hx
        obtain ⟨wd, hwd, rfl⟩ := Option.map_eq_some_iff.mp hx
        have sT : Same H4 (upd H4 T' (.tup [.int (i : Nat), .str wd])) := same_new nT
        refine ⟨T', _, rfl, .of upd_same, rfl, _, _, rfl, _, _, rfl, rfl, ?_⟩
        generalize upd H4 T' (.tup [.int (i : Nat), .str wd]) = H5 at sT
        have s5 := s4.trans sT
        have hC5 := sT _ _ hC
        have hW5 := sT _ _ hW4
        have hK5 := sT _ _ hK4
        have aC5 : All2 (TupI H5) cvs cls := aC.imp fun _ _ r => r.ke (.same sT) (F := Nof)
        have sd5 := sd.same sT
        have l15 := R1.cl.1
        have lc := aC.1
        clear hC hW4 hK4 aC sd nT hx s4 sT
        have bad : ∀ (G : Hp), Same H5 G → (∀ c t, ¬ Cstep cls s wd c t) → Q (.int (i : Nat)) G := fun G g no => q2 i G (s5.trans g) ⟨cls, s, R1, .inl ⟨wd, hwd, no⟩⟩
        have lw : wd.length ≤ 50000 := by
          have := wl.2 wd (List.mem_of_getElem? hwd)
          omega
        -- a stroke
        have strk : ∀ (p : Addr) (l : List Int), csL s = some l → v = .ref p → wd = "/" → cls.length < 15 → ∀ (t : Addr) (G : Hp), Same H5 G → G t = some (.tup (l.map V.int)) → ∃ (v : V) (z5 z6 : Option V) (cls' : List (List Int)) (s' : Cs), [some (.str x), some (.ref W), some (.ref Kn), some (.ref C), some V.non, some (.int (i : Nat)), some (.str wd), y7] = [some (.str x), some (.ref W), some (.ref Kn), some (.ref C), some v, z5, z6, y7] ∧ Same H (upd G C (.lst (cvs ++ [.ref t]))) ∧ Creach ws (i + 1) cls' s' ∧ Said H (upd G C (.lst (cvs ++ [.ref t]))) C W Kn v s' ∧ ClsL (upd G C (.lst (cvs ++ [.ref t]))) C cls' ∧ upd G C (.lst (cvs ++ [.ref t])) W = some (.lst (ws.map V.str)) ∧ upd G C (.lst (cvs ++ [.ref t])) Kn = some (.lst ((kz 17).map V.str)) := by
          intro p l es ev ew lt t G g ht
          have hCG := g _ _ hC5
          refine ⟨.non, _, _, cls ++ [l], .no, rfl, same_wr (s5.trans g) nC, R1.succ hwd (by rw [ew]; exact .str es lt), rfl, ⟨_, upd_same, All2.snoc (aC5.imp fun _ _ r => tupI_wr (r.ke (.same g) (F := Nof)) hCG) (tupI_wr ⟨t, rfl, ht⟩ hCG)⟩, ?_, ?_⟩
          · rw [upd_ne nWC]
            exact g _ _ hW5
          · rw [upd_ne nKC]
            exact g _ _ hK5
        cases s with
        | no =>
          cases id sd5
          refine ⟨_, rfl, rfl, true, rfl, ?_⟩
          refine ⟨_, rfl, rfl, _, rfl, ite2 (fun e => ?_) (fun e => ?_)⟩
          · have e := V.str.inj (of_decide_eq_true e)
            refine ⟨Nat.zero_le _, fun p G nP g hP _ => ?_⟩
            exact ⟨_, _, _, cls, .nil, rfl, s5.trans g, R1.succ hwd (by rw [e]; exact .none), ⟨p, rfl, hP⟩, ClsL.same ⟨_, hC5, aC5⟩ g, g _ _ hW5, g _ _ hK5⟩
          · have nn : wd ≠ "none" := fun z => e (decide_eq_true (by rw [z]))
            refine ⟨_, rfl, rfl, true, rfl, ?_⟩
            refine ⟨_, rfl, _, rfl, Kn, _, rfl, .inl (.of hK5), rfl, flat_strs' _, _, rfl, ite2 (fun e => ?_) (fun e => ?_)⟩
            · have e : (!inV (.str wd) ((kz 17).map V.str)) = true := e
              refine ⟨_, rfl, bad _ (Same.refl _) (nostep_no nn fun i hi z => ?_)⟩
              rw [(inV_str _ _).mpr (kz_mem.mpr ⟨i, hi, z⟩)] at e
              cases e
            · have e : ¬ (!inV (.str wd) ((kz 17).map V.str)) = true := e
              obtain ⟨k, hk, rfl⟩ := kz_mem.mp (Classical.byContradiction fun z => e (by rw [Bool.eq_false_iff.mpr fun y => z ((inV_str _ _).mp y)]; rfl))
              refine ⟨_, rfl, _, _, rfl, int_of_numT hk.b, Nat.le_trans (numZ_len hk) (by decide), by show 1 ≤ sizeLine; decide, fun p G nP g hP _ => ?_⟩
              refine ⟨_, _, _, cls, .som [k], rfl, s5.trans g, R1.succ hwd (.first k hk), ⟨p, rfl, hP, s5.free nP, Ne.symm (ne_of_none hC5 nP), Ne.symm (ne_of_none hW5 nP), Ne.symm (ne_of_none hK5 nP)⟩, ClsL.same ⟨_, hC5, aC5⟩ g, g _ _ hW5, g _ _ hK5⟩
        | nil =>
          obtain ⟨p, rfl, hp⟩ := id sd5
          refine ⟨_, rfl, rfl, false, rfl, ?_⟩
          refine ⟨_, rfl, rfl, false, rfl, ?_⟩
          refine ⟨_, rfl, rfl, _, rfl, ite2 (fun e => ?_) (fun e => ?_)⟩
          · have e := V.str.inj (of_decide_eq_true e)
            refine ⟨_, rfl, C, _, rfl, .inl (.of hC5), rfl, _, rfl, ite2 (fun e2 => ?_) (fun e2 => ?_)⟩
            · have e2 := V.int.inj (of_decide_eq_true e2)
              exact ⟨_, rfl, bad _ (Same.refl _) (by rw [e]; exact nostep_full rfl (by omega))⟩
            · have e2 : ¬ V.int ((cvs.length : Nat) : Int) = V.int 15 := fun z => e2 (decide_eq_true z)
              refine ⟨_, rfl, .inl ⟨rfl, _, .of hC5⟩, _, rfl, p, _, rfl, .inr ⟨.of hp, C, _, _, rfl, rfl, hC5, small1000 (by omega), ?_⟩⟩
              exact strk p [] rfl rfl e (Nat.lt_of_le_of_ne l15 fun z => e2 (by rw [lc, z]; rfl)) p H5 (Same.refl _) hp
          · have nn : wd ≠ "/" := fun z => e (decide_eq_true (by rw [z]))
            refine ⟨_, rfl, Nat.zero_le _, fun E1 G nE g hE _ => ⟨.tuple [], .tuple [], .tup (.of (g _ _ hp)) .nil, .tup (.of hE) .nil, by decide, by decide, true, rfl, ?_⟩⟩
            exact ⟨_, rfl, bad G g (nostep_nil nn)⟩
        | som l =>
          obtain ⟨p, rfl, hp, p0, pC, pW, pK⟩ := id sd5
          refine ⟨_, rfl, rfl, false, rfl, ?_⟩
          refine ⟨_, rfl, rfl, false, rfl, ?_⟩
          refine ⟨_, rfl, rfl, _, rfl, ite2 (fun e => ?_) (fun e => ?_)⟩
          · have e := V.str.inj (of_decide_eq_true e)
            refine ⟨_, rfl, C, _, rfl, .inl (.of hC5), rfl, _, rfl, ite2 (fun e2 => ?_) (fun e2 => ?_)⟩
            · have e2 := V.int.inj (of_decide_eq_true e2)
              exact ⟨_, rfl, bad _ (Same.refl _) (by rw [e]; exact nostep_full rfl (by omega))⟩
            · have e2 : ¬ V.int ((cvs.length : Nat) : Int) = V.int 15 := fun z => e2 (decide_eq_true z)
              refine ⟨_, rfl, .inl ⟨rfl, _, .of hC5⟩, _, rfl, p, _, rfl, .inl ⟨.of hp, fun t G nt g ht _ => ⟨C, _, _, rfl, rfl, g _ _ hC5, small1000 (by omega), ?_⟩⟩⟩
              exact strk p l rfl rfl e (Nat.lt_of_le_of_ne l15 fun z => e2 (by rw [lc, z]; rfl)) t G g ht
          · have nn : wd ≠ "/" := fun z => e (decide_eq_true (by rw [z]))
            have ll := cl0_len (R1.cl.2.2 l rfl)
            refine ⟨_, rfl, Nat.zero_le _, fun E1 G nE g hE _ => ⟨.list (l.map PyData.int), .tuple [], .lst (.of (g _ _ hp)) (dp_ints l), .tup (.of hE) .nil, sh_ints l, by decide, false, rfl, ?_⟩⟩
            have hpG := g _ _ hp
            refine ⟨_, rfl, _, rfl, Kn, _, rfl, .inl (.of (g _ _ hK5)), rfl, flat_strs' _, _, rfl, ite2 (fun e => ?_) (fun e => ?_)⟩
            · have e : (!inV (.str wd) ((kz 17).map V.str)) = true := e
              refine ⟨_, rfl, bad G g (nostep_som nn fun i hi z _ _ => ?_)⟩
              rw [(inV_str _ _).mpr (kz_mem.mpr ⟨i, hi, z⟩)] at e
              cases e
            have e : ¬ (!inV (.str wd) ((kz 17).map V.str)) = true := e
            obtain ⟨k, hk, rfl⟩ := kz_mem.mp (Classical.byContradiction fun z => e (by rw [Bool.eq_false_iff.mpr fun y => z ((inV_str _ _).mp y)]; rfl))
            obtain ⟨m, hm, mm, em⟩ := last_is (som_ne R1)
            have lk : (numT k).length ≤ 1000 := Nat.le_trans (numZ_len hk) (by decide)
            refine ⟨_, rfl, _, _, rfl, int_of_numT hk.b, Nat.le_trans (numZ_len hk) (by decide), _, rfl, _, rfl, p, _, _, _, rfl, rfl, .of hpG, at_last hm, _, _, rfl, rfl, _, rfl, ite2 (fun e1 => ?_) (fun e1 => ?_)⟩
            · have e1 : k ≤ m := of_decide_eq_true e1
              refine ⟨_, rfl, bad G g (nostep_som nn fun i hi z h1 _ => ?_)⟩
              obtain rfl := numZ_inj hk.b hi.b z
              have := h1 m mm
              omega
            have e1 : ¬ k ≤ m := fun z => e1 (decide_eq_true z)
            refine ⟨_, rfl, _, _, rfl, int_of_numT hk.b, Nat.le_trans (numZ_len hk) (by decide), _, _, rfl, rfl, _, rfl, p, _, rfl, .inl (.of hpG), rfl, ints_flat l, _, rfl, ite2 (fun e2 => ?_) (fun e2 => ?_)⟩
            · have e2 : inV (.int (0 - k)) (l.map V.int) = true := e2
              rw [in_ints, show 0 - k = -k by omega] at e2
              refine ⟨_, rfl, bad G g (nostep_som nn fun i hi z _ h2 => ?_)⟩
              obtain rfl := numZ_inj hk.b hi.b z
              exact h2 e2
            have e2 : ¬ inV (.int (0 - k)) (l.map V.int) = true := e2
            rw [in_ints, show 0 - k = -k by omega] at e2
            refine ⟨_, rfl, .inl ⟨rfl, _, .of hpG⟩, _, rfl, _, _, rfl, int_of_numT hk.b, Nat.le_trans (numZ_len hk) (by decide), p, _, _, rfl, rfl, hpG, small1000 (by rw [List.length_map]; omega), ?_⟩
            refine ⟨_, _, _, cls, .som (l ++ [k]), rfl, same_wr (s5.trans g) p0, R1.succ hwd (.next l k hk (last_lt (R1.cl.2.2 l rfl).up em (by omega)) e2), ⟨p, rfl, by rw [upd_same, List.map_append]; rfl, p0, pC, pW, pK⟩, ⟨cvs, by rw [upd_ne (Ne.symm pC)]; exact g _ _ hC5, aC5.imp fun _ _ r => tupI_wr (r.ke (.same g) (F := Nof)) hpG⟩, by rw [upd_ne (Ne.symm pW)]; exact g _ _ hW5, by rw [upd_ne (Ne.symm pK)]; exact g _ _ hK5⟩
      · rintro σ H4 ⟨v, y5, y6, cls, s, rfl, s4, R1, sd, hC, hW4, hK4⟩
        rw [List.length_map] at R1
        exact ⟨v, y5, y6, cls, s, rfl, s4, R1, sd, hC, hW4⟩
    clear hC3 hW3 hK3 s03 H3 H2 H1
    rintro σ' H1 ⟨v, y5, y6, cls, s, rfl, s1, R1, sd, ⟨cvs, hC, aC⟩, hW⟩
    have l15 := R1.cl.1
    have lc := aC.1
    refine Evl.q_cut (M := fun σ' G => σ' = [some (.str x), some (.ref W), some (.ref Kn), some (.ref C), some v, y5, y6, y7] ∧ H1 = G ∧ s ≠ .no) ?_ ?_
    · cases s with
      | no =>
        cases id sd
        refine ⟨_, rfl, rfl, true, rfl, _, rfl, W, _, rfl, .inl (.of hW), ?_⟩
        have r := q2 ws.length H1 s1 ⟨cls, .no, R1, .inr ⟨rfl, rfl⟩⟩
        rw [List.length_map]
        exact r
      | nil =>
        obtain ⟨p, rfl, _⟩ := id sd
        exact ⟨_, rfl, rfl, false, rfl, rfl, rfl, nofun⟩
      | som l =>
        obtain ⟨p, rfl, _⟩ := id sd
        exact ⟨_, rfl, rfl, false, rfl, rfl, rfl, nofun⟩
    rintro σ' G ⟨rfl, rfl, ne⟩
    have fin : ∀ (l : List Int) (t : Addr) (G1 : Hp), csL s = some l → Same H1 G1 → G1 t = some (.tup (l.map V.int)) → ([V.ref t].length ≤ sizeLine ∧ New G1 (.lst [.ref t]) fun Lk G2 => ∃ p q xs ys, V.ref C = .ref p ∧ Lk = .ref q ∧ G2 p = some (.lst xs) ∧ G2 q = some (.lst ys) ∧ xs.length + ys.length ≤ sizeLine ∧ New G2 (.lst (xs ++ ys)) fun Y G3 => ∃ p ys, [Y] = [.ref p] ∧ SqL K G3 p ys ∧ New G3 (.tup ys) Q) := by
      intro l t G1 es g ht
      refine ⟨by show 1 ≤ sizeLine; decide, fun Lk G2 n2 u2 h2 _ => ⟨C, Lk, cvs, _, rfl, rfl, u2 _ _ (g _ _ hC), h2, Nat.le_trans (by show cvs.length + 1 ≤ 1000; omega : _ ≤ 1000) (by decide), fun Y G3 nY u3 hY _ => ⟨Y, _, rfl, .of hY, fun B G4 nB u4 hB _ => ?_⟩⟩⟩
      have s02 := g.trans (u2.trans (u3.trans u4))
      refine q1 (.ref B) (cls ++ [l]) G4 (s1.trans s02) ⟨cls, s, l, es, rfl, R1⟩ (by rw [List.length_append, List.length_singleton]; omega) (bk_of hB (All2.snoc (aC.imp fun _ _ r => r.ke (.same s02) (F := Nof)) ⟨t, rfl, u4 _ _ (u3 _ _ (u2 _ _ ht))⟩))
    cases s with
    | no => exact absurd rfl ne
    | nil =>
      obtain ⟨p, rfl, hp⟩ := id sd
      exact ⟨_, rfl, _, rfl, p, _, rfl, .inr ⟨.of hp, fin [] p H1 rfl (Same.refl _) hp⟩⟩
    | som l =>
      obtain ⟨p, rfl, hp, _⟩ := id sd
      exact ⟨_, rfl, _, rfl, p, _, rfl, .inl ⟨.of hp, fun t G1 nt u1 ht _ => fin l t G1 rfl u1 ht⟩⟩
end
end Tc
namespace Tc
open PySem PySem.Spec PyProof.Rows L2 GxR Nw Dr Kp Ev1 Tw Kc Od
open TL (tl numL_len len_tl)
/-! ### what is told of a book, shown -/
/-- isinstance(e, c) within the suite of the caught error -/
def rIsS (K : PySem.W.Frag) (cls : Value) (d : Option Addr) (a : Addr) : List V → Hp → VK → Prop := fun xs H Q => ∃ (D : Addr) (c : V) (cv : Value) (b : Bool), xs = [.ref a, c] ∧ cls = .ref D ∧ ExcC K D ∧ (∃ dx fs, d = some dx ∧ H dx = some (.xd fs)) ∧ (∀ u, RelV c u → u = cv) ∧ PySem.W.kitOne K (.ref D) cv = some b ∧ Q (.bl b) H
def rIsST (K : PySem.W.Frag) (cls : Value) (d : Option Addr) (a : Addr) : List V → Hp → VK → Prop := fun xs H Q => ∃ (D tp : Addr) (cs : List V) (us : List Value) (b : Bool), xs = [.ref a, .ref tp] ∧ cls = .ref D ∧ ExcC K D ∧ (∃ dx fs, d = some dx ∧ H dx = some (.xd fs)) ∧ H tp = some (.tup cs) ∧ Paired ClsV cs us ∧ PySem.W.kitAny K (.ref D) us = some b ∧ Q (.bl b) H
section
variable {X : Cx} {a : Addr} {oe : Obj} {cls : Value} {d : Option Addr} {pn : List (Addr × Obj)}
theorem inst_of {pins : List (Addr × Obj)} {σ : L2.St} {H : Hp} {s : Shared} {D dx : Addr} {fs : List (Str × V)} (I : Inv (X.suite a ((a, oe) :: pn)) pins σ H s) (hz : Zc (.ref D) (some dx) oe) (hf : ∃ vs, oe.data = .fields vs) (ea : H dx = some (.xd fs)) : ∃ od, PySem.W.InstAt s.heap a oe D (some od) := by
  obtain ⟨ha, _⟩ := I.pin (a, oe) (List.mem_append_left _ List.mem_cons_self)
  obtain ⟨vs, hd⟩ := hf
  have hx : ObjOk X.prog X.w H s.heap dx (.xd fs) := I.hok dx _ ea
  obtain ⟨mA, hns, hr⟩ := hx
  obtain ⟨od, ho, hl⟩ := lookIn_ns hns
  exact ⟨od, ha, hz.1, by unfold PySem.W.notCls; rw [hd] <;> rfl, by rw [hz.2]; exact ho⟩
theorem exc_cls {K : PySem.W.Frag} {D : Addr} (C : ExcC K D) : (PySem.W.clsIn K D).isSome = true := by
  obtain ⟨cd, hc, _⟩ := PySem.W.any_some C.hd
  rw [hc]
  rfl
theorem call_isS (hz : Zc cls d oe) (hf : ∃ vs, oe.data = .fields vs) : CallR (X.suite a ((a, oe) :: pn)) (.builtin "isinstance") (rIsS X.K cls d a) := by
  intro pins s σ H xs us Q I r h
  obtain ⟨D, c, cv, b, rfl, rfl, C, ⟨dx, fs, rfl, ea⟩, hcv, e, q⟩ := h
  obtain ⟨u1, u2, rfl, r1, r2⟩ := vals2 r
  cases (show u1 = Value.ref a from r1)
  have ec := hcv _ r2
  subst ec
  obtain ⟨od, J⟩ := inst_of I hz hf ea
  exact PySem.W.kia_one (PySem.W.kitx_exc (exc_cls C) C.hg C.hk C.hs C.ha C.hn C.ht C.hm) I.kIn J e (fun z => nomatch z) fun tk => ⟨.bl b, H, I.tok tk, rfl, q⟩
theorem call_isST (hz : Zc cls d oe) (hf : ∃ vs, oe.data = .fields vs) : CallR (X.suite a ((a, oe) :: pn)) (.builtin "isinstance") (rIsST X.K cls d a) := by
  intro pins s σ H xs us Q I r h
  obtain ⟨D, tp, cs, ws, b, rfl, rfl, C, ⟨dx, fs, rfl, ea⟩, hT, k, e, q⟩ := h
  obtain ⟨u1, u2, rfl, r1, r2⟩ := vals2 r
  cases (show u1 = Value.ref a from r1)
  cases (show u2 = Value.ref tp from r2)
  obtain ⟨od, J⟩ := inst_of I hz hf ea
  obtain ⟨_, its, rv, o, h1, h2, n, h3⟩ := (show ObjOk X.prog X.w H s.heap tp (.tup cs) from I.hok tp _ hT)
  have e3 := ClsV.all k rv
  subst e3
  obtain ⟨oc, od', dt, sl⟩ := o
  simp only at h2 h3
  subst h2 h3
  exact PySem.W.kia_tup (PySem.W.kitx_exc (exc_cls C) C.hg C.hk C.hs C.ha C.hn C.ht C.hm) I.kIn J h1 e (fun z => nomatch z) fun tk => ⟨.bl b, H, I.tok tk, rfl, q⟩
end
section
variable {X : Cx} {CX : CXT} {k : Nat} {f : Addr} {fd : FuncData} {ps : List Str} {sp : Sp} {E : L2.St → XK}
def tCallN (sp : Sp) (E : L2.St → XK) (t : TA) : TE := fun σ H Q => t σ H fun vs H1 => sp vs H1 Q (E σ)
theorem pe_callN {x : Str} {p pos : Pos} {e : Expr} {es : List Expr} {t : TA} (F : Gx2.FnX X.prog X.w X.K X.mg X.base CX k f fd ps sp) (gd : X.A.guards = some []) (room : Room k X.A) (gl : Gl X x) (at_ : X.mg x = some (.ref f)) (kp : PySem.W.keepIn X.K (.ref f) = true) (bind : Binds X.K fd ps []) (pass : ∀ σ, PassesAt CX X σ (E σ))
    (ha : PA X (e :: es) t) (hdb : (x == ("__debug__" : Str)) = false := by decide) (he : starEach (e :: es) X.env = (false, eval e X.env) :: starEach es X.env := by rfl) (hpl : (backTo pos (starEach es X.env)).any (·.1) = false := by rfl) :
    PE X (.Call (.Name x p) (e :: es) [] pos) (tCallN sp E t) :=
  ⟨fun pins s σ H Q I h => wpAny_Call_Name_kw (ld_glob I gl at_ (PySem.W.callWith_K (h₀ := X.base) I.ok.mod.kin kp (thn (ha.run pos pins s σ H _ I h) fun us s1 ⟨vs, H1, I1, r, q⟩ => ⟨I1.kIn, Rk.runS F gd room bind (pass σ) I1 r q⟩) he hpl) hdb)⟩
end
/-- the eight other refusals -/
abbrev nm8 : List Str := ["NoBack", "NoCut", "NoInstead", "NoLadder", "NoRow", "NoTelling", "TooGreat", "TooMany"]
structure Oth (K : PySem.W.Frag) (mg : Str → Option Value) (C S : Addr) (oc : Nat → Addr) : Prop where
  gS : mg "SpareError" = some (.ref S)
  xS : PySem.W.exmOne K (.ref C) (.ref S) = some true
  go : ∀ i x, nm8[i]? = some x → mg x = some (.ref (oc i))
  no : ∀ i, i < 8 → PySem.W.kitOne K (.ref C) (.ref (oc i)) = some false
  me : PySem.W.kitOne K (.ref C) (.ref C) = some true
  kv : PySem.W.kitOne K (.ref C) (.type "ValueError") = some true
  ec : ExcC K C
  z_isinstance : mg "isinstance" = none
  z_ValueError : mg "ValueError" = none
theorem kit8 {K : PySem.W.Frag} {t : Value} : ∀ {us : List Value}, (∀ u ∈ us, PySem.W.kitOne K t u = some false) → PySem.W.kitAny K t us = some false
  | [], _ => rfl
  | u :: r, h => kitAny_cons (h u List.mem_cons_self) (fun _ => kit8 fun v hv => h v (List.mem_cons_of_mem _ hv)) nofun
theorem Cbad.le {ws : List Str} {e : Nat} (h : Cbad ws e) : e ≤ ws.length := by
  obtain ⟨_, _, R, _⟩ := h
  exact R.le
theorem Ctold.cl {ws : List Str} {cls : List (List Int)} (h : Ctold ws cls) : ∀ c ∈ cls, Cl0 c := by
  obtain ⟨cls0, s, l, es, rfl, R⟩ := h
  obtain ⟨_, h2, h3⟩ := R.cl
  intro c hc
  rcases List.mem_append.mp hc with z | z
  · exact h2 c z
  · rw [List.mem_singleton.mp z]
    exact h3 l es
theorem sm_say : ∀ n : Fin 17, PyData.showable (.int ((n.val : Int) - 8)) = true ∧ (PyData.shown (.int ((n.val : Int) - 8))).length ≤ 4 := by decide +kernel
theorem sm_int {i : Int} (h : i ≠ 0 ∧ -8 ≤ i ∧ i ≤ 8) : Sm 45 (.int i) := by
  have := sm_say ⟨(i + 8).toNat, by omega⟩
  rw [show (((i + 8).toNat : Int) - 8) = i by omega] at this
  exact ⟨this.1, rfl, by show 0 ≤ 6; decide, Nat.le_trans this.2 (by decide)⟩
def cdat (c : List Int) : PyData := .tuple (c.map PyData.int)
def bdat (cls : List (List Int)) : PyData := .tuple (cls.map cdat)
theorem sm_cl {c : List Int} (h : Cl0 c) : Sm 2000 (cdat c) ∧ (cdat c).depth ≤ 5 := by
  constructor
  · exact (SmAll.of fun d hd => by
      obtain ⟨i, hi, rfl⟩ := List.mem_map.mp hd
      exact ⟨sm_int (h.says i hi), Nat.zero_le _⟩).tuple (n := 17) (by rw [List.length_map]; exact cl0_len h) (by decide)
  · have : PyData.depthAll (c.map PyData.int) ≤ 1 := flat_depth _ (by
      rw [List.all_eq_true]
      intro d hd
      obtain ⟨z, _, rfl⟩ := List.mem_map.mp hd
      rfl)
    show PyData.depthAll (c.map PyData.int) + 1 ≤ 5
    omega
theorem dep_cls : ∀ {cls : List (List Int)}, PyData.depthAll (cls.map cdat) ≤ 2
  | [] => by decide
  | c :: r => by
    have h1 : PyData.depthAll (c.map PyData.int) ≤ 1 := flat_depth _ (by
      rw [List.all_eq_true]
      intro d hd
      obtain ⟨z, _, rfl⟩ := List.mem_map.mp hd
      rfl)
    refine Nat.max_le.mpr ⟨?_, dep_cls (cls := r)⟩
    show PyData.depthAll (c.map PyData.int) + 1 ≤ 2
    omega
def dueC : List (List Int) ⊕ Nat → PyData
  | .inl cls => .tuple [.str "told", bdat cls]
  | .inr e => .tuple [.str "refused", .int (e : Nat)]
theorem smc_txt {d : PyData} (h : (d.showable && !d.hasDict && decide (d.depth ≤ 2) && decide (d.shown.length ≤ 45)) = true) : Sm 45 d := by
  simp only [Bool.and_eq_true, decide_eq_true_eq, Bool.not_eq_true'] at h
  obtain ⟨⟨⟨h1, h2⟩, h3⟩, h4⟩ := h
  exact ⟨h1, h2, by omega, h4⟩
theorem smc_told {cls : List (List Int)} (h : ∀ c ∈ cls, Cl0 c) (l : cls.length ≤ 20) : Sm 700000 (dueC (.inl cls)) := by
  have h1 : Sm 300000 (bdat cls) := (SmAll.of fun d hd => by
    obtain ⟨r, hr, rfl⟩ := List.mem_map.mp hd
    exact sm_cl (h r hr)).tuple (n := 20) (by rw [List.length_map]; exact l) (by decide)
  have d1 : (bdat cls).depth ≤ 5 := by
    have := dep_cls (cls := cls)
    show PyData.depthAll (cls.map cdat) + 1 ≤ 5
    omega
  exact (SmAll.cons ((smc_txt (d := .str "told") (by decide +kernel)).mono (by decide : 45 ≤ 300000)) (Nat.zero_le _) (SmAll.cons h1 d1 .nil)).tuple (n := 2) (by show 2 ≤ 2; decide) (by decide)
set_option exponentiation.threshold 2000 in
theorem lg6 {m : Nat} (hm : m ≤ 60000) : ((m : Int)).natAbs.log2 < 1920 := by
  rw [Int.natAbs_natCast]
  by_cases z : m = 0
  · rw [z]
    decide
  · exact (Nat.log2_lt z).mpr (Nat.lt_of_lt_of_le (show m < 2 ^ 16 by omega) (Nat.pow_le_pow_right (by decide) (by decide)))
theorem smc_big {e : Nat} (h : e ≤ 60000) : Sm 45 (.int (e : Nat)) := by
  refine ⟨decide_eq_true (lg6 h), rfl, by show 0 ≤ 6; decide, ?_⟩
  show (numT (e : Int)).length ≤ 45
  rw [len_tl, numT_tl]
  exact Nat.le_trans (numL_len (k := 5) (by decide) (by omega)) (by decide)
theorem smc_bad {e : Nat} (h : e ≤ 60000) : Sm 400 (dueC (.inr e)) :=
  (SmAll.cons (smc_txt (d := .str "refused") (by decide +kernel)) (Nat.zero_le _) (SmAll.cons (smc_big h) (Nat.zero_le _) .nil)).tuple (n := 4) (by show 2 ≤ 4; decide) (by decide)
theorem dp_cl {K : PySem.W.Frag} {H : Hp} {v : V} {c : List Int} (h : TupI H v c) : Dp K H v (cdat c) := by
  obtain ⟨a, rfl, h⟩ := h
  exact .tup (.of h) (dp_ints c)
theorem dp_cls {K : PySem.W.Frag} {H : Hp} : ∀ {vs : List V} {cls : List (List Int)}, All2 (TupI H) vs cls → DpAll K H vs (cls.map cdat)
  | [], [], _ => .nil
  | [], _ :: _, h => by cases h.1
  | _ :: _, [], h => by cases h.1
  | v :: t, r :: u, h => .cons (dp_cl (h.2 0 v r rfl rfl)) (dp_cls ⟨by have := h.1; simp only [List.length_cons] at this; omega, fun i x y h1 h2 => h.2 (i + 1) x y h1 h2⟩)
theorem dp_bk {K : PySem.W.Frag} {H : Hp} {v : V} {cls : List (List Int)} (h : Bk H v cls) : Dp K H v (bdat cls) := by
  obtain ⟨a, vs, rfl, h, l, r⟩ := h
  exact .tup (.of h) (dp_cls ⟨l, r⟩)
structure Zr (mg : Str → Option Value) : Prop where
  z_int : mg "int" = none
  z_repr : mg "repr" = none
  z_isinstance : mg "isinstance" = none
section
variable {P : Program} {w : World} {K : PySem.W.Frag} {mg : Str → Option Value} {base : Heap}
abbrev sTol : Stmt := topS 44
theorem scTol : FnScope ["text", "found", "e", "others"] ["text"] (defScope sTol) := ⟨rfl, rfl, rfl, by decide +kernel, rfl, by decide +kernel, by decide +kernel⟩
def spTol (Pc Pr Po : Addr) : Sp := fun vs H Q _ => ∃ x : Str, vs = [.str x] ∧ x.length ≤ 50000 ∧ TabG H Pc ∧ TabG H Pr ∧ TabG H Po ∧ (∀ (t : Addr) (b : V) (cls : List (List Int)) H', Ke Nof H H' → Ctold (Txt.split x " ") cls → cls.length ≤ 16 → Bk H' b cls → H' t = some (.tup [.str "told", b]) → Q (.ref t) H') ∧
  ∀ (t : Addr) (e : Nat) H', Ke Nof H H' → Cbad (Txt.split x " ") e → H' t = some (.tup [.str "refused", .int e]) → Q (.ref t) H'
theorem ok_tol {f fR f1 C S Pc Pr Po : Addr} {oc : Nat → Addr} {fd fdR fd1 : FuncData} (F : Fun K "_law_e_told" "_law_e_told" sTol f fd) (N : NT P w K mg base C f1 fd1) (XF : XfC K C) (O : Oth K mg C S oc)
    (FR : Fun K "read_book" "read_book" sRbk fR fdR) (bR : Binds K fdR ["text"] []) (gR : mg "read_book" = some (.ref fR)) (GR : Gx2.FnX P w K mg base (L2.CX P w) 9 fR fdR ["text"] (spRbk C Pc Pr Po)) :
    Gx2.FnX P w K mg base CX0 10 f fd ["text"] (spTol Pc Pr Po) := by
  refine Gx2.okX F scTol (fun vs H Q E h => ?_) (fun cdv A outer s H vs Q E gd0 hr h => ?_)
  · obtain ⟨x, rfl, _⟩ := h
    rfl
  · obtain ⟨x, rfl, lx, t1, t2, t3, q1, q2⟩ := h
    have hr9 : Room 9 _ := hr
    have gd : (A.deeper (envOfC "_law_e_told" (defScope sTol) s.heap.objs.size f cdv)).guards = some [] := gd0
    refine ⟨_, (Evl.pss_cut (ps_set (i := 1) scTol.nd rfl (.inl rfl) (pe_tupN (pa_cons pe_str (pa_cons pe_int pa_nil))))
      (Evl.pss_cut (ps_try_as (i := 2) rfl rfl scTol.nd rfl rfl ⟨rfl, by decide, .inl O.gS⟩ Rk.takes0 (fun W pn xe tk _ => (pss_one (ps_set (i := 1) scTol.nd rfl (.inl rfl) (pe_tupN (pa_cons pe_str (pa_cons (pe_callN GR gd hr9 (by rfl) gR FR.kp bR (fun σ => passAt tk σ) (pa_cons (pv 0) pa_nil)) pa_nil)))))) (fun a oe cls d pn hz hf => (pss_cons (ps_set (i := 3) scTol.nd rfl (.inl rfl) (pe_callB (call_isST hz hf) (by rfl) O.z_isinstance (by decide +kernel) (pa_cons (pv 2) (pa_cons (pe_tupN (pa_cons (pe_glob (v := .ref (oc 0)) rfl (O.go 0 _ rfl) rfl) (pa_cons (pe_glob (v := .ref (oc 1)) rfl (O.go 1 _ rfl) rfl) (pa_cons (pe_glob (v := .ref (oc 2)) rfl (O.go 2 _ rfl) rfl) (pa_cons (pe_glob (v := .ref (oc 3)) rfl (O.go 3 _ rfl) rfl) (pa_cons (pe_glob (v := .ref (oc 4)) rfl (O.go 4 _ rfl) rfl) (pa_cons (pe_glob (v := .ref (oc 5)) rfl (O.go 5 _ rfl) rfl) (pa_cons (pe_glob (v := .ref (oc 6)) rfl (O.go 6 _ rfl) rfl) (pa_cons (pe_glob (v := .ref (oc 7)) rfl (O.go 7 _ rfl) rfl) pa_nil))))))))) pa_nil))))
      (pss_one (ps_if (PW.pt (pw_and (pt_val (pe_callB (call_isS hz hf) (by rfl) O.z_isinstance (by decide +kernel) (pa_cons (pv 2) (pa_cons (pe_glob (v := .ref C) rfl N.g rfl) pa_nil)))) (pw_and (pt_val (pe_callB (call_isS hz hf) (by rfl) O.z_isinstance (by decide +kernel) (pa_cons (pv 2) (pa_cons (pe_bltn (v := .ty "ValueError") (by rfl) O.z_ValueError PyProof.Rows.Boot.«ValueError» rfl) pa_nil)))) (pw_and1 (pt_not (pt_val (pv 3))))))) (pss_one (ps_set (i := 1) scTol.nd rfl (.inl rfl) (pe_tupN (pa_cons pe_str (pa_cons (pe_xf XF N.nf hz hf (pv 2)) pa_nil))))) pss_nil)))))
      (pss_one (ps_ret (pv 1))))), ?_⟩
    refine Evl.q_cut (M := fun σ' H' => ∃ y : V, σ' = [some (.str x), some y, none, none] ∧ Same H H') ?_ ?_
    · exact ⟨by show 2 ≤ sizeLine; decide, fun p H1 np s1 hp _ => ⟨_, rfl, s1⟩⟩
    rintro σ' H1 ⟨y, rfl, s1⟩
    have k1 : Ke Nof H H1 := .same s1
    refine Evl.q_cut (M := fun σ' H' => ∃ (t : Addr) (y3 : Option V), σ' = [some (.str x), some (.ref t), none, y3] ∧ Ke Nof H H' ∧ ((∃ (b : V) (cls : List (List Int)), Ctold (Txt.split x " ") cls ∧ cls.length ≤ 16 ∧ Bk H' b cls ∧ H' t = some (.tup [.str "told", b])) ∨ ∃ e : Nat, Cbad (Txt.split x " ") e ∧ H' t = some (.tup [.str "refused", .int e]))) ?_ ?_
    · refine ⟨_, rfl, x, rfl, lx, k1.tabs _ t1, k1.tabs _ t2, k1.tabs _ t3, fun b cls H2 k2 td l2 hb => ?_, fun e H2 k2 bad dx H3 s3 hx => ?_⟩
      · exact ⟨by show 2 ≤ sizeLine; decide, fun t H3 nt s3 ht _ => ⟨t, _, rfl, k1.trans (k2.trans (.same s3)), .inl ⟨b, cls, td, l2, hb.ke (.same s3) (F := Nof), ht⟩⟩⟩
      · have k13 : Ke Nof H H3 := k1.trans (k2.trans (.same s3))
        refine ⟨true, O.xS, fun _ a na => ?_, fun z => nomatch z⟩
        refine ⟨_, rfl, by show 8 ≤ sizeLine; decide, fun tp H4 ntp s4 htp _ => ?_⟩
        refine ⟨C, tp, _, [oc 0, oc 1, oc 2, oc 3, oc 4, oc 5, oc 6, oc 7].map Value.ref, false, rfl, rfl, O.ec, ⟨dx, _, rfl, s4 _ _ hx⟩, htp, ?_, kit8 fun u hu => ?_, ?_⟩
        · exact .cons (.own _) (.cons (.own _) (.cons (.own _) (.cons (.own _) (.cons (.own _) (.cons (.own _) (.cons (.own _) (.cons (.own _) .nil)))))))
        · obtain ⟨z, hz, rfl⟩ := List.mem_map.mp hu
          simp only [List.mem_cons, List.not_mem_nil, or_false] at hz
          rcases hz with rfl | rfl | rfl | rfl | rfl | rfl | rfl | rfl
          · exact O.no 0 (by decide)
          · exact O.no 1 (by decide)
          · exact O.no 2 (by decide)
          · exact O.no 3 (by decide)
          · exact O.no 4 (by decide)
          · exact O.no 5 (by decide)
          · exact O.no 6 (by decide)
          · exact O.no 7 (by decide)
        refine ⟨_, rfl, C, .ref C, .ref C, true, rfl, rfl, O.ec, ⟨dx, _, rfl, s4 _ _ hx⟩, fun u r => r, O.me, true, rfl, ?_⟩
        refine ⟨_, rfl, C, .ty "ValueError", .type "ValueError", true, rfl, rfl, O.ec, ⟨dx, _, rfl, s4 _ _ hx⟩, fun u r => r, O.kv, true, rfl, ?_⟩
        refine ⟨_, rfl, false, rfl, ?_⟩
        exact ⟨_, rfl, rfl, rfl, dx, _, _, rfl, s4 _ _ hx, rfl, by show 2 ≤ sizeLine; decide, fun t H5 nt s5 ht _ => ⟨t, _, rfl, k13.trans (.same (s4.trans s5)), .inr ⟨e, bad, ht⟩⟩⟩
    rintro σ' H2 ⟨t, y3, rfl, k2, z⟩
    rcases z with ⟨b, cls, td, l2, hb, ht⟩ | ⟨e, bad, ht⟩
    · exact ⟨_, rfl, q1 t b cls H2 k2 td l2 hb ht⟩
    · exact ⟨_, rfl, q2 t e H2 k2 bad ht⟩
abbrev sRgt : Stmt := topS 45
theorem scRgt : FnScope ["text", "due"] ["text"] (defScope sRgt) := ⟨rfl, rfl, rfl, by decide +kernel, rfl, by decide +kernel, by decide +kernel⟩
def spRgt (Pc Pr Po : Addr) : Sp := fun vs H Q _ => ∃ x : Str, vs = [.str x] ∧ x.length ≤ 50000 ∧ TabG H Pc ∧ TabG H Pr ∧ TabG H Po ∧ ∀ H', Ke Nof H H' → Q (.bl true) H'
theorem ok_rgt {f fL fT Pc Pr Po : Addr} {fd fdL fdT : FuncData} (F : Fun K "_law_e_right" "_law_e_right" sRgt f fd) (T : Zr mg)
    (FL : Fun K "_law_e_book_read" "_law_e_book_read" sBre fL fdL) (bL : Binds K fdL ["text"] []) (gL : mg "_law_e_book_read" = some (.ref fL)) (GL : FnOk P w K mg base CX0 1 fL fdL ["text"] spBre)
    (FT : Fun K "_law_e_told" "_law_e_told" sTol fT fdT) (bT : Binds K fdT ["text"] []) (gT : mg "_law_e_told" = some (.ref fT)) (GT : Gx2.FnX P w K mg base CX0 10 fT fdT ["text"] (spTol Pc Pr Po)) :
    Gx2.FnX P w K mg base CX0 11 f fd ["text"] (spRgt Pc Pr Po) := by
  refine Gx2.okX F scRgt (fun vs H Q E h => ?_) (fun cdv A outer s H vs Q E gd0 hr h => ?_)
  · obtain ⟨x, rfl, _⟩ := h
    rfl
  · obtain ⟨x, rfl, lx, t1, t2, t3, q⟩ := h
    have hr1 : Room 1 _ := hr.mono (by omega)
    have hr10 : Room 10 _ := hr
    have gd : (A.deeper (envOfC "_law_e_right" (defScope sRgt) s.heap.objs.size f cdv)).guards = some [] := gd0
    have hu : (A.deeper (envOfC "_law_e_right" (defScope sRgt) s.heap.objs.size f cdv)).units + 70 < cLine := by
      have := hr.un
      omega
    refine ⟨_, (Evl.pss_cut (ps_set (i := 1) scRgt.nd rfl (.inl rfl) (pe_call GL hr1 (by rfl) gL FL.kp bL .nil pass0 (pa_cons (pv 0) pa_nil)))
      (pss_one (ps_ret (pe_cmpR op_eq (pe_callB (Rpa.cr_reprA gd hu) (by rfl) T.z_repr (by decide +kernel) (pa_cons (Gx2.pe_callX GT gd hr10 (by rfl) gT FT.kp bT .nil pass0 (pa_cons (pv 0) pa_nil)) pa_nil)) (pe_callB (Rpa.cr_reprA gd hu) (by rfl) T.z_repr (by decide +kernel) (pa_cons (pe_tupN (pa_cons (pe_ix ix_list (pe_lstN (pa_cons pe_str (pa_cons pe_str pa_nil))) (pe_callTy call_int1 (by rfl) T.z_int (by decide +kernel) (pa_cons (pe_callB call_isi (by rfl) T.z_isinstance (by decide +kernel) (pa_cons (pv 1) (pa_cons (pe_bltn (v := .ty "int") (u := .type "int") (by rfl) T.z_int (by decide +kernel) rfl) pa_nil))) pa_nil)) (fun _ _ => rfl)) (pa_cons (pv 1) pa_nil))) pa_nil)) (nomark _))))), ?_⟩
    have wl := Tw.split_len x
    obtain ⟨ws, ews⟩ : ∃ ws, ws = Txt.split x " " := ⟨_, rfl⟩
    rw [← ews] at wl
    refine Evl.q_cut (M := fun σ' H' => ∃ v : V, σ' = [some (.str x), some v] ∧ Same H H' ∧ ((∃ (cls : List (List Int)), Bk H' v cls ∧ Ctold ws cls ∧ cls.length ≤ 16) ∨ ∃ e : Nat, v = .int e ∧ Cbad ws e)) ?_ ?_
    · exact ⟨_, rfl, x, rfl, lx, fun b cls H1 s1 td l2 hb => ⟨_, rfl, s1, .inl ⟨cls, hb, by rw [ews]; exact td, l2⟩⟩, fun e H1 s1 bad => ⟨_, rfl, s1, .inr ⟨e, rfl, by rw [ews]; exact bad⟩⟩⟩
    rintro σ' H1 ⟨v, rfl, s1, hv⟩
    have k1 : Ke Nof H H1 := .same s1
    refine ⟨_, rfl, x, rfl, lx, k1.tabs _ t1, k1.tabs _ t2, k1.tabs _ t3, fun t b cls H2 k2 td l2 hb ht => ?_, fun t e H2 k2 bad ht => ?_⟩
    · rw [← ews] at td
      rcases hv with ⟨cls', hb', td', _⟩ | ⟨e, rfl, bad⟩
      · obtain rfl := td.one td'
        have sm := smc_told td.cl (by omega)
        obtain ⟨a', vs', rfl, h', r'⟩ := hb'
        have h'2 := k2.tups _ _ h'
        have hb2 : Bk H2 (.ref a') cls := Bk.ke ⟨a', vs', rfl, h', r'⟩ k2
        refine ⟨.ref t, dueC (.inl cls), rfl, .tup (.of ht) (.cons (.str _) (.cons (dp_bk hb) .nil)), sm.sh, sm.nd, Nat.le_trans sm.dp (by decide), Nat.le_trans sm.sz (by decide), ?_⟩
        refine ⟨by show 2 ≤ sizeLine; decide, fun Lk G1 n1 u1 h1 _ => ?_⟩
        refine ⟨_, rfl, .ref a', .ty "int", .type "tuple", .type "int", false, rfl, .ty _, .base (.tup (u1 _ _ h'2)), kit_ty (by decide +kernel), .inr ⟨_, rfl, Lk, _, _, .str "told", rfl, rfl, .of h1, at_of (j := 0) rfl rfl, _, rfl, by show 2 ≤ sizeLine; decide, fun p G2 n2 u2 h2 _ => ?_⟩⟩
        have u12 := u1.trans u2
        refine ⟨.ref p, dueC (.inl cls), rfl, .tup (.of h2) (.cons (.str _) (.cons (dp_bk (hb2.ke (.same u12) (F := Nof))) .nil)), sm.sh, sm.nd, Nat.le_trans sm.dp (by decide), Nat.le_trans sm.sz (by decide), rfl, ?_⟩
        rw [decide_eq_true rfl]
        exact q G2 (k1.trans (k2.trans (.same u12)))
      · exact (bad.told td).elim
    · rw [← ews] at bad
      rcases hv with ⟨cls', hb', td', _⟩ | ⟨e', rfl, bad'⟩
      · exact (bad.told td').elim
      · obtain rfl := bad.one bad'
        have sm := smc_bad (e := e) (by have := bad.le; omega)
        refine ⟨.ref t, dueC (.inr e), rfl, .tup (.of ht) (.cons (.str _) (.cons (.int _) .nil)), sm.sh, sm.nd, Nat.le_trans sm.dp (by decide), Nat.le_trans sm.sz (by decide), ?_⟩
        refine ⟨by show 2 ≤ sizeLine; decide, fun Lk G1 n1 u1 h1 _ => ?_⟩
        refine ⟨_, rfl, .int (e : Nat), .ty "int", .type "int", .type "int", true, rfl, .ty _, .base (.int _), kit_ty (by decide +kernel), .inr ⟨_, rfl, Lk, _, _, .str "refused", rfl, rfl, .of h1, at_of (j := 1) rfl rfl, _, rfl, by show 2 ≤ sizeLine; decide, fun p G2 n2 u2 h2 _ => ?_⟩⟩
        refine ⟨.ref p, dueC (.inr e), rfl, .tup (.of h2) (.cons (.str _) (.cons (.int _) .nil)), sm.sh, sm.nd, Nat.le_trans sm.dp (by decide), Nat.le_trans sm.sz (by decide), rfl, ?_⟩
        rw [decide_eq_true rfl]
        exact q G2 (k1.trans (k2.trans (.same (u1.trans u2))))
end
end Tc
namespace Nw
open PySem PySem.Spec PyProof.Rows L2
theorem prg_cl {X : Cx} {e : Expr} {te : L2.St → Hp → (Int → Int → Hp → Prop) → Prop} (he : PRg X e te) : PRg X e (fun σ H Q => ∃ R : Int → Int → Hp → Prop, (∀ a b H1, R a b H1 → Q a b H1) ∧ te σ H R) := by
  intro pins s σ H Q I ⟨R, i, q⟩
  refine thn (he pins s σ H R I q) fun x s1 ⟨r, a, b, t, u, v, H1, ex, hr, I1, z⟩ => ⟨r, a, b, t, u, v, H1, ex, hr, I1, i a b H1 z⟩
theorem pe_listRgN {X : Cx} {e : Expr} {te : L2.St → Hp → (Int → Int → Hp → Prop) → Prop} {p pos : Pos} (hc : X.calm = true) (hg : Gl X "list") (hm : X.mg "list" = none) (he : PRg X e te) (na : starEach [e] X.env = (false, eval e X.env) :: starEach [] X.env := by rfl) :
    PE X (.Call (.Name "list" p) [e] [] pos) (fun σ H Q => te σ H fun a b H1 => RgOk a b ∧ New H1 (.lst (rgV a b)) Q) :=
  pe_weak (pe_listRg hc hg hm (prg_cl he) na) fun _ _ _ q => ⟨_, fun _ _ _ z => ⟨z.1, z.2.to⟩, q⟩
end Nw
namespace Cl
open PySem PySem.Spec PyProof.Rows L2 GxR Nw Dr Kp
abbrev sClm : Stmt := topS 38
abbrev sBok : Stmt := topS 39
theorem scClm : FnScope ["pen", "most", "wide", "things", "found", "turn", "thing"] ["pen", "most", "wide"] (defScope sClm) := ⟨rfl, rfl, rfl, by decide +kernel, rfl, by decide +kernel, by decide +kernel⟩
theorem scBok : FnScope ["pen", "most", "many", "wide", "found", "turn", "claim"] ["pen", "most"] (defScope sBok) := ⟨rfl, rfl, rfl, by decide +kernel, rfl, by decide +kernel, by decide +kernel⟩
/-- the built-ins that stand as they stood -/
structure Zs (mg : Str → Option Value) : Prop where
  z_len : mg "len" = none
  z_list : mg "list" = none
  z_range : mg "range" = none
  z_min : mg "min" = none
  z_tuple : mg "tuple" = none
  z_sorted : mg "sorted" = none
/-- things: numbers from 1 to 8, none twice -/
structure Thg (ks : List Int) : Prop where
  nd : ks.Nodup
  one : ∀ k ∈ ks, 1 ≤ k ∧ k ≤ 8
  len : ks.length ≤ 8
theorem perm_pop : ∀ {l : List Int} {d : Nat} {y : Int}, l[d]? = some y → (y :: l.eraseIdx d).Perm l
  | [], _, _, h => by simp at h
  | a :: r, 0, y, h => by
    have e : a = y := Option.some.inj h
    subst e
    exact .refl _
  | a :: r, d + 1, y, h => by
    have ih := perm_pop (l := r) (d := d) (y := y) h
    exact (List.Perm.swap a y _).trans (.cons a ih)
theorem erase_len {l : List Int} {d : Nat} (h : d < l.length) : (l.eraseIdx d).length = l.length - 1 := List.length_eraseIdx_of_lt h
theorem erase_map : ∀ (l : List Int) (d : Nat), (l.map V.int).eraseIdx d = (l.eraseIdx d).map V.int
  | [], _ => rfl
  | _ :: _, 0 => rfl
  | a :: r, d + 1 => congrArg (V.int a :: ·) (erase_map r d)
theorem ix_seq {d : Int} {n : Nat} (h0 : 0 ≤ d) (h1 : d < (n : Int)) : seqIndex? d n = some d.toNat := by
  have e : ixN n d = some d.toNat := by
    unfold ixN
    rw [if_pos h0, if_pos h1]
  exact (ixN_seq e).1
theorem abs_nd : ∀ {l : List Int}, (l.map fun s => (s.natAbs : Int)).Nodup → l.Nodup ∧ ∀ k ∈ l, k ≠ 0 → -k ∉ l := fun {l} h => by
  refine ⟨(List.pairwise_map.mp h).imp (fun {a b} z e => z (by rw [e])), fun k hk h0 hn => ?_⟩
  have inj : ∀ a ∈ l, ∀ b ∈ l, (a.natAbs : Int) = b.natAbs → a = b := fun a ha b hb e => by
    obtain ⟨i, hi, ei⟩ := List.getElem_of_mem ha
    obtain ⟨j, hj, ej⟩ := List.getElem_of_mem hb
    have hij : (l.map fun s => (s.natAbs : Int))[i]'(by rw [List.length_map]; exact hi) = (l.map fun s => (s.natAbs : Int))[j]'(by rw [List.length_map]; exact hj) := by
      rw [List.getElem_map, List.getElem_map, ei, ej]
      exact e
    have := (List.getElem_inj h).mp hij
    subst this
    rw [← ei, ← ej]
  have := inj k hk (-k) hn (by omega)
  omega
theorem cl_of {says left ks ns : List Int} (T : Thg ks) (pm : ((says.map fun s => (s.natAbs : Int)) ++ left).Perm ks) (pn : ns.Perm says) (so : ns.Pairwise (· ≤ ·)) : IsCl ns ∧ ∀ s ∈ ns, (s.natAbs : Int) ∈ ks := by
  have nd := (List.nodup_append.mp (pm.nodup_iff.mpr T.nd)).1
  obtain ⟨n1, n2⟩ := abs_nd nd
  have mem : ∀ s ∈ ns, (s.natAbs : Int) ∈ ks := fun s hs => pm.mem_iff.mp (List.mem_append_left _ (List.mem_map.mpr ⟨s, pn.mem_iff.mp hs, rfl⟩))
  have nn : ns.Nodup := pn.nodup_iff.mpr n1
  have bd : ∀ s ∈ ns, s ≠ 0 ∧ -8 ≤ s ∧ s ≤ 8 := fun s hs => by
    have := T.one _ (mem s hs)
    omega
  refine ⟨⟨?_, bd, fun k hk hn => n2 k (pn.mem_iff.mp hk) (bd k hk).1 (pn.mem_iff.mp hn), ?_⟩, mem⟩
  · have := List.Pairwise.and so nn
    exact this.imp fun {a b} h => by
      obtain ⟨h1, h2⟩ := h
      omega
  · have l1 := pn.length_eq
    have l2 := pm.length_eq
    rw [List.length_append, List.length_map] at l2
    have := T.len
    omega
/-- a list of claims as it grows -/
def Ls (H : Hp) (L : Addr) (css : List (List Int)) : Prop := ∃ vs, H L = some (.lst vs) ∧ vs.length = css.length ∧ ∀ (i : Nat) (x : V) (cs : List Int), vs[i]? = some x → css[i]? = some cs → TupI H x cs
theorem ix_append {α β : Type} {R : α → β → Prop} {vs : List α} {ys : List β} {v : α} {y : β} (l : vs.length = ys.length) (h : ∀ (i : Nat) (x : α) (z : β), vs[i]? = some x → ys[i]? = some z → R x z) (r : R v y) :
    ∀ (i : Nat) (x : α) (z : β), (vs ++ [v])[i]? = some x → (ys ++ [y])[i]? = some z → R x z := by
  intro i x z h1 h2
  by_cases hi : i < vs.length
  · rw [List.getElem?_append_left hi] at h1
    rw [List.getElem?_append_left (by omega)] at h2
    exact h i x z h1 h2
  · have e : i = vs.length := by
      have := (List.getElem?_eq_some_iff.mp h1).1
      rw [List.length_append, List.length_singleton] at this
      omega
    subst e
    rw [List.getElem?_append_right (Nat.le_refl _), Nat.sub_self] at h1
    rw [List.getElem?_append_right (by omega), show vs.length - ys.length = 0 by omega] at h2
    cases h1
    cases h2
    exact r

theorem rg_ints (a b : Int) : rgV a b = ((List.range (b - a).toNat).map fun i => a + ((i : Nat) : Int)).map V.int := by
  unfold rgV
  rw [List.map_map]
  rfl
theorem rg_thg {m : Int} (h0 : 0 ≤ m) (h8 : m ≤ 8) : Thg ((List.range (m + 1 - 1).toNat).map fun i => (1 : Int) + ((i : Nat) : Int)) := by
  refine ⟨?_, fun k hk => ?_, ?_⟩
  · refine List.pairwise_map.mpr (List.Pairwise.imp (fun {a b} z e => z ?_) List.nodup_range)
    omega
  · obtain ⟨i, hi, rfl⟩ := List.mem_map.mp hk
    have := List.mem_range.mp hi
    omega
  · rw [List.length_map, List.length_range]
    omega
section
variable {P : Program} {w : World} {K : PySem.W.Frag} {mg : Str → Option Value} {base : Heap} {fD fM : Addr} {fdD fdM : FuncData}
/-- claim(pen, most, wide) -/
def spClm : Sp := fun vs H Q _ => ∃ (f c : Addr) (mo wi : Int) (B : Nat), vs = [.ref f, .int mo, .int wi] ∧ 1 ≤ mo ∧ mo ≤ 8 ∧ 0 ≤ wi ∧ wi ≤ 8 ∧ Feed H f c B ∧ B ≤ 2 ^ 27 ∧
  ∀ (cs : List Int) (p : Addr) (H' : Hp), Feed H' f c (B + 20) → Ke (· = f) H H' → Frs H p → H' p = some (.tup (cs.map V.int)) → IsCl cs → (∀ s ∈ cs, (s.natAbs : Int) ≤ mo) → (cs.length : Int) ≤ wi → Q (.ref p) H'
theorem ok_clm {f : Addr} {fd : FuncData} {k : Nat} (F : Fun K "_law_e_claim" "_law_e_claim" sClm f fd) (T : Zs mg) (FD : Fun K "_law_e_take" "_law_e_take" sDrw fD fdD) (bD : Binds K fdD ["pen", "many"] []) (gD : mg "_law_e_take" = some (.ref fD)) (GD : FnOk P w K mg base CX0 2 fD fdD ["pen", "many"] spDrw) :
    FnOk P w K mg base CX0 (k + 3) f fd ["pen", "most", "wide"] spClm := by
  refine F.ok scClm (fun vs H Q E h => ?_) (fun cdv A outer s H vs Q E hr h => ?_)
  · obtain ⟨f, c, mo, wi, B, rfl, _⟩ := h
    rfl
  · obtain ⟨f, c, mo, wi, B, rfl, m1, m8, w0, w8, hF, hB, q⟩ := h
    have hr2 : Room 2 _ := hr.mono (by omega)
    refine ⟨_, (Evl.pss_cut (ps_set (i := 3) scClm.nd rfl (.inl rfl) (pe_listRgN rfl (by rfl) T.z_list (prg_2 (by rfl) T.z_range pe_int (pe_op op_add (pv 1) pe_int))))
      (pss_cons (ps_set (i := 4) scClm.nd rfl (.inl rfl) (pe_lstN pa_nil))
      (Evl.pss_cut (ps_for PassesOwn.never rfl (pi_range1 (by rfl) T.z_range (pa_cons (pe_callB (call_min2 rfl) (by rfl) T.z_min (by decide +kernel) (pa_cons (pv 1) (pa_cons (pe_call GD hr2 (by rfl) gD FD.kp bD .nil pass0 (pa_cons (pv 0) (pa_cons (pe_op op_add (pv 2) pe_int) pa_nil))) pa_nil))) pa_nil)) (pg_name (i := 5) scClm.nd rfl (.inl rfl)) (pss_cons (ps_set (i := 6) scClm.nd rfl (.inl rfl) (pe_bm PySem.F.plainAttrs_list PySem.F.slot_list_pop PySem.F.type_list_pop mt_popAt (pv 3) (pa_cons (pe_call GD hr2 (by rfl) gD FD.kp bD .nil pass0 (pa_cons (pv 0) (pa_cons (pe_callB call_len_seq (by rfl) T.z_len (by decide +kernel) (pa_cons (pv 3) pa_nil)) pa_nil))) pa_nil)))
      (pss_one (ps_expr (pe_bm PySem.F.plainAttrs_list PySem.F.slot_list_append PySem.F.type_list_append mt_append (pv 4) (pa_cons (pe_ix ix_list (pe_lstN (pa_cons (pv 6) (pa_cons (pe_op op_sub pe_int (pv 6)) pa_nil))) (pe_call GD hr2 (by rfl) gD FD.kp bD .nil pass0 (pa_cons (pv 0) (pa_cons pe_int pa_nil))) (fun _ _ => rfl)) pa_nil))))))
      (pss_one (ps_ret (pe_callTy call_tuple_ofN (by rfl) T.z_tuple (by decide +kernel) (pa_cons (pe_callB cr_sortedN (by rfl) T.z_sorted (by decide +kernel) (pa_cons (pv 4) pa_nil)) pa_nil))))))), ?_⟩
    have Tk := rg_thg (by omega : 0 ≤ mo) m8
    have mk : ∀ k ∈ ((List.range (mo + 1 - 1).toNat).map fun i => (1 : Int) + ((i : Nat) : Int)), k ≤ mo := fun k hk => by
      obtain ⟨i, hi, rfl⟩ := List.mem_map.mp hk
      have := List.mem_range.mp hi
      omega
    have lk : (((List.range (mo + 1 - 1).toNat).map fun i => (1 : Int) + ((i : Nat) : Int)).length : Int) = mo := by
      rw [List.length_map, List.length_range]
      omega
    have rg := rg_ints 1 (mo + 1)
    generalize ((List.range (mo + 1 - 1).toNat).map fun i => (1 : Int) + ((i : Nat) : Int)) = ks at Tk mk lk rg
    -- things
    refine Evl.q_cut (M := fun σ' H' => ∃ L, σ' = [some (.ref f), some (.int mo), some (.int wi), some (.ref L), none, none, none] ∧ H L = none ∧ Same H H' ∧ H' L = some (.lst (ks.map V.int))) ?_ ?_
    · exact ⟨_, rfl, _, _, rfl, rfl, 1, mo + 1, rfl, rfl, .of_le (by omega) (by omega) (by omega) (by omega), fun L H1 nL s1 hL _ => ⟨L, rfl, nL, s1, rg ▸ hL⟩⟩
    rintro σ' H1 ⟨L, rfl, nL, s1, hL⟩
    refine ⟨Nat.zero_le _, fun S H2 nS s2 hS _ => ?_⟩
    have F2 : Feed H2 f c B := hF.same (s1.trans s2)
    have nLf : L ≠ f := hF.nf nL
    have nLc : L ≠ c := hF.nc nL
    have nSL : S ≠ L := Ne.symm (ne_of_none hL nS)
    have nSf : S ≠ f := (hF.same s1).nf nS
    have nSc : S ≠ c := (hF.same s1).nc nS
    have frL : Frs H L := .of nL
    have frS : Frs H S := .of (s1.free nS)
    have hL2 : H2 L = some (.lst (ks.map V.int)) := s2 _ _ hL
    -- the loop
    refine Evl.q_cut (M := fun σ' H' => ∃ (y5 y6 : Option V) (left says : List Int), σ' = [some (.ref f), some (.int mo), some (.int wi), some (.ref L), some (.ref S), y5, y6] ∧ Feed H' f c (B + 20) ∧ Ke (· = f) H H' ∧ H' S = some (.lst (says.map V.int)) ∧ (says.length : Int) ≤ wi ∧ ((says.map fun s => (s.natAbs : Int)) ++ left).Perm ks) ?_ ?_
    · refine ⟨_, rfl, _, rfl, _, rfl, _, _, rfl, rfl, f, c, _, B, rfl, by omega, by omega, F2, by omega, fun d H3 d0 d1 F3 b3 => ?_⟩
      refine ⟨_, _, rfl, ?_⟩
      generalize hn : (if d < mo then d else mo) = n
      have n0 : 0 ≤ n ∧ n ≤ wi ∧ n ≤ mo := by
        split at hn <;> omega
      have tl := Tk.len
      have hL3 : H3 L = some (.lst (ks.map V.int)) := b3.lst hL2 nLf
      have hS3 : H3 S = some (.lst (([] : List Int).map V.int)) := b3.lst hS nSf
      have k3 : Ke (· = f) H H3 := (Ke.same (s1.trans s2)).trans b3
      refine ⟨n, rfl, by omega, by omega, for_range (Pv := fun i σ H' => ∃ (y5 y6 : Option V) (left says : List Int), σ = [some (.ref f), some (.int mo), some (.int wi), some (.ref L), some (.ref S), y5, y6] ∧ Feed H' f c (B + 1 + 2 * i) ∧ Ke (· = f) H H' ∧ H' L = some (.lst (left.map V.int)) ∧ H' S = some (.lst (says.map V.int)) ∧
        left.length = ks.length - i ∧ says.length = i ∧ ((says.map fun s => (s.natAbs : Int)) ++ left).Perm ks) ?_ ?_ ?_⟩
      · exact ⟨none, none, ks, [], rfl, F3, k3, hL3, hS3, rfl, rfl, .refl _⟩
      · rintro i σ H' hi ⟨y5, y6, left, says, rfl, F4, k4, hL4, hS4, ll, ls, pm⟩
        have hi : i < n.toNat := hi
        refine ⟨_, rfl, .inl ⟨rfl, _, .of hL4⟩, _, rfl, _, rfl, L, _, rfl, .inl (.of hL4), f, c, _, B + 1 + 2 * i, rfl, ?_, ?_, F4, by omega, fun d H5 d0 d1 F5 b5 => ?_⟩
        · rw [List.length_map]
          omega
        · rw [List.length_map]
          omega
        rw [List.length_map] at d1
        have dl : d.toNat < left.length := by omega
        have hL5 : H5 L = some (.lst (left.map V.int)) := b5.lst hL4 nLf
        have hS5 : H5 S = some (.lst (says.map V.int)) := b5.lst hS4 nSf
        have k5 : Ke (· = f) H H5 := k4.trans b5
        refine ⟨L, _, d, d.toNat, .int left[d.toNat], rfl, rfl, hL5, by omega, by omega, by rw [List.length_map]; exact ix_seq d0 d1, by rw [List.getElem?_map, List.getElem?_eq_getElem dl]; rfl, ?_⟩
        have pp := perm_pop (List.getElem?_eq_getElem dl)
        have y1 := Tk.one left[d.toNat] (pm.mem_iff.mp (List.mem_append_right _ (List.getElem_mem dl)))
        generalize left[d.toNat] = y at pp y1
        have F6 : Feed (upd H5 L (.lst ((left.map V.int).eraseIdx d.toNat))) f c (B + 1 + 2 * i + 1) := F5.upd nLf nLc
        have k6 : Ke (· = f) H (upd H5 L (.lst ((left.map V.int).eraseIdx d.toNat))) := k5.write frL hL5
        have hL6 : (upd H5 L (.lst ((left.map V.int).eraseIdx d.toNat))) L = some (.lst ((left.eraseIdx d.toNat).map V.int)) := by rw [upd_same, erase_map]
        have hS6 : (upd H5 L (.lst ((left.map V.int).eraseIdx d.toNat))) S = some (.lst (says.map V.int)) := by rw [upd_ne nSL]; exact hS5
        generalize (upd H5 L (.lst ((left.map V.int).eraseIdx d.toNat))) = H6 at F6 k6 hL6 hS6 ⊢
        -- found.append([thing, 0 - thing][..])
        refine ⟨_, rfl, .inl ⟨rfl, _, .of hS6⟩, _, rfl, _, rfl, _, _, rfl, rfl, by show 2 ≤ sizeLine; decide, fun p H7 np s7 hp _ => ?_⟩
        refine ⟨_, rfl, f, c, 2, B + 1 + 2 * i + 1, rfl, by decide, by decide, F6.same s7, by omega, fun e H8 e0 e1 F8 b8 => ?_⟩
        have npf : p ≠ f := F6.nf np
        have hp8 := b8.lst hp npf
        have hS8 : H8 S = some (.lst (says.map V.int)) := b8.lst (s7 _ _ hS6) nSf
        have hL8 : H8 L = some (.lst ((left.eraseIdx d.toNat).map V.int)) := b8.lst (s7 _ _ hL6) nLf
        have k8 : Ke (· = f) H H8 := (k6.trans (.same s7)).trans b8
        have two : e = 0 ∨ e = 1 := by omega
        have go : ∀ z : Int, (z.natAbs : Int) = y → ((says ++ [z]).map (fun s => (s.natAbs : Int)) ++ left.eraseIdx d.toNat).Perm ks := fun z hz => by
          refine List.Perm.trans ?_ pm
          rw [List.map_append, List.append_assoc, List.map_singleton, hz]
          exact (List.Perm.refl _).append pp
        rcases two with rfl | rfl
        · refine ⟨p, _, 0, .int y, rfl, rfl, .of hp8, rfl, S, _, _, rfl, rfl, hS8, by rw [List.length_map]; exact small1000 (by omega), ?_⟩
          refine ⟨_, _, left.eraseIdx d.toNat, says ++ [y], rfl, (F8.upd nSf nSc).mono (by omega), k8.write frS hS8, by rw [upd_ne (Ne.symm nSL)]; exact hL8, by rw [upd_same, List.map_append]; rfl, by rw [erase_len dl]; omega, by rw [List.length_append, ls]; rfl, go y (by omega)⟩
        · refine ⟨p, _, 1, .int (0 - y), rfl, rfl, .of hp8, rfl, S, _, _, rfl, rfl, hS8, by rw [List.length_map]; exact small1000 (by omega), ?_⟩
          refine ⟨_, _, left.eraseIdx d.toNat, says ++ [0 - y], rfl, (F8.upd nSf nSc).mono (by omega), k8.write frS hS8, by rw [upd_ne (Ne.symm nSL)]; exact hL8, by rw [upd_same, List.map_append]; rfl, by rw [erase_len dl]; omega, by rw [List.length_append, ls]; rfl, go (0 - y) (by omega)⟩
      · rintro σ H' ⟨y5, y6, left, says, rfl, F4, k4, hL4, hS4, ll, ls, pm⟩
        exact ⟨y5, y6, left, says, rfl, F4.mono (by omega), k4, hS4, by omega, pm⟩
    rintro σ' H3 ⟨y5, y6, left, says, rfl, F3, k3, hS3, ls, pm⟩
    refine ⟨_, rfl, S, says, rfl, .of hS3, fun ns pn so p H4 np s4 hp _ => ?_⟩
    refine ⟨p, _, rfl, .of hp, fun p2 H5 np2 s5 hp2 _ => ?_⟩
    obtain ⟨h1, h2⟩ := cl_of Tk pm pn so
    refine q ns p2 H5 (F3.same (s4.trans s5)) (k3.trans (.same (s4.trans s5))) (.ke k3 F3 (.of (s4.free np2))) hp2 h1 (fun s hs => mk _ (h2 s hs)) ?_
    rw [pn.length_eq]
    exact ls
/-- the claim cs is of the things 1 to m -/
def Of (m : Int) (cs : List Int) : Prop := IsCl cs ∧ ∀ s ∈ cs, (s.natAbs : Int) ≤ m
theorem of_one {m k0 : Int} (h1 : 1 ≤ k0) (h2 : k0 ≤ m) (h8 : m ≤ 8) : Of m [k0] := by
  refine ⟨⟨.cons (fun _ h => (nomatch h)) .nil, fun k hk => ?_, fun k hk hn => ?_, by show 1 ≤ 8; decide⟩, fun s hs => ?_⟩
  · rw [List.mem_singleton.mp hk]
    omega
  · rw [List.mem_singleton.mp hk] at hn
    have := List.mem_singleton.mp hn
    omega
  · rw [List.mem_singleton.mp hs]
    omega
/-- book(pen, most) -/
def spBok : Sp := fun vs H Q _ => ∃ (f c : Addr) (m : Int) (B : Nat), vs = [.ref f, .int m] ∧ 1 ≤ m ∧ m ≤ 8 ∧ Feed H f c B ∧ B ≤ 2 ^ 26 ∧
  ∀ (css : List (List Int)) (p : Addr) (H' : Hp), Feed H' f c (B + 500) → Ke (· = f) H H' → Frs H p → Bk H' (.ref p) css → (∀ cs ∈ css, Of m cs) → 1 ≤ css.length → css.length ≤ 16 → Q (.ref p) H'
theorem ok_bok {f fC : Addr} {fd fdC : FuncData} {k : Nat} (F : Fun K "_law_e_book" "_law_e_book" sBok f fd) (T : Zs mg) (FD : Fun K "_law_e_take" "_law_e_take" sDrw fD fdD) (bD : Binds K fdD ["pen", "many"] []) (gD : mg "_law_e_take" = some (.ref fD)) (GD : FnOk P w K mg base CX0 2 fD fdD ["pen", "many"] spDrw)
    (FC : Fun K "_law_e_claim" "_law_e_claim" sClm fC fdC) (bC : Binds K fdC ["pen", "most", "wide"] []) (gC : mg "_law_e_claim" = some (.ref fC)) (GC : FnOk P w K mg base CX0 3 fC fdC ["pen", "most", "wide"] spClm) :
    FnOk P w K mg base CX0 (k + 4) f fd ["pen", "most"] spBok := by
  refine F.ok scBok (fun vs H Q E h => ?_) (fun cdv A outer s H vs Q E hr h => ?_)
  · obtain ⟨f, c, m, B, rfl, _⟩ := h
    rfl
  · obtain ⟨f, c, m, B, rfl, m0, m8, hF, hB, q⟩ := h
    have hr2 : Room 2 _ := hr.mono (by omega)
    have hr3 : Room 3 _ := hr.mono (by omega)
    refine ⟨_, (Evl.pss_cut (ps_set (i := 2) scBok.nd rfl (.inl rfl) (pe_ix ix_list (pe_lstN (pa_cons pe_int (pa_cons pe_int (pa_cons pe_int (pa_cons pe_int pa_nil))))) (pe_call GD hr2 (by rfl) gD FD.kp bD .nil pass0 (pa_cons (pv 0) (pa_cons pe_int pa_nil))) (fun _ _ => rfl)))
      (Evl.pss_cut (ps_set (i := 3) scBok.nd rfl (.inl rfl) (pe_ix ix_list (pe_lstN (pa_cons pe_int (pa_cons pe_int (pa_cons pe_int (pa_cons pe_int (pa_cons pe_int pa_nil)))))) (pe_call GD hr2 (by rfl) gD FD.kp bD .nil pass0 (pa_cons (pv 0) (pa_cons pe_int pa_nil))) (fun _ _ => rfl)))
      (pss_cons (ps_set (i := 4) scBok.nd rfl (.inl rfl) (pe_lstN pa_nil))
      (Evl.pss_cut (ps_for PassesOwn.never rfl (pi_range1 (by rfl) T.z_range (pa_cons (pe_op op_add pe_int (pe_call GD hr2 (by rfl) gD FD.kp bD .nil pass0 (pa_cons (pv 0) (pa_cons (pv 2) pa_nil)))) pa_nil)) (pg_name (i := 5) scBok.nd rfl (.inl rfl)) (Evl.pss_cut (ps_set (i := 6) scBok.nd rfl (.inl rfl) (pe_call GC hr3 (by rfl) gC FC.kp bC .nil pass0 (pa_cons (pv 0) (pa_cons (pv 1) (pa_cons (pv 3) pa_nil)))))
      (Evl.pss_cut (ps_if (PW.pt (pw_and (pt_cmpR (op_eqD hr.units) (pv 6) (pe_tupN pa_nil) (nomark _)) (pw_and1 (pt_cmpR op_gt (pe_call GD hr2 (by rfl) gD FD.kp bD .nil pass0 (pa_cons (pv 0) (pa_cons pe_int pa_nil))) pe_int (nomark _))))) (pss_one (ps_set (i := 6) scBok.nd rfl (.inl rfl) (pe_tupN (pa_cons (pe_op op_add pe_int (pe_call GD hr2 (by rfl) gD FD.kp bD .nil pass0 (pa_cons (pv 0) (pa_cons (pv 1) pa_nil)))) pa_nil)))) pss_nil)
      (pss_one (ps_expr (pe_bm PySem.F.plainAttrs_list PySem.F.slot_list_append PySem.F.type_list_append mt_append (pv 4) (pa_cons (pv 6) pa_nil)))))))
      (pss_one (ps_ret (pe_callTy call_tuple_ofN (by rfl) T.z_tuple (by decide +kernel) (pa_cons (pv 4) pa_nil)))))))), ?_⟩
    -- many
    refine Evl.q_cut (M := fun σ' H' => ∃ ma : Int, σ' = [some (.ref f), some (.int m), some (.int ma), none, none, none, none] ∧ 1 ≤ ma ∧ ma ≤ 16 ∧ Feed H' f c (B + 1) ∧ Ke (· = f) H H') ?_ ?_
    · refine ⟨by show 4 ≤ sizeLine; decide, fun p4 H4 np4 s4 hp4 _ => ⟨_, rfl, f, c, 4, _, rfl, by decide, by decide, hF.same s4, by omega, fun e H5 e0 e1 F5 b5 => ?_⟩⟩
      have pk : ∃ mm : Int, 1 ≤ mm ∧ mm ≤ 16 ∧ atI [V.int 4, V.int 8, V.int 12, V.int 16] e = some (.int mm) := by
        have four : e = 0 ∨ e = 1 ∨ e = 2 ∨ e = 3 := by omega
        rcases four with rfl | rfl | rfl | rfl <;> exact ⟨_, by decide, by decide, rfl⟩
      obtain ⟨mm, mm0, mm1, ha⟩ := pk
      exact ⟨p4, _, e, .int mm, rfl, rfl, .of (b5.lst hp4 (hF.nf np4)), ha, mm, rfl, mm0, mm1, F5, (Ke.same s4).trans b5⟩
    rintro σ' H1 ⟨ma, rfl, ma1, ma16, F1, k1⟩
    -- wide
    refine Evl.q_cut (M := fun σ' H' => ∃ wi : Int, σ' = [some (.ref f), some (.int m), some (.int ma), some (.int wi), none, none, none] ∧ 0 ≤ wi ∧ wi ≤ 8 ∧ Feed H' f c (B + 2) ∧ Ke (· = f) H H') ?_ ?_
    · refine ⟨by show 5 ≤ sizeLine; decide, fun p4 H4 np4 s4 hp4 _ => ⟨_, rfl, f, c, 5, _, rfl, by decide, by decide, F1.same s4, by omega, fun e H5 e0 e1 F5 b5 => ?_⟩⟩
      have pk : ∃ mm : Int, 0 ≤ mm ∧ mm ≤ 8 ∧ atI [V.int 2, V.int 3, V.int 3, V.int 4, V.int 8] e = some (.int mm) := by
        have four : e = 0 ∨ e = 1 ∨ e = 2 ∨ e = 3 ∨ e = 4 := by omega
        rcases four with rfl | rfl | rfl | rfl | rfl <;> exact ⟨_, by decide, by decide, rfl⟩
      obtain ⟨mm, mm0, mm1, ha⟩ := pk
      exact ⟨p4, _, e, .int mm, rfl, rfl, .of (b5.lst hp4 (F1.nf np4)), ha, mm, rfl, mm0, mm1, F5, k1.trans ((Ke.same s4).trans b5)⟩
    rintro σ' H2 ⟨wi, rfl, wi0, wi8, F2, k2⟩
    refine ⟨Nat.zero_le _, fun L H1 nL s1 hL _ => ?_⟩
    have nLf : L ≠ f := F2.nf nL
    have nLc : L ≠ c := F2.nc nL
    have frL : Frs H L := .ke k2 F2 (.of nL)
    have frL2 : Frs H2 L := .of nL
    refine Evl.q_cut (M := fun σ' H' => ∃ (y4 y5 : Option V) (css : List (List Int)), σ' = [some (.ref f), some (.int m), some (.int ma), some (.int wi), some (.ref L), y4, y5] ∧ Feed H' f c (B + 500) ∧ Ke (· = f) H2 H' ∧ Ls H' L css ∧ (∀ cs ∈ css, Of m cs) ∧ 1 ≤ css.length ∧ css.length ≤ 16) ?_ ?_
    · have F1 : Feed H1 f c (B + 2) := F2.same s1
      refine ⟨_, rfl, _, rfl, f, c, _, B + 2, rfl, by omega, by omega, F1, by omega, fun d H2' d0 d1 F2' b2 => ?_⟩
      refine ⟨_, _, rfl, rfl, 1 + d, rfl, by omega, by omega, for_range (Pv := fun i σ H' => ∃ (y4 y5 : Option V) (css : List (List Int)), σ = [some (.ref f), some (.int m), some (.int ma), some (.int wi), some (.ref L), y4, y5] ∧ Feed H' f c (B + 3 + 30 * i) ∧ Ke (· = f) H2 H' ∧ Ls H' L css ∧ (∀ cs ∈ css, Of m cs) ∧ css.length = i) ?_ ?_ ?_⟩
      · exact ⟨none, none, [], rfl, F2', (Ke.same s1).trans b2, ⟨[], b2.lst hL nLf, rfl, fun i x cs h => by simp at h⟩, fun cs h => (nomatch h), rfl⟩
      · rintro i σ H3 hi ⟨y4, y5, css, rfl, F3, k3, ⟨vs, hL3, lv, hv⟩, oc, lc⟩
        have hi : i < (1 + d).toNat := hi
        refine Evl.q_cut (M := fun σ' H' => ∃ (p : Addr) (cs : List Int), σ' = [some (.ref f), some (.int m), some (.int ma), some (.int wi), some (.ref L), some (.int (0 + (i : Int))), some (.ref p)] ∧ Feed H' f c (B + 3 + 30 * i + 21) ∧ Ke (· = f) H3 H' ∧ H' p = some (.tup (cs.map V.int)) ∧ Of m cs) ?_ ?_
        · refine ⟨_, rfl, _, rfl, _, rfl, f, c, m, wi, _, rfl, m0, m8, wi0, wi8, F3, by omega, fun cs p H6 F6 k6 _ hp h1 h2 _ => ?_⟩
          exact ⟨p, cs, rfl, F6.mono (by omega), k6, hp, h1, h2⟩
        rintro σ' H4 ⟨p, cs, rfl, F4, k4, hp, hc⟩
        -- if claim == () and ..
        refine Evl.q_cut (M := fun σ' H' => ∃ (p : Addr) (cs : List Int), σ' = [some (.ref f), some (.int m), some (.int ma), some (.int wi), some (.ref L), some (.int (0 + (i : Int))), some (.ref p)] ∧ Feed H' f c (B + 3 + 30 * i + 23) ∧ Ke (· = f) H3 H' ∧ H' p = some (.tup (cs.map V.int)) ∧ Of m cs) ?_ ?_
        · refine ⟨_, rfl, Nat.zero_le _, fun p5 H5 np5 s5 hp5 _ => ?_⟩
          have F5 := F4.same s5
          have k5 : Ke (· = f) H3 H5 := k4.trans (.same s5)
          refine ⟨_, _, .tup (.of (s5 _ _ hp)) (dp_ints cs), .tup (.of hp5) .nil, shaped_tuple (flat_ints _), shaped_tuple rfl, _, rfl, ite2 (fun e => ?_) (fun e => ?_)⟩
          · refine ⟨_, rfl, f, c, 8, _, rfl, by decide, by decide, F5, by omega, fun g H6 g0 g1 F6 b6 => ?_⟩
            have k6 : Ke (· = f) H3 H6 := k5.trans b6
            refine ⟨_, _, rfl, rfl, _, rfl, ite2 (fun e => ?_) (fun e => ?_)⟩
            · refine ⟨_, rfl, _, rfl, f, c, m, _, rfl, by omega, by omega, F6, by omega, fun g H7 g0 g1 F7 b7 => ?_⟩
              refine ⟨_, _, rfl, rfl, by show 1 ≤ sizeLine; decide, fun p8 H8 np8 s8 hp8 _ => ?_⟩
              exact ⟨p8, [1 + g], rfl, (F7.same s8).mono (by omega), (k6.trans b7).trans (.same s8), hp8, of_one (by omega) (by omega) m8⟩
            · exact ⟨p, cs, rfl, F6.mono (by omega), k6, b6.tups _ _ (s5 _ _ hp), hc⟩
          · exact ⟨p, cs, rfl, F5.mono (by omega), k5, s5 _ _ hp, hc⟩
        rintro σ' H5 ⟨p, cs, rfl, F5, k5, hp, hc⟩
        -- found.append(claim)
        have hL5 : H5 L = some (.lst vs) := k5.lst hL3 nLf
        refine ⟨_, rfl, .inl ⟨rfl, _, .of hL5⟩, _, rfl, L, _, _, rfl, rfl, hL5, small1000 (by omega), ?_⟩
        have k6 : Ke (· = f) H2 (upd H5 L (.lst (vs ++ [.ref p]))) := (k3.trans k5).write frL2 hL5
        have tp : ∀ {x : V} {ds : List Int}, TupI H5 x ds → TupI (upd H5 L (.lst (vs ++ [.ref p]))) x ds := fun {x ds} ⟨a, e, h⟩ => ⟨a, e, by
          have n : a ≠ L := fun z => by
            rw [z, hL5] at h
            cases h
          rw [upd_ne n]
          exact h⟩
        refine ⟨_, _, css ++ [cs], rfl, (F5.upd nLf nLc).mono (by omega), k6, ⟨vs ++ [.ref p], upd_same, by rw [List.length_append, List.length_append, lv]; rfl, ix_append lv (fun i x ds h1 h2 => tp ((hv i x ds h1 h2).ke k5)) (tp ⟨p, rfl, hp⟩)⟩, fun ds hd => ?_, by rw [List.length_append, lc]; rfl⟩
        rcases List.mem_append.mp hd with z | z
        · exact oc ds z
        · rw [List.mem_singleton.mp z]
          exact hc
      · rintro σ H3 ⟨y4, y5, css, rfl, F3, k3, ls, oc, lc⟩
        have lc' : css.length = (1 + d).toNat := lc
        exact ⟨y4, y5, css, rfl, F3.mono (by omega), k3, ls, oc, by omega, by omega⟩
    rintro σ' H3 ⟨y4, y5, css, rfl, F3, k3, ⟨vs, hL2, lv, hv⟩, oc, l1, l2⟩
    refine ⟨_, rfl, L, vs, rfl, .of hL2, fun p H4 np s4 hp _ => ?_⟩
    have k4 : Ke (· = f) H3 H4 := .same s4
    exact q css p H4 (F3.same s4) (k2.trans (k3.trans k4)) (.ke k2 F2 (.ke k3 F3 (.of np))) ⟨p, vs, rfl, hp, lv, fun i x cs h1 h2 => (hv i x cs h1 h2).ke k4⟩ oc l1 l2
end
end Cl
namespace K81
open PySem PySem.Spec PyProof.Rows L2 GxR Nw Dr Kp Ev1 Rk Od Tw Kc Tc
structure Zk (mg : Str → Option Value) : Prop where
  z_range : mg "range" = none
  z_all : mg "all" = none
  z_str : mg "str" = none
/-- a list of texts that are not too long -/
def StB (n b : Nat) (H : Hp) (L : Addr) : Prop := ∃ xs : List Str, H L = some (.lst (xs.map V.str)) ∧ 1 ≤ xs.length ∧ xs.length ≤ n ∧ ∀ x ∈ xs, x.length ≤ b
theorem StB.keep {n b : Nat} {H H' : Hp} {L : Addr} (h : StB n b H L) (k : ∀ xs, H L = some (.lst xs) → H' L = some (.lst xs)) : StB n b H' L := by
  obtain ⟨xs, h, r⟩ := h
  exact ⟨xs, k _ h, r⟩
theorem StB.of {n b : Nat} {H : Hp} {L : Addr} (xs : List Str) (h : H L = some (.lst (xs.map V.str))) (d : (decide (1 ≤ xs.length) && decide (xs.length ≤ n) && xs.all fun x => decide (x.length ≤ b)) = true) : StB n b H L := by
  rw [Bool.and_eq_true, Bool.and_eq_true, List.all_eq_true] at d
  exact ⟨xs, h, of_decide_eq_true d.1.1, of_decide_eq_true d.1.2, fun x hx => of_decide_eq_true (d.2 x hx)⟩
theorem StB.cat {n m b : Nat} {H : Hp} {L : Addr} {ys : List V} (zs : List Str) (xs : List Str) (e : ys = xs.map V.str) (h : H L = some (.lst (ys ++ zs.map V.str))) (l1 : 1 ≤ xs.length) (l2 : xs.length ≤ n) (bx : ∀ x ∈ xs, x.length ≤ b) (l3 : n + zs.length ≤ m) (bz : ∀ x ∈ zs, x.length ≤ b) : StB m b H L := by
  subst e
  refine ⟨xs ++ zs, by rw [List.map_append]; exact h, by rw [List.length_append]; omega, by rw [List.length_append]; omega, fun x hx => ?_⟩
  exact (List.mem_append.mp hx).elim (bx x) (bz x)
theorem lits {b : Nat} {zs : List Str} (d : (zs.all fun x => decide (x.length ≤ b)) = true) : ∀ x ∈ zs, x.length ≤ b := fun x hx => of_decide_eq_true (List.all_eq_true.mp d x hx)
theorem op_repNN {X : Cx} : OpR X (binaryOp .Mult) (fun x y H Q => ∃ l k xs, x = .ref l ∧ y = .int k ∧ H l = some (.lst xs) ∧ -(2 ^ 63) ≤ k ∧ k < 2 ^ 63 ∧ xs.length * k.toNat ≤ sizeLine ∧ New H (.lst (List.replicate k.toNat xs).flatten) Q) :=
  op_weak op_rep fun _ _ H Q ⟨l, k, xs, h1, h2, h3, h4, h5, h6, h7⟩ => ⟨l, k, xs, h1, h2, h3, h4, h5, h6, h7.to⟩
theorem cut_t {xs : List V} (n : Nat) : cutV xs none (some (n : Int)) = xs.take n := by
  unfold cutV
  rw [HT.sIx_none, HT.sIx_nat, List.drop_zero, Nat.sub_zero]
  by_cases h : n ≤ xs.length
  · rw [Nat.min_eq_left h]
  · rw [Nat.min_eq_right (by omega), List.take_length, List.take_of_length_le (by omega)]
theorem join_rep {a x : Str} {n : Nat} (h1 : a.length ≤ 3) (h2 : x.length ≤ 4) (hn : n ≤ 20) : (((List.replicate n x)).map (·.length)).sum + (List.replicate n x).length * a.length ≤ 140 := by
  have := sum_lens (B := 4) (ys := List.replicate n x) fun y hy => by rw [List.eq_of_mem_replicate hy]; exact h2
  rw [List.length_replicate] at this ⊢
  have : n * a.length ≤ n * 3 := Nat.mul_le_mul_left _ h1
  omega
theorem flat_rep {x : Str} : ∀ n : Nat, (List.replicate n [V.str x]).flatten = (List.replicate n x).map V.str
  | 0 => rfl
  | n + 1 => by
    rw [List.replicate_succ, List.flatten_cons, flat_rep n, List.replicate_succ]
    rfl
/-- the three tables -/
def Tt (Pc Pr Po : Addr) (H : Hp) : Prop := TabG H Pc ∧ TabG H Pr ∧ TabG H Po
theorem Tt.ke {Pc Pr Po : Addr} {F : Addr → Prop} {H H' : Hp} (h : Tt Pc Pr Po H) (k : Ke F H H') : Tt Pc Pr Po H' := ⟨k.tabs _ h.1, k.tabs _ h.2.1, k.tabs _ h.2.2⟩
theorem Tt.same {Pc Pr Po : Addr} {H H' : Hp} (h : Tt Pc Pr Po H) (s : Same H H') : Tt Pc Pr Po H' := h.ke (.same s) (F := Nof)
theorem Tt.upd {Pc Pr Po D : Addr} {H : Hp} {o : HO} {ys : List V} (h : Tt Pc Pr Po H) (hD : H D = some (.lst ys)) : Tt Pc Pr Po (upd H D o) := by
  have f : ∀ P, TabG H P → TabG (L2.upd H D o) P := fun P ⟨ps, e, t⟩ => ⟨ps, by rw [upd_ne (fun z => by rw [z, hD] at e; cases e)]; exact e, t⟩
  exact ⟨f _ h.1, f _ h.2.1, f _ h.2.2⟩
section
variable {P : Program} {w : World} {K : PySem.W.Frag} {mg : Str → Option Value} {base : Heap}
abbrev sLaw : Stmt := topS 46
abbrev nL : List Str := ["script", "pen", "menu", "texts", "turn", "book", "claim", "many", "text"]
theorem scL : FnScope nL ["script"] (defScope sLaw) := ⟨rfl, rfl, rfl, by decide +kernel, rfl, by decide +kernel, by decide +kernel⟩
def spLaw (Pc Pr Po : Addr) (K : PySem.W.Frag) : Sp := fun vs H Q _ => ∃ (a : Addr) (ns : List Int), vs = [.ref a] ∧ SqL K H a (ns.map V.int) ∧ TabG H Pc ∧ TabG H Pr ∧ TabG H Po ∧ ∀ H', Q (.bl true) H'
theorem ok_law {f fO fD fB fC fS fA fI Pc Pr Po : Addr} {fd fdO fdD fdB fdC fdS fdA fdI : FuncData} (FL : Fun K "law" "law" sLaw f fd) (T : Zk mg)
    (FO : Fun K "_law_e_pen" "_law_e_pen" sOpn fO fdO) (bO : Binds K fdO ["script"] []) (gO : mg "_law_e_pen" = some (.ref fO)) (GO : FnOk P w K mg base CX0 1 fO fdO ["script"] (spOpn K))
    (FD : Fun K "_law_e_take" "_law_e_take" sDrw fD fdD) (bD : Binds K fdD ["pen", "many"] []) (gD : mg "_law_e_take" = some (.ref fD)) (GD : FnOk P w K mg base CX0 2 fD fdD ["pen", "many"] spDrw)
    (FB : Fun K "_law_e_book" "_law_e_book" Cl.sBok fB fdB) (bB : Binds K fdB ["pen", "most"] []) (gB : mg "_law_e_book" = some (.ref fB)) (GB : FnOk P w K mg base CX0 4 fB fdB ["pen", "most"] Cl.spBok)
    (FC : Fun K "_law_e_claim" "_law_e_claim" Cl.sClm fC fdC) (bC : Binds K fdC ["pen", "most", "wide"] []) (gC : mg "_law_e_claim" = some (.ref fC)) (GC : FnOk P w K mg base CX0 3 fC fdC ["pen", "most", "wide"] Cl.spClm)
    (FS : Fun K "show_book" "show_book" sShb fS fdS) (bS : Binds K fdS ["book"] []) (gS : mg "show_book" = some (.ref fS)) (GS : FnOk P w K mg base CX0 2 fS fdS ["book"] spShb)
    (FA : Fun K "_law_e_all_spoilt" "_law_e_all_spoilt" sAsp fA fdA) (bA : Binds K fdA ["pen", "text", "menu"] []) (gA : mg "_law_e_all_spoilt" = some (.ref fA)) (GA : FnOk P w K mg base CX0 5 fA fdA ["pen", "text", "menu"] spAsp)
    (FI : Fun K "_law_e_right" "_law_e_right" Tc.sRgt fI fdI) (bI : Binds K fdI ["text"] []) (gI : mg "_law_e_right" = some (.ref fI)) (GI : Gx2.FnX P w K mg base CX0 11 fI fdI ["text"] (Tc.spRgt Pc Pr Po)) :
    Gd.FnG P w K mg base 12 f fd ["script"] (spLaw Pc Pr Po K) := by
  refine Gd.okG FL scL (fun vs H Q E h => ?_) (fun cdv A outer s H vs Q E gd0 hr h => ?_)
  · obtain ⟨a, ns, rfl, _⟩ := h
    rfl
  · obtain ⟨a, ns, rfl, hS, t1, t2, t3, q⟩ := h
    have gd : (A.deeper (envOfC "law" (defScope sLaw) s.heap.objs.size f cdv)).guards = some [] := gd0
    have hr1 : Room 1 _ := hr.mono (by decide)
    have hr2 : Room 2 _ := hr.mono (by decide)
    have hr3 : Room 3 _ := hr.mono (by decide)
    have hr4 : Room 4 _ := hr.mono (by decide)
    have hr5 : Room 5 _ := hr.mono (by decide)
    have hr11 : Room 11 _ := hr.mono (by decide)
    have tt : Tt Pc Pr Po H := ⟨t1, t2, t3⟩
    clear t1 t2 t3
    refine ⟨_, (Evl.pss_cut (ps_set (i := 1) scL.nd rfl (.inl rfl) (pe_call GO hr1 (by rfl) gO FO.kp bO .nil pass0 (pa_cons (pv 0) pa_nil)))
      (Evl.pss_cut (ps_set (i := 2) scL.nd rfl (.inl rfl) (pe_lstN (pa_cons pe_str (pa_cons pe_str (pa_cons pe_str (pa_cons pe_str (pa_cons pe_str (pa_cons pe_str (pa_cons pe_str (pa_cons pe_str (pa_cons pe_str (pa_cons pe_str (pa_cons pe_str (pa_cons pe_str (pa_cons pe_str (pa_cons pe_str pa_nil))))))))))))))))
      (Evl.pss_cut (ps_set (i := 2) scL.nd rfl (.inl rfl) (pe_op op_catN (pv 2) (pe_lstN (pa_cons pe_str (pa_cons pe_str (pa_cons pe_str (pa_cons pe_str (pa_cons pe_str (pa_cons pe_str (pa_cons pe_str (pa_cons pe_str (pa_cons pe_str pa_nil))))))))))))
      (Evl.pss_cut (ps_set (i := 3) scL.nd rfl (.inl rfl) (pe_lstN (pa_cons pe_str (pa_cons pe_str (pa_cons pe_str (pa_cons pe_str (pa_cons pe_str (pa_cons pe_str (pa_cons pe_str (pa_cons pe_str (pa_cons pe_str (pa_cons pe_str (pa_cons pe_str (pa_cons pe_str pa_nil))))))))))))))
      (Evl.pss_cut (ps_set (i := 3) scL.nd rfl (.inl rfl) (pe_op op_catN (pv 3) (pe_lstN (pa_cons pe_str (pa_cons pe_str (pa_cons pe_str (pa_cons pe_str pa_nil)))))))
      (Evl.pss_cut (ps_for PassesOwn.never rfl (pi_range1 (by rfl) T.z_range (pa_cons pe_int pa_nil)) (pg_name (i := 4) scL.nd rfl (.inl rfl)) (Evl.pss_cut (ps_set (i := 5) scL.nd rfl (.inl rfl) (pe_call GB hr4 (by rfl) gB FB.kp bB .nil pass0 (pa_cons (pv 1) (pa_cons (pe_ix ix_list (pe_lstN (pa_cons pe_int (pa_cons pe_int pa_nil))) (pe_call GD hr2 (by rfl) gD FD.kp bD .nil pass0 (pa_cons (pv 1) (pa_cons pe_int pa_nil))) (fun _ _ => rfl)) pa_nil))))
      (Evl.pss_cut (ps_set (i := 5) scL.nd rfl (.inl rfl) (pe_op op_catTN (pe_slice sl_tupN (pv 5) po_none (po_some pe_int)) (pe_tupN (pa_cons (pe_call GC hr3 (by rfl) gC FC.kp bC .nil pass0 (pa_cons (pv 1) (pa_cons pe_int (pa_cons pe_int pa_nil)))) pa_nil))))
      (pss_one (ps_expr (pe_bm PySem.F.plainAttrs_list PySem.F.slot_list_append PySem.F.type_list_append mt_append (pv 3) (pa_cons (pe_call GA hr5 (by rfl) gA FA.kp bA .nil pass0 (pa_cons (pv 1) (pa_cons (pe_call GS hr2 (by rfl) gS FS.kp bS .nil pass0 (pa_cons (pv 5) pa_nil)) (pa_cons (pv 2) pa_nil)))) pa_nil)))))))
      (Evl.pss_cut (ps_set (i := 6) scL.nd rfl (.inl rfl) (pe_lstN (pa_cons (pe_callTy call_str_int (by rfl) T.z_str (by decide +kernel) (pa_cons (pe_op op_add pe_int (pe_call GD hr2 (by rfl) gD FD.kp bD .nil pass0 (pa_cons (pv 1) (pa_cons pe_int pa_nil)))) pa_nil)) pa_nil)))
      (Evl.pss_cut (ps_for PassesOwn.never rfl (pi_range2 (by rfl) T.z_range (pa_cons pe_int (pa_cons pe_int pa_nil))) (pg_name (i := 7) scL.nd rfl (.inl rfl)) (pss_one (ps_set (i := 3) scL.nd rfl (.inl rfl) (pe_op op_catN (pv 3) (pe_lstN (pa_cons (L2.pe_join pe_str (pe_op op_repNN (pv 6) (pv 7))) (pa_cons (L2.pe_join pe_str (pe_op op_catN (pe_lstN (pa_cons pe_str pa_nil)) (pe_op op_repNN (pv 6) (pv 7)))) pa_nil)))))))
      (pss_one (ps_ret (pe_callB (cr_all rfl) (by rfl) T.z_all (by decide +kernel) (pa_cons (pe_lc (own := [("text", 8)]) (g := (gName 8)) (tt := tYes) rfl scL.nd (pi_list (pv 3)) (blkOk_by (N := nL) (sc := defScope sLaw) (by decide +kernel)) (fun _ _ _ _ _ => (pg_name (i := 8) scL.nd rfl (.inl rfl))) (fun _ _ _ _ _ => pts_nil) (fun _ _ _ _ _ => (Gx2.pe_callX GI gd hr11 (by rfl) gI FI.kp bI .nil pass0 (pa_cons (pv 8) pa_nil)))) pa_nil)))))))))))), ?_⟩
    refine Evl.q_cut (M := fun σ' H' => ∃ f c : Addr, σ' = [some (.ref a), some (.ref f), none, none, none, none, none, none, none] ∧ Feed H' f c 0 ∧ Tt Pc Pr Po H') ?_ ?_
    · exact ⟨.ref a, rfl, a, ns, rfl, hS, fun fe c H1 nf nc s1 F1 => ⟨fe, c, rfl, F1, tt.same s1⟩⟩
    clear tt
    rintro σ' H1 ⟨f, c, rfl, F1, tt⟩
    -- menu
    refine Evl.q_cut (M := fun σ' H' => ∃ M : Addr, σ' = [some (.ref a), some (.ref f), some (.ref M), none, none, none, none, none, none] ∧ Feed H' f c 0 ∧ Tt Pc Pr Po H' ∧ StB 20 10 H' M) ?_ ?_
    · exact ⟨by show 14 ≤ sizeLine; decide, fun M G nM u hM _ => ⟨M, rfl, F1.same u, tt.same u, .of ["1", "-1", "8", "-8", "3", "-3", "0", "9", "-0", "01", "+1", "none", "/", ""] hM (by decide +kernel)⟩⟩
    clear F1 tt H1
    rintro σ' H1 ⟨M, rfl, F1, tt, xs, hM, l1, l2, bx⟩
    refine Evl.q_cut (M := fun σ' H' => ∃ M : Addr, σ' = [some (.ref a), some (.ref f), some (.ref M), none, none, none, none, none, none] ∧ Feed H' f c 0 ∧ Tt Pc Pr Po H' ∧ M ≠ f ∧ M ≠ c ∧ StB 40 10 H' M) ?_ ?_
    · refine ⟨_, rfl, by show 9 ≤ sizeLine; decide, fun W G1 nW u1 hW _ => ⟨M, W, _, _, rfl, rfl, u1 _ _ hM, hW, ?_, fun Z G2 nZ u2 hZ _ => ?_⟩⟩
      · rw [List.length_map]
        exact Nat.le_trans (by show xs.length + 9 ≤ 1000; omega : _ ≤ 1000) (by decide)
      · exact ⟨Z, rfl, (F1.same u1).same u2, (tt.same u1).same u2, (F1.same u1).nf nZ, (F1.same u1).nc nZ, .cat ["//", "-", "1.", "None", "10", "--1", "09", "016", "-09"] xs rfl hZ l1 l2 bx (by show 20 + 9 ≤ 40; decide) (lits (by decide +kernel))⟩
    clear F1 tt l1 l2 bx hM xs H1 M
    rintro σ' H1 ⟨M, rfl, F1, tt, nMf, nMc, hM⟩
    -- texts
    refine Evl.q_cut (M := fun σ' H' => ∃ T : Addr, σ' = [some (.ref a), some (.ref f), some (.ref M), some (.ref T), none, none, none, none, none] ∧ Feed H' f c 0 ∧ Tt Pc Pr Po H' ∧ StB 40 10 H' M ∧ StB 20 50000 H' T) ?_ ?_
    · exact ⟨by show 12 ≤ sizeLine; decide, fun T G nT u hT _ => ⟨T, rfl, F1.same u, tt.same u, hM.keep fun _ z => u _ _ z, .of ["", " ", "/", "none", "none /", "/ 1", "1 /", "-8 -3 8 / none / 2", "1 1", "-1 1", "none 1", "1 none"] hT (by decide +kernel)⟩⟩
    clear F1 tt hM H1
    rintro σ' H1 ⟨T', rfl, F1, tt, hM, xs, hT, l1, l2, bx⟩
    refine Evl.q_cut (M := fun σ' H' => ∃ T : Addr, σ' = [some (.ref a), some (.ref f), some (.ref M), some (.ref T), none, none, none, none, none] ∧ Feed H' f c 0 ∧ Tt Pc Pr Po H' ∧ T ≠ f ∧ T ≠ c ∧ T ≠ M ∧ StB 40 10 H' M ∧ StB 40 50000 H' T) ?_ ?_
    · refine ⟨_, rfl, by show 4 ≤ sizeLine; decide, fun W G1 nW u1 hW _ => ⟨T', W, _, _, rfl, rfl, u1 _ _ hT, hW, ?_, fun Z G2 nZ u2 hZ _ => ?_⟩⟩
      · rw [List.length_map]
        exact Nat.le_trans (by show xs.length + 4 ≤ 1000; omega : _ ≤ 1000) (by decide)
      · have nZM : Z ≠ M := by
          obtain ⟨ms, h, _⟩ := hM
          exact Ne.symm (ne_of_none (u1 _ _ h) nZ)
        exact ⟨Z, rfl, (F1.same u1).same u2, (tt.same u1).same u2, (F1.same u1).nf nZ, (F1.same u1).nc nZ, nZM, hM.keep fun _ z => u2 _ _ (u1 _ _ z), .cat ["1 1 / x", "/ 09", "none none 9", "2 -2 / 0"] xs rfl hZ l1 l2 bx (by show 20 + 4 ≤ 40; decide) (lits (by decide +kernel))⟩
    clear F1 tt l1 l2 bx hT hM xs H1 T'
    rintro σ' H1 ⟨T', rfl, F1, tt, nTf, nTc, nTM, hM, hT⟩
    -- ten times
    refine Evl.q_cut (M := fun σ' H' => ∃ y4 y5 : Option V, σ' = [some (.ref a), some (.ref f), some (.ref M), some (.ref T'), y4, y5, none, none, none] ∧ Feed H' f c 30000 ∧ Tt Pc Pr Po H' ∧ StB 50 50000 H' T') ?_ ?_
    · refine ⟨10, rfl, by decide, by decide, for_range (Pv := fun i σ H' => ∃ y4 y5 : Option V, σ = [some (.ref a), some (.ref f), some (.ref M), some (.ref T'), y4, y5, none, none, none] ∧ Feed H' f c (3000 * i) ∧ Tt Pc Pr Po H' ∧ StB 40 10 H' M ∧ StB (40 + i) 50000 H' T') ?_ ?_ ?_⟩
      · exact ⟨none, none, rfl, F1, tt, hM, hT⟩
      · clear F1 tt hM hT H1
        rintro i σ H1 hi ⟨y4, y5, rfl, F1, tt, hM, hT⟩
        have hi : i < 10 := hi
        -- the book
        refine Evl.q_cut (M := fun σ' H' => ∃ (p : Addr) (css : List (List Int)), σ' = [some (.ref a), some (.ref f), some (.ref M), some (.ref T'), some (.int (0 + (i : Int))), some (.ref p), none, none, none] ∧ Feed H' f c (3000 * i + 600) ∧ Tt Pc Pr Po H' ∧ StB 40 10 H' M ∧ StB (40 + i) 50000 H' T' ∧ Bk H' (.ref p) css ∧ (∀ cs ∈ css, ClS cs) ∧ css.length ≤ 16) ?_ ?_
        · refine ⟨_, rfl, by show 2 ≤ sizeLine; decide, fun Lk G1 n1 u1 h1 _ => ?_⟩
          refine ⟨_, rfl, f, c, 2, _, rfl, by decide, by decide, F1.same u1, by omega, fun d H2 d0 d1 F2 k2 => ?_⟩
          have nLf : Lk ≠ f := F1.nf n1
          obtain ⟨m, hm, em⟩ : ∃ m : Int, atI [V.int 2, V.int 8] d = some (.int m) ∧ (m = 2 ∨ m = 8) := by
            rcases (by omega : d = 0 ∨ d = 1) with rfl | rfl
            · exact ⟨2, rfl, .inl rfl⟩
            · exact ⟨8, rfl, .inr rfl⟩
          refine ⟨Lk, _, _, _, rfl, rfl, .of (k2.lst h1 nLf), hm, f, c, m, _, rfl, by omega, by omega, F2, by omega, fun css p H3 F3 k3 _ hb of_ _ l16 => ?_⟩
          exact ⟨p, css, rfl, F3.mono (by omega), ((tt.same u1).ke k2).ke k3, hM.keep fun _ z => k3.lst (k2.lst (u1 _ _ z) nMf) nMf, hT.keep fun _ z => k3.lst (k2.lst (u1 _ _ z) nTf) nTf, hb, fun cs h => cls_of (of_ cs h).1, l16⟩
        clear F1 tt hM hT H1
        rintro σ' H1 ⟨p, css, rfl, F1, tt, hM, hT, hb, oc, l16⟩
        -- and one claim more
        refine Evl.q_cut (M := fun σ' H' => ∃ (p : Addr) (css : List (List Int)), σ' = [some (.ref a), some (.ref f), some (.ref M), some (.ref T'), some (.int (0 + (i : Int))), some (.ref p), none, none, none] ∧ Feed H' f c (3000 * i + 700) ∧ Tt Pc Pr Po H' ∧ StB 40 10 H' M ∧ StB (40 + i) 50000 H' T' ∧ Bk H' (.ref p) css ∧ (∀ cs ∈ css, ClS cs) ∧ css.length ≤ 16) ?_ ?_
        · obtain ⟨p', vs, ep, ha, lv, at_⟩ := hb
          cases ep
          refine ⟨_, rfl, _, rfl, _, _, rfl, ha, fun b1 H2 s2 hb1 => ?_⟩
          rw [show ((15 : Int)) = ((15 : Nat) : Int) from rfl, cut_t] at hb1
          refine ⟨_, rfl, f, c, 8, 8, _, rfl, by decide, by decide, by decide, by decide, F1.same s2, by omega, fun cs pc H3 F3 k3 _ hpc ic _ _ => ?_⟩
          refine ⟨by show 1 ≤ sizeLine; decide, fun t H4 nt s4 ht _ => ⟨b1, t, _, _, rfl, rfl, s4 _ _ (k3.tups _ _ hb1), ht, ?_, fun p2 H5 s5 hp2 => ?_⟩⟩
          · rw [List.length_take]
            exact Nat.le_trans (by show min 15 vs.length + 1 ≤ 1000; omega : _ ≤ 1000) (by decide)
          have s45 := s4.trans s5
          have kk : Ke (· = f) H1 H5 := (Ke.same s2).trans (k3.trans (.same s45))
          refine ⟨p2, css.take 15 ++ [cs], rfl, (F3.same s45).mono (by omega), tt.ke kk, hM.keep fun _ z => kk.lst z nMf, hT.keep fun _ z => kk.lst z nTf, ?_, fun x hx => ?_, ?_⟩
          · refine bk_of hp2 (All2.snoc (All2.take (⟨lv, at_⟩ : All2 (TupI H1) vs css) 15 |>.imp fun _ _ r => r.ke kk) ⟨pc, rfl, s45 _ _ hpc⟩)
          · rcases List.mem_append.mp hx with z | z
            · exact oc x (List.mem_of_mem_take z)
            · rw [List.mem_singleton.mp z]
              exact cls_of ic
          · rw [List.length_append, List.length_take, List.length_singleton]
            omega
        clear F1 tt hM hT hb oc l16 css p H1
        rintro σ' H1 ⟨p, css, rfl, F1, tt, ⟨ms, hM, m1, m2, bm⟩, ⟨xs, hT, l1, l2, bx⟩, hb, oc, l16⟩
        refine ⟨_, rfl, .inl ⟨rfl, _, .of hT⟩, _, rfl, _, rfl, _, css, rfl, hb, oc, by omega, fun H2 s2 => ?_⟩
        have lx := bkT_len oc (by omega)
        refine ⟨_, rfl, f, c, M, bkT css, ms, _, rfl, F1.same s2, by omega, by omega, s2 _ _ hM, nMf, m1, by omega, bm, fun y H3 F3 k3 ly => ?_⟩
        have hT3 := k3.lst (s2 _ _ hT) nTf
        have hM3 := k3.lst (s2 _ _ hM) nMf
        refine ⟨T', _, _, rfl, rfl, hT3, small1000 (by rw [List.length_map]; omega), ?_⟩
        refine ⟨_, _, rfl, (F3.upd nTf nTc).mono (by omega), ((tt.same s2).ke k3).upd hT3, ⟨ms, by rw [upd_ne (Ne.symm nTM)]; exact hM3, m1, m2, bm⟩, .cat [y] xs rfl upd_same l1 l2 bx (by show 40 + i + 1 ≤ 40 + (i + 1); omega) (fun z hz => by rw [List.mem_singleton.mp hz]; exact ly)⟩
      · rintro σ H2 ⟨y4, y5, rfl, F2, tt2, hM2, hT2⟩
        exact ⟨y4, y5, rfl, F2, tt2, hT2⟩
    clear F1 tt hM hT H1
    rintro σ' H1 ⟨y4, y5, rfl, F1, tt, hT⟩
    -- the claim
    refine Evl.q_cut (M := fun σ' H' => ∃ (C : Addr) (x : Str), σ' = [some (.ref a), some (.ref f), some (.ref M), some (.ref T'), y4, y5, some (.ref C), none, none] ∧ Tt Pc Pr Po H' ∧ StB 50 50000 H' T' ∧ H' C = some (.lst [.str x]) ∧ x.length ≤ 4) ?_ ?_
    · refine ⟨_, rfl, f, c, 8, _, rfl, by decide, by decide, F1, by omega, fun d H2 d0 d1 F2 k2 => ?_⟩
      refine ⟨_, _, rfl, rfl, 1 + d, rfl, lgZ ⟨by omega, by omega⟩, by show 1 ≤ sizeLine; decide, fun C G nC u hC _ => ?_⟩
      exact ⟨C, _, rfl, (tt.ke k2).same u, hT.keep fun _ z => u _ _ (k2.lst z nTf), hC, numZ_len' (i := 1 + d) ⟨by omega, by omega, by omega⟩⟩
    clear F1 tt hT nTf nTc nTM H1
    rintro σ' H1 ⟨C, x, rfl, tt, hT, hC, lx⟩
    have l3 : Str.length " / " = 3 := by decide +kernel
    have l9 : Str.length "9" = 1 := by decide +kernel
    -- fifteen to seventeen
    refine Evl.q_cut (M := fun σ' H' => ∃ (T : Addr) (y7 : Option V), σ' = [some (.ref a), some (.ref f), some (.ref M), some (.ref T), y4, y5, some (.ref C), y7, none] ∧ Tt Pc Pr Po H' ∧ StB 60 50000 H' T) ?_ ?_
    · refine ⟨15, 18, rfl, by decide, for_range (Pv := fun i σ H' => ∃ (T : Addr) (y7 : Option V), σ = [some (.ref a), some (.ref f), some (.ref M), some (.ref T), y4, y5, some (.ref C), y7, none] ∧ Tt Pc Pr Po H' ∧ StB (50 + 2 * i) 50000 H' T ∧ H' C = some (.lst [.str x])) ?_ ?_ ?_⟩
      · exact ⟨T', none, rfl, tt, hT, hC⟩
      · clear tt hT hC H1 T'
        rintro i σ H1 hi ⟨T', y7, rfl, tt, ⟨xs, hT, l1, l2, bx⟩, hC⟩
        have hi : i < 3 := hi
        have ei : ((15 : Int) + (i : Int)).toNat = 15 + i := by omega
        have fl := flat_rep (x := x) (15 + i)
        refine ⟨_, rfl, ⟨_, rfl⟩, _, rfl, _, rfl, C, _, _, rfl, rfl, hC, by omega, by omega, Nat.le_trans (by show 1 * ((15 : Int) + (i : Int)).toNat ≤ 1000; omega : _ ≤ 1000) (by decide), fun R1 G1 n1 u1 h1 _ => ?_⟩
        rw [ei, fl] at h1
        have j1 := join_rep (a := " / ") (x := x) (n := 15 + i) (by omega) lx (by omega)
        refine ⟨_, R1, List.replicate (15 + i) x, rfl, rfl, .inl (.of h1), Nat.le_trans j1 (by decide), ?_⟩
        refine ⟨⟨_, rfl⟩, by show 1 ≤ sizeLine; decide, fun N9 G2 n2 u2 h2 _ => ?_⟩
        have hC2 := u2 _ _ (u1 _ _ hC)
        refine ⟨_, rfl, _, rfl, C, _, _, rfl, rfl, hC2, by omega, by omega, Nat.le_trans (by show 1 * ((15 : Int) + (i : Int)).toNat ≤ 1000; omega : _ ≤ 1000) (by decide), fun R2 G3 n3 u3 h3 _ => ?_⟩
        rw [ei, fl] at h3
        refine ⟨N9, R2, _, _, rfl, rfl, u3 _ _ h2, h3, Nat.le_trans (by rw [List.length_map, List.length_replicate]; show 1 + (15 + i) ≤ 1000; omega : _ ≤ 1000) (by decide), fun R3 G4 n4 u4 h4 _ => ?_⟩
        have j2 : (((("9" : Str) :: List.replicate (15 + i) x)).map (·.length)).sum + (("9" : Str) :: List.replicate (15 + i) x).length * Str.length " / " ≤ 150 := by
          rw [List.map_cons, List.sum_cons, List.length_cons, Nat.add_mul, l3, l9]
          rw [l3] at j1
          omega
        refine ⟨_, R3, ("9" : Str) :: List.replicate (15 + i) x, rfl, rfl, .inl (.of h4), Nat.le_trans j2 (by decide), ?_⟩
        refine ⟨by show 2 ≤ sizeLine; decide, fun W G5 nW u5 hW _ => ?_⟩
        have s5 := u1.trans (u2.trans (u3.trans (u4.trans u5)))
        refine ⟨T', W, _, [.str _, .str _], rfl, rfl, s5 _ _ hT, hW, by rw [List.length_map]; exact Nat.le_trans (by show xs.length + 2 ≤ 1000; omega : _ ≤ 1000) (by decide), fun Z G6 nZ u6 hZ _ => ?_⟩
        refine ⟨Z, _, rfl, (tt.same s5).same u6, .cat [Txt.join " / " (List.replicate (15 + i) x), Txt.join " / " (("9" : Str) :: List.replicate (15 + i) x)] xs rfl hZ l1 l2 bx (by show 50 + 2 * i + 2 ≤ 50 + 2 * (i + 1); omega) (fun z hz => ?_), u6 _ _ (s5 _ _ hC)⟩
        rcases List.mem_cons.mp hz with e | e
        · rw [e]
          exact Nat.le_trans (join_len _ _) (by omega)
        · rw [List.mem_singleton.mp e]
          exact Nat.le_trans (join_len _ _) (by omega)
      · rintro σ H2 ⟨T2, y7, rfl, tt2, ⟨xs, h, l1, l2, bx⟩, _⟩
        exact ⟨T2, y7, rfl, tt2, xs, h, l1, by have : xs.length ≤ 50 + 2 * 3 := l2; omega, bx⟩
    clear tt hT hC lx x H1 T'
    rintro σ' H1 ⟨T2, y7, rfl, tt, xs, hT, l1, l2, bx⟩
    refine ⟨_, rfl, T2, rfl, ⟨_, .of hT⟩, fun D nD => ?_⟩
    refine lc_list (xs := xs.map V.str) (Pv := fun j H' => Ke Nof H1 H' ∧ H' D = some (.lst ((List.replicate j true).map V.bl))) ⟨.same (same_new nD), upd_same⟩ (fun j H' _ z => .of (z.1.lst hT fun y => y)) ?_ ?_
    · rintro j v H2 hv ⟨s2, hD⟩
      rw [List.getElem?_map] at hv
      obtain ⟨x, hx, rfl⟩ := Option.map_eq_some_iff.mp hv
      have lj := (List.getElem?_eq_some_iff.mp hx).1
      have t2 := tt.ke s2
      refine ⟨rfl, _, rfl, x, rfl, bx x (List.mem_of_getElem? hx), t2.1, t2.2.1, t2.2.2, fun H3 s3 => ?_⟩
      refine ⟨_, s3.lst hD fun y => y, ?_, (s2.trans s3).upd nD, ?_⟩
      · rw [List.length_map, List.length_replicate]
        exact small1000 (by omega)
      · rw [upd_same, List.replicate_succ', List.map_append]
        rfl
    · rintro H2 ⟨s2, hD⟩
      refine ⟨D, _, rfl, .of hD, ?_⟩
      have e : ∀ n : Nat, (List.replicate n true).all id = true := fun n => by
        rw [List.all_eq_true]
        intro x hx
        rw [List.eq_of_mem_replicate hx]
        rfl
      rw [e]
      exact q H2
end
end K81
namespace Eg
open PySem PySem.Spec PyProof.Rows L2 GxR Nw Dr Kp
/-! ### the end of a law that shows lists: defs whose code objects have tables -/
/-- what stands where a def's code object has its table -/
abbrev Own (K : PySem.W.Frag) (h : Heap) (mg : Str → Option Value) (ys : List Str) : Prop := ∀ y ∈ ys, ∀ f, mg y = some (.ref f) → LamX.OwnTab K f h
/-- what is to be known of a law at the heap h -/
def LawG (l : PySem.W.OpenLaw) (w : World) (K : PySem.W.Frag) (k m : Nat) (x : Str) (mg : Str → Option Value) (g : Addr) (h : Heap) : Prop :=
  ∃ (fd : FuncData) (cs : List (Addr × Addr)) (sp : Sp), (∀ p ∈ cs, h.get? p.2 = some (PySem.W.tabObj #[])) ∧ (∀ p ∈ cs, K.lookup p.2 = none) ∧ (∀ p ∈ cs, PySem.W.CodeHd h p.1 p.2) ∧ (∀ (s : Shared) (u : Value), BindsTo s fd ⟨[u], []⟩ [(x, u)]) ∧
    (∀ (H : Hp) (a : Addr) (ns : List Int), ns.length ≤ m → (∀ p ∈ cs, H p.2 = some (.tbl #[])) → SqL K H a (ns.map V.int) → sp [.ref a] H (fun v _ => v = .bl true) fun _ _ _ => False) ∧
    ∀ base : Heap, K.In base → base.Ns mainGlobals mg → (∀ p ∈ cs, LamX.TabB base mg p.1 p.2) → Gd.FnG l.prog w K mg base k g fd [x] sp
theorem walk_own {l : PySem.W.OpenLaw} {m k : Nat} {pr : Program} {ls : List Str} {XP : (Str → Option Value) → Heap → Prop} {YP : World → Heap → Prop} {d : DefRec} {K : Params → PySem.W.Frag} {x : Str} (ys : List Str)
    (e1 : l.most = some m) (e2 : m ≤ sizeLine) (e3 : d.params.defaults = []) (room : Room k callerA) (named : ∀ y ∈ ys, ((recsOf pr).any fun e => e.name == y) = true) (inK : ∀ (w : World) (h : Heap), YP w h → (K w.params).In h)
    (go : ∀ (w : World) (mg : Str → Option Value) (g : Addr) (h : Heap), YP w h → (K w.params).In h → h.Ns mainGlobals mg → mg d.name = some (.ref g) → Own (K w.params) h mg ys → LawG l w (K w.params) k m x mg g h) :
    PySem.W.WalkO pr ls XP YP l.row.toRowW d [] (fun f vs => PySem.call f vs) := by
  refine Att.attach_callB e1 e3 fun w s0 s1 mg mb fa o pm cd doc a us ns G Y ho hd hcd hmg hobj hints hlen hbits hg => ?_
  have inH := inK w _ Y
  have tabs : Own (K w.params) s1.heap mg ys := fun y hy f hf c P ob fd e dd vs sl q1 q2 q3 q4 q5 => by
    obtain ⟨r, hr1, hr2⟩ := List.any_eq_true.mp (named y hy)
    obtain ⟨f', ob', fd', c', P', t1, t2, t3, t4, t5, ⟨⟨oc, vc, u1, _, u3, u4⟩, u5⟩⟩ := G.T.tab r hr1
    rw [show r.name = y from beq_iff_eq.mp hr2, hf] at t1
    cases t1
    rw [inH _ _ q1] at t2
    cases t2
    rw [q2] at t3
    cases t3
    rw [q3] at t4
    cases t4
    rw [inH _ _ q4] at u1
    cases u1
    cases u3
    rw [q5] at u4
    cases u4
    exact u5
  obtain ⟨fd, cs, sp, h1, h2, h3, h4, h5, h6⟩ := go w mg fa _ Y inH G.T.g hmg tabs
  exact Gd.law_at inH G.T.g G.T.b G.T.builtins G.T.nolimit hg h1 h2 h3 G.T.bmain hobj hints (Nat.le_trans hlen e2) room h6 h4 fun H z1 z2 => h5 H a ns hlen z1 z2
end Eg
namespace Cf
open PySem PySem.Spec PyProof.Rows L2
/-! ### classes of the program: isinstance, except -/
theorem cls_s {K : PySem.W.Frag} {C : Addr} (h : PySem.W.isClsIn K C = true) : (PySem.W.clsIn K C).isSome = true := h
theorem kit_cls {K : PySem.W.Frag} {t : Value} {D : Addr} {b : Bool} (h1 : (PySem.W.clsIn K D).isSome = true) (h2 : PySem.W.typeIn K (.ref D) = some (.type "type")) (h : PySem.W.subIn K t (.ref D) = some b) : PySem.W.kitCls K t (.ref D) = some b := by
  have e : ((PySem.W.clsIn K D).isSome && PySem.W.typeIn K (.ref D) == some (.type "type")) = true := by
    rw [h1, h2]
    rfl
  show (if ((PySem.W.clsIn K D).isSome && PySem.W.typeIn K (.ref D) == some (.type "type")) = true then PySem.W.subIn K t (.ref D) else none) = some b
  rw [if_pos e, h]
theorem kit_t {K : PySem.W.Frag} {t : Value} {D : Addr} (h1 : (PySem.W.clsIn K D).isSome = true) (h2 : PySem.W.typeIn K (.ref D) = some (.type "type")) (h : PySem.W.subIn K t (.ref D) = some true) : PySem.W.kitOne K t (.ref D) = some true := by
  unfold PySem.W.kitOne
  split
  · rfl
  · exact kit_cls h1 h2 h
theorem kit_f {K : PySem.W.Frag} {C D : Addr} (h1 : (PySem.W.clsIn K D).isSome = true) (h2 : PySem.W.typeIn K (.ref D) = some (.type "type")) (h : PySem.W.subIn K (.ref C) (.ref D) = some false) (hs : PySem.W.subIn K (.ref C) (.ref C) = some true) : PySem.W.kitOne K (.ref C) (.ref D) = some false := by
  unfold PySem.W.kitOne
  split
  · rename_i e
    have z : C = D := Value.ref.inj (beq_iff_eq.mp e)
    subst z
    rw [h] at hs
    cases hs
  · exact kit_cls h1 h2 h
theorem kit_v {K : PySem.W.Frag} {C : Addr} (h : PySem.W.subIn K (.ref C) (.type "ValueError") = some true) : PySem.W.kitOne K (.ref C) (.type "ValueError") = some true := by
  unfold PySem.W.kitOne
  split
  · rfl
  · show (if PySem.W.kitMeta "ValueError" = true then PySem.W.subIn K (.ref C) (.type "ValueError") else none) = some true
    rw [if_pos (by decide +kernel), h]
theorem exm_t {K : PySem.W.Frag} {t : Value} {D : Addr} (hb : PySem.W.subIn K (.ref D) (.type "BaseException") = some true) (h1 : (PySem.W.clsIn K D).isSome = true) (h2 : PySem.W.typeIn K (.ref D) = some (.type "type")) (h : PySem.W.subIn K t (.ref D) = some true) : PySem.W.exmOne K t (.ref D) = some true := by
  unfold PySem.W.exmOne
  rw [hb, if_pos (by decide)]
  exact kit_cls h1 h2 h
end Cf
namespace K81
open PySem PySem.Spec PyProof.Rows L2 GxR Nw Dr Kp Ev1 Rk Od Tw Kc Tc Se Eg
theorem all_mk {l : PySem.W.OpenLaw} {w : World} {K : PySem.W.Frag} {h : Heap} {mg : Str → Option Value} {top : Addr} (X : K.In h) (G : h.Ns mainGlobals mg) (htop : mg "law" = some (.ref top)) (ow : Own K h mg ["is_rising", "has_opposites", "is_claim"]) {fM fD fO dc db dg dp da er et ei pw pa pn pb pc pk pd ps pt qw qs gR gO gI fL cR PR cO PO cI PI S c0 c1 c2 c3 c4 c5 c6 c7 c8 g6 : Addr}
    {od_fM an_fM : Option Addr} {sl_fM : Array (Option Value)} {oc_fM kV_fM dc_fM pm_fM ct_fM : Value} {cd_fM : Value} {od_fD an_fD : Option Addr} {sl_fD : Array (Option Value)} {oc_fD kV_fD dc_fD pm_fD ct_fD : Value} {cd_fD : Value} {od_fO an_fO : Option Addr} {sl_fO : Array (Option Value)} {oc_fO kV_fO dc_fO pm_fO ct_fO : Value} {cd_fO : Value} {od_dc an_dc : Option Addr} {sl_dc : Array (Option Value)} {oc_dc kV_dc dc_dc pm_dc ct_dc : Value} {cd_dc : Value} {od_db an_db : Option Addr} {sl_db : Array (Option Value)} {oc_db kV_db dc_db pm_db ct_db : Value} {cd_db : Value} {od_dg an_dg : Option Addr} {sl_dg : Array (Option Value)} {oc_dg kV_dg dc_dg pm_dg ct_dg : Value} {cd_dg : Value} {od_dp an_dp : Option Addr} {sl_dp : Array (Option Value)} {oc_dp kV_dp dc_dp pm_dp ct_dp : Value} {cd_dp : Value} {od_da an_da : Option Addr} {sl_da : Array (Option Value)} {oc_da kV_da dc_da pm_da ct_da : Value} {cd_da : Value} {od_er an_er : Option Addr} {sl_er : Array (Option Value)} {oc_er kV_er dc_er pm_er ct_er : Value} {cd_er : Value} {od_et an_et : Option Addr} {sl_et : Array (Option Value)} {oc_et kV_et dc_et pm_et ct_et : Value} {cd_et : Value} {od_ei an_ei : Option Addr} {sl_ei : Array (Option Value)} {oc_ei kV_ei dc_ei pm_ei ct_ei : Value} {cd_ei : Value} {od_pw an_pw : Option Addr} {sl_pw : Array (Option Value)} {oc_pw kV_pw dc_pw pm_pw ct_pw : Value} {cd_pw : Value} {od_pa an_pa : Option Addr} {sl_pa : Array (Option Value)} {oc_pa kV_pa dc_pa pm_pa ct_pa : Value} {cd_pa : Value} {od_pn an_pn : Option Addr} {sl_pn : Array (Option Value)} {oc_pn kV_pn dc_pn pm_pn ct_pn : Value} {cd_pn : Value} {od_pb an_pb : Option Addr} {sl_pb : Array (Option Value)} {oc_pb kV_pb dc_pb pm_pb ct_pb : Value} {cd_pb : Value} {od_pc an_pc : Option Addr} {sl_pc : Array (Option Value)} {oc_pc kV_pc dc_pc pm_pc ct_pc : Value} {cd_pc : Value} {od_pk an_pk : Option Addr} {sl_pk : Array (Option Value)} {oc_pk kV_pk dc_pk pm_pk ct_pk : Value} {cd_pk : Value} {od_pd an_pd : Option Addr} {sl_pd : Array (Option Value)} {oc_pd kV_pd dc_pd pm_pd ct_pd : Value} {cd_pd : Value} {od_ps an_ps : Option Addr} {sl_ps : Array (Option Value)} {oc_ps kV_ps dc_ps pm_ps ct_ps : Value} {cd_ps : Value} {od_pt an_pt : Option Addr} {sl_pt : Array (Option Value)} {oc_pt kV_pt dc_pt pm_pt ct_pt : Value} {cd_pt : Value} {od_qw an_qw : Option Addr} {sl_qw : Array (Option Value)} {oc_qw kV_qw dc_qw pm_qw ct_qw : Value} {cd_qw : Value} {od_qs an_qs : Option Addr} {sl_qs : Array (Option Value)} {oc_qs kV_qs dc_qs pm_qs ct_qs : Value} {cd_qs : Value} {od_gR an_gR : Option Addr} {sl_gR : Array (Option Value)} {oc_gR kV_gR dc_gR pm_gR ct_gR : Value} {od_gO an_gO : Option Addr} {sl_gO : Array (Option Value)} {oc_gO kV_gO dc_gO pm_gO ct_gO : Value} {od_gI an_gI : Option Addr} {sl_gI : Array (Option Value)} {oc_gI kV_gI dc_gI pm_gI ct_gI : Value} {od_fL an_fL : Option Addr} {sl_fL : Array (Option Value)} {oc_fL kV_fL dc_fL pm_fL ct_fL : Value} {cd_fL : Value} {e_R : Value} {dd_R : Option Addr} {vs_R : Array Value} {sf_R : Array (Option Value)} {e_O : Value} {dd_O : Option Addr} {vs_O : Array Value} {sf_O : Array (Option Value)} {e_I : Value} {dd_I : Option Addr} {vs_I : Array Value} {sf_I : Array (Option Value)} {tk_MOST_THINGS : Tok} {tk_MOST_CLAIMS : Tok} {tk_MOST_FIGURES : Tok} {nm6 q6 : Str} {N6 : Addr} {bs6 bm6 : List Value} {sn6 : List Str} {sub6 : List Value} {ab6 : Bool} {col6 : Option Bool} {dd6 : Option Addr} {m06 m16 m26 m36 m56 : Option Value} {od_g6 an_g6 : Option Addr} {sl_g6 : Array (Option Value)} {oc_g6 kV_g6 dc_g6 pm_g6 cd_g6 ct_g6 : Value}
    (b_fM : PySem.W.nsIn K mainGlobals "_law_e_fresh" = some (some (.ref fM)))
    (l_fM : K.lookup fM = some ⟨oc_fM, od_fM, .func (PySem.W.fnOf "_law_e_fresh" "_law_e_fresh" (defArgs sFre) (defBody sFre) (defScope sFre) .none kV_fM dc_fM pm_fM an_fM cd_fM ct_fM), sl_fM⟩)
    (c_fM : PySem.W.codeIn K cd_fM "_law_e_fresh" = true)
    (k_fM : PySem.W.keepIn K (.ref fM) = true)
    (b_fD : PySem.W.nsIn K mainGlobals "_law_e_take" = some (some (.ref fD)))
    (l_fD : K.lookup fD = some ⟨oc_fD, od_fD, .func (PySem.W.fnOf "_law_e_take" "_law_e_take" (defArgs sDrw) (defBody sDrw) (defScope sDrw) .none kV_fD dc_fD pm_fD an_fD cd_fD ct_fD), sl_fD⟩)
    (c_fD : PySem.W.codeIn K cd_fD "_law_e_take" = true)
    (k_fD : PySem.W.keepIn K (.ref fD) = true)
    (b_fO : PySem.W.nsIn K mainGlobals "_law_e_pen" = some (some (.ref fO)))
    (l_fO : K.lookup fO = some ⟨oc_fO, od_fO, .func (PySem.W.fnOf "_law_e_pen" "_law_e_pen" (defArgs sOpn) (defBody sOpn) (defScope sOpn) .none kV_fO dc_fO pm_fO an_fO cd_fO ct_fO), sl_fO⟩)
    (c_fO : PySem.W.codeIn K cd_fO "_law_e_pen" = true)
    (k_fO : PySem.W.keepIn K (.ref fO) = true)
    (b_dc : PySem.W.nsIn K mainGlobals "_law_e_claim" = some (some (.ref dc)))
    (l_dc : K.lookup dc = some ⟨oc_dc, od_dc, .func (PySem.W.fnOf "_law_e_claim" "_law_e_claim" (defArgs Cl.sClm) (defBody Cl.sClm) (defScope Cl.sClm) .none kV_dc dc_dc pm_dc an_dc cd_dc ct_dc), sl_dc⟩)
    (c_dc : PySem.W.codeIn K cd_dc "_law_e_claim" = true)
    (k_dc : PySem.W.keepIn K (.ref dc) = true)
    (b_db : PySem.W.nsIn K mainGlobals "_law_e_book" = some (some (.ref db)))
    (l_db : K.lookup db = some ⟨oc_db, od_db, .func (PySem.W.fnOf "_law_e_book" "_law_e_book" (defArgs Cl.sBok) (defBody Cl.sBok) (defScope Cl.sBok) .none kV_db dc_db pm_db an_db cd_db ct_db), sl_db⟩)
    (c_db : PySem.W.codeIn K cd_db "_law_e_book" = true)
    (k_db : PySem.W.keepIn K (.ref db) = true)
    (b_dg : PySem.W.nsIn K mainGlobals "_law_e_sign" = some (some (.ref dg)))
    (l_dg : K.lookup dg = some ⟨oc_dg, od_dg, .func (PySem.W.fnOf "_law_e_sign" "_law_e_sign" (defArgs sSgn) (defBody sSgn) (defScope sSgn) .none kV_dg dc_dg pm_dg an_dg cd_dg ct_dg), sl_dg⟩)
    (c_dg : PySem.W.codeIn K cd_dg "_law_e_sign" = true)
    (k_dg : PySem.W.keepIn K (.ref dg) = true)
    (b_dp : PySem.W.nsIn K mainGlobals "_law_e_spoilt" = some (some (.ref dp)))
    (l_dp : K.lookup dp = some ⟨oc_dp, od_dp, .func (PySem.W.fnOf "_law_e_spoilt" "_law_e_spoilt" (defArgs sSpo) (defBody sSpo) (defScope sSpo) .none kV_dp dc_dp pm_dp an_dp cd_dp ct_dp), sl_dp⟩)
    (c_dp : PySem.W.codeIn K cd_dp "_law_e_spoilt" = true)
    (k_dp : PySem.W.keepIn K (.ref dp) = true)
    (b_da : PySem.W.nsIn K mainGlobals "_law_e_all_spoilt" = some (some (.ref da)))
    (l_da : K.lookup da = some ⟨oc_da, od_da, .func (PySem.W.fnOf "_law_e_all_spoilt" "_law_e_all_spoilt" (defArgs sAsp) (defBody sAsp) (defScope sAsp) .none kV_da dc_da pm_da an_da cd_da ct_da), sl_da⟩)
    (c_da : PySem.W.codeIn K cd_da "_law_e_all_spoilt" = true)
    (k_da : PySem.W.keepIn K (.ref da) = true)
    (b_er : PySem.W.nsIn K mainGlobals "_law_e_book_read" = some (some (.ref er)))
    (l_er : K.lookup er = some ⟨oc_er, od_er, .func (PySem.W.fnOf "_law_e_book_read" "_law_e_book_read" (defArgs sBre) (defBody sBre) (defScope sBre) .none kV_er dc_er pm_er an_er cd_er ct_er), sl_er⟩)
    (c_er : PySem.W.codeIn K cd_er "_law_e_book_read" = true)
    (k_er : PySem.W.keepIn K (.ref er) = true)
    (b_et : PySem.W.nsIn K mainGlobals "_law_e_told" = some (some (.ref et)))
    (l_et : K.lookup et = some ⟨oc_et, od_et, .func (PySem.W.fnOf "_law_e_told" "_law_e_told" (defArgs Tc.sTol) (defBody Tc.sTol) (defScope Tc.sTol) .none kV_et dc_et pm_et an_et cd_et ct_et), sl_et⟩)
    (c_et : PySem.W.codeIn K cd_et "_law_e_told" = true)
    (k_et : PySem.W.keepIn K (.ref et) = true)
    (b_ei : PySem.W.nsIn K mainGlobals "_law_e_right" = some (some (.ref ei)))
    (l_ei : K.lookup ei = some ⟨oc_ei, od_ei, .func (PySem.W.fnOf "_law_e_right" "_law_e_right" (defArgs Tc.sRgt) (defBody Tc.sRgt) (defScope Tc.sRgt) .none kV_ei dc_ei pm_ei an_ei cd_ei ct_ei), sl_ei⟩)
    (c_ei : PySem.W.codeIn K cd_ei "_law_e_right" = true)
    (k_ei : PySem.W.keepIn K (.ref ei) = true)
    (b_pw : PySem.W.nsIn K mainGlobals "words_of" = some (some (.ref pw)))
    (l_pw : K.lookup pw = some ⟨oc_pw, od_pw, .func (PySem.W.fnOf "words_of" "words_of" (defArgs sWof) (defBody sWof) (defScope sWof) .none kV_pw dc_pw pm_pw an_pw cd_pw ct_pw), sl_pw⟩)
    (c_pw : PySem.W.codeIn K cd_pw "words_of" = true)
    (k_pw : PySem.W.keepIn K (.ref pw) = true)
    (b_pa : PySem.W.nsIn K mainGlobals "word_at" = some (some (.ref pa)))
    (l_pa : K.lookup pa = some ⟨oc_pa, od_pa, .func (PySem.W.fnOf "word_at" "word_at" (defArgs sWat) (defBody sWat) (defScope sWat) .none kV_pa dc_pa pm_pa an_pa cd_pa ct_pa), sl_pa⟩)
    (c_pa : PySem.W.codeIn K cd_pa "word_at" = true)
    (k_pa : PySem.W.keepIn K (.ref pa) = true)
    (b_pn : PySem.W.nsIn K mainGlobals "number_or_none" = some (some (.ref pn)))
    (l_pn : K.lookup pn = some ⟨oc_pn, od_pn, .func (PySem.W.fnOf "number_or_none" "number_or_none" (defArgs sNon) (defBody sNon) (defScope sNon) .none kV_pn dc_pn pm_pn an_pn cd_pn ct_pn), sl_pn⟩)
    (c_pn : PySem.W.codeIn K cd_pn "number_or_none" = true)
    (k_pn : PySem.W.keepIn K (.ref pn) = true)
    (b_pb : PySem.W.nsIn K mainGlobals "behind_stroke" = some (some (.ref pb)))
    (l_pb : K.lookup pb = some ⟨oc_pb, od_pb, .func (PySem.W.fnOf "behind_stroke" "behind_stroke" (defArgs sBst) (defBody sBst) (defScope sBst) .none kV_pb dc_pb pm_pb an_pb cd_pb ct_pb), sl_pb⟩)
    (c_pb : PySem.W.codeIn K cd_pb "behind_stroke" = true)
    (k_pb : PySem.W.keepIn K (.ref pb) = true)
    (b_pc : PySem.W.nsIn K mainGlobals "claim_from" = some (some (.ref pc)))
    (l_pc : K.lookup pc = some ⟨oc_pc, od_pc, .func (PySem.W.fnOf "claim_from" "claim_from" (defArgs sClf) (defBody sClf) (defScope sClf) .none kV_pc dc_pc pm_pc an_pc cd_pc ct_pc), sl_pc⟩)
    (c_pc : PySem.W.codeIn K cd_pc "claim_from" = true)
    (k_pc : PySem.W.keepIn K (.ref pc) = true)
    (b_pk : PySem.W.nsIn K mainGlobals "book_from" = some (some (.ref pk)))
    (l_pk : K.lookup pk = some ⟨oc_pk, od_pk, .func (PySem.W.fnOf "book_from" "book_from" (defArgs sBkf) (defBody sBkf) (defScope sBkf) .none kV_pk dc_pk pm_pk an_pk cd_pk ct_pk), sl_pk⟩)
    (c_pk : PySem.W.codeIn K cd_pk "book_from" = true)
    (k_pk : PySem.W.keepIn K (.ref pk) = true)
    (b_pd : PySem.W.nsIn K mainGlobals "read_book" = some (some (.ref pd)))
    (l_pd : K.lookup pd = some ⟨oc_pd, od_pd, .func (PySem.W.fnOf "read_book" "read_book" (defArgs sRbk) (defBody sRbk) (defScope sRbk) .none kV_pd dc_pd pm_pd an_pd cd_pd ct_pd), sl_pd⟩)
    (c_pd : PySem.W.codeIn K cd_pd "read_book" = true)
    (k_pd : PySem.W.keepIn K (.ref pd) = true)
    (b_ps : PySem.W.nsIn K mainGlobals "show_claim" = some (some (.ref ps)))
    (l_ps : K.lookup ps = some ⟨oc_ps, od_ps, .func (PySem.W.fnOf "show_claim" "show_claim" (defArgs sShc) (defBody sShc) (defScope sShc) .none kV_ps dc_ps pm_ps an_ps cd_ps ct_ps), sl_ps⟩)
    (c_ps : PySem.W.codeIn K cd_ps "show_claim" = true)
    (k_ps : PySem.W.keepIn K (.ref ps) = true)
    (b_pt : PySem.W.nsIn K mainGlobals "show_book" = some (some (.ref pt)))
    (l_pt : K.lookup pt = some ⟨oc_pt, od_pt, .func (PySem.W.fnOf "show_book" "show_book" (defArgs sShb) (defBody sShb) (defScope sShb) .none kV_pt dc_pt pm_pt an_pt cd_pt ct_pt), sl_pt⟩)
    (c_pt : PySem.W.codeIn K cd_pt "show_book" = true)
    (k_pt : PySem.W.keepIn K (.ref pt) = true)
    (b_qw : PySem.W.nsIn K mainGlobals "is_whole" = some (some (.ref qw)))
    (l_qw : K.lookup qw = some ⟨oc_qw, od_qw, .func (PySem.W.fnOf "is_whole" "is_whole" (defArgs sWhp) (defBody sWhp) (defScope sWhp) .none kV_qw dc_qw pm_qw an_qw cd_qw ct_qw), sl_qw⟩)
    (c_qw : PySem.W.codeIn K cd_qw "is_whole" = true)
    (k_qw : PySem.W.keepIn K (.ref qw) = true)
    (b_qs : PySem.W.nsIn K mainGlobals "is_say" = some (some (.ref qs)))
    (l_qs : K.lookup qs = some ⟨oc_qs, od_qs, .func (PySem.W.fnOf "is_say" "is_say" (defArgs sSay) (defBody sSay) (defScope sSay) .none kV_qs dc_qs pm_qs an_qs cd_qs ct_qs), sl_qs⟩)
    (c_qs : PySem.W.codeIn K cd_qs "is_say" = true)
    (k_qs : PySem.W.keepIn K (.ref qs) = true)
    (b_gR : PySem.W.nsIn K mainGlobals "is_rising" = some (some (.ref gR)))
    (l_gR : K.lookup gR = some ⟨oc_gR, od_gR, .func (PySem.W.fnOf "is_rising" "is_rising" (defArgs sRis) (defBody sRis) (defScope sRis) .none kV_gR dc_gR pm_gR an_gR (.ref cR) ct_gR), sl_gR⟩)
    (c_gR : PySem.W.codeIn K (.ref cR) "is_rising" = true)
    (k_gR : PySem.W.keepIn K (.ref gR) = true)
    (b_gO : PySem.W.nsIn K mainGlobals "has_opposites" = some (some (.ref gO)))
    (l_gO : K.lookup gO = some ⟨oc_gO, od_gO, .func (PySem.W.fnOf "has_opposites" "has_opposites" (defArgs sHop) (defBody sHop) (defScope sHop) .none kV_gO dc_gO pm_gO an_gO (.ref cO) ct_gO), sl_gO⟩)
    (c_gO : PySem.W.codeIn K (.ref cO) "has_opposites" = true)
    (k_gO : PySem.W.keepIn K (.ref gO) = true)
    (b_gI : PySem.W.nsIn K mainGlobals "is_claim" = some (some (.ref gI)))
    (l_gI : K.lookup gI = some ⟨oc_gI, od_gI, .func (PySem.W.fnOf "is_claim" "is_claim" (defArgs sIcl) (defBody sIcl) (defScope sIcl) .none kV_gI dc_gI pm_gI an_gI (.ref cI) ct_gI), sl_gI⟩)
    (c_gI : PySem.W.codeIn K (.ref cI) "is_claim" = true)
    (k_gI : PySem.W.keepIn K (.ref gI) = true)
    (b_fL : PySem.W.nsIn K mainGlobals "law" = some (some (.ref fL)))
    (l_fL : K.lookup fL = some ⟨oc_fL, od_fL, .func (PySem.W.fnOf "law" "law" (defArgs sLaw) (defBody sLaw) (defScope sLaw) .none kV_fL dc_fL pm_fL an_fL cd_fL ct_fL), sl_fL⟩)
    (c_fL : PySem.W.codeIn K cd_fL "law" = true)
    (k_fL : PySem.W.keepIn K (.ref fL) = true)
    (lc_R : K.lookup cR = some ⟨e_R, dd_R, .fields vs_R, sf_R⟩)
    (v_R : vs_R[11]? = some (Value.ref PR))
    (hd_R : PySem.W.codeHdIn K cR PR = true)
    (np_R : K.lookup PR = none)
    (lc_O : K.lookup cO = some ⟨e_O, dd_O, .fields vs_O, sf_O⟩)
    (v_O : vs_O[11]? = some (Value.ref PO))
    (hd_O : PySem.W.codeHdIn K cO PO = true)
    (np_O : K.lookup PO = none)
    (lc_I : K.lookup cI = some ⟨e_I, dd_I, .fields vs_I, sf_I⟩)
    (v_I : vs_I[11]? = some (Value.ref PI))
    (hd_I : PySem.W.codeHdIn K cI PI = true)
    (np_I : K.lookup PI = none)
    (b_MOST_THINGS : PySem.W.nsIn K mainGlobals "MOST_THINGS" = some (some (.int 8 tk_MOST_THINGS)))
    (b_MOST_CLAIMS : PySem.W.nsIn K mainGlobals "MOST_CLAIMS" = some (some (.int 16 tk_MOST_CLAIMS)))
    (b_MOST_FIGURES : PySem.W.nsIn K mainGlobals "MOST_FIGURES" = some (some (.int 3 tk_MOST_FIGURES)))
    (z_range : PySem.W.nsIn K mainGlobals "range" = some none)
    (z_isinstance : PySem.W.nsIn K mainGlobals "isinstance" = some none)
    (z_len : PySem.W.nsIn K mainGlobals "len" = some none)
    (z_list : PySem.W.nsIn K mainGlobals "list" = some none)
    (z_tuple : PySem.W.nsIn K mainGlobals "tuple" = some none)
    (z_all : PySem.W.nsIn K mainGlobals "all" = some none)
    (z_any : PySem.W.nsIn K mainGlobals "any" = some none)
    (z_zip : PySem.W.nsIn K mainGlobals "zip" = some none)
    (z_int : PySem.W.nsIn K mainGlobals "int" = some none)
    (z_bool : PySem.W.nsIn K mainGlobals "bool" = some none)
    (z_enumerate : PySem.W.nsIn K mainGlobals "enumerate" = some none)
    (z_str : PySem.W.nsIn K mainGlobals "str" = some none)
    (z_repr : PySem.W.nsIn K mainGlobals "repr" = some none)
    (z_min : PySem.W.nsIn K mainGlobals "min" = some none)
    (z_sorted : PySem.W.nsIn K mainGlobals "sorted" = some none)
    (z_ValueError : PySem.W.nsIn K mainGlobals "ValueError" = some none)
    (aS : PySem.W.nsIn K mainGlobals "SpareError" = some (some (.ref S)))
    (bS : PySem.W.subIn K (.ref S) (.type "BaseException") = some true)
    (hn : PySem.W.specialIn K (.builtin "object.__class__") "__get__" = some (some (.builtin "getset_descriptor.__get__")))
    (ht : PySem.W.takesIn K (.builtin "object.__class__") = some true)
    (lS : PySem.W.isClsIn K S = true)
    (tS : PySem.W.typeIn K (.ref S) = some (.type "type"))
    (a0 : PySem.W.nsIn K mainGlobals "NoCut" = some (some (.ref c0)))
    (hg0 : PySem.W.findIn K (.ref c0) "__getattribute__" = some (some (.builtin "BaseException.__getattribute__")))
    (hk0 : PySem.W.findIn K (.ref c0) "__getattr__" = some none)
    (hs0 : PySem.W.subIn K (.ref c0) (.type "BaseException") = some true)
    (hd0 : PySem.W.hasDictIn K c0 = true)
    (ha0 : PySem.W.findIn K (.ref c0) "__class__" = some (some (.builtin "object.__class__")))
    (hm0 : PySem.W.mroIn K c0 (.type "object") = some true)
    (lc0 : PySem.W.isClsIn K c0 = true)
    (ty0 : PySem.W.typeIn K (.ref c0) = some (.type "type"))
    (ss0 : PySem.W.subIn K (.ref c0) (.ref S) = some true)
    (sv0 : PySem.W.subIn K (.ref c0) (.type "ValueError") = some true)
    (a1 : PySem.W.nsIn K mainGlobals "NoLadder" = some (some (.ref c1)))
    (hg1 : PySem.W.findIn K (.ref c1) "__getattribute__" = some (some (.builtin "BaseException.__getattribute__")))
    (hk1 : PySem.W.findIn K (.ref c1) "__getattr__" = some none)
    (hs1 : PySem.W.subIn K (.ref c1) (.type "BaseException") = some true)
    (hd1 : PySem.W.hasDictIn K c1 = true)
    (ha1 : PySem.W.findIn K (.ref c1) "__class__" = some (some (.builtin "object.__class__")))
    (hm1 : PySem.W.mroIn K c1 (.type "object") = some true)
    (lc1 : PySem.W.isClsIn K c1 = true)
    (ty1 : PySem.W.typeIn K (.ref c1) = some (.type "type"))
    (ss1 : PySem.W.subIn K (.ref c1) (.ref S) = some true)
    (sv1 : PySem.W.subIn K (.ref c1) (.type "ValueError") = some true)
    (a2 : PySem.W.nsIn K mainGlobals "NoInstead" = some (some (.ref c2)))
    (hg2 : PySem.W.findIn K (.ref c2) "__getattribute__" = some (some (.builtin "BaseException.__getattribute__")))
    (hk2 : PySem.W.findIn K (.ref c2) "__getattr__" = some none)
    (hs2 : PySem.W.subIn K (.ref c2) (.type "BaseException") = some true)
    (hd2 : PySem.W.hasDictIn K c2 = true)
    (ha2 : PySem.W.findIn K (.ref c2) "__class__" = some (some (.builtin "object.__class__")))
    (hm2 : PySem.W.mroIn K c2 (.type "object") = some true)
    (lc2 : PySem.W.isClsIn K c2 = true)
    (ty2 : PySem.W.typeIn K (.ref c2) = some (.type "type"))
    (ss2 : PySem.W.subIn K (.ref c2) (.ref S) = some true)
    (sv2 : PySem.W.subIn K (.ref c2) (.type "ValueError") = some true)
    (a3 : PySem.W.nsIn K mainGlobals "TooGreat" = some (some (.ref c3)))
    (hg3 : PySem.W.findIn K (.ref c3) "__getattribute__" = some (some (.builtin "BaseException.__getattribute__")))
    (hk3 : PySem.W.findIn K (.ref c3) "__getattr__" = some none)
    (hs3 : PySem.W.subIn K (.ref c3) (.type "BaseException") = some true)
    (hd3 : PySem.W.hasDictIn K c3 = true)
    (ha3 : PySem.W.findIn K (.ref c3) "__class__" = some (some (.builtin "object.__class__")))
    (hm3 : PySem.W.mroIn K c3 (.type "object") = some true)
    (lc3 : PySem.W.isClsIn K c3 = true)
    (ty3 : PySem.W.typeIn K (.ref c3) = some (.type "type"))
    (ss3 : PySem.W.subIn K (.ref c3) (.ref S) = some true)
    (sv3 : PySem.W.subIn K (.ref c3) (.type "ValueError") = some true)
    (a4 : PySem.W.nsIn K mainGlobals "TooMany" = some (some (.ref c4)))
    (hg4 : PySem.W.findIn K (.ref c4) "__getattribute__" = some (some (.builtin "BaseException.__getattribute__")))
    (hk4 : PySem.W.findIn K (.ref c4) "__getattr__" = some none)
    (hs4 : PySem.W.subIn K (.ref c4) (.type "BaseException") = some true)
    (hd4 : PySem.W.hasDictIn K c4 = true)
    (ha4 : PySem.W.findIn K (.ref c4) "__class__" = some (some (.builtin "object.__class__")))
    (hm4 : PySem.W.mroIn K c4 (.type "object") = some true)
    (lc4 : PySem.W.isClsIn K c4 = true)
    (ty4 : PySem.W.typeIn K (.ref c4) = some (.type "type"))
    (ss4 : PySem.W.subIn K (.ref c4) (.ref S) = some true)
    (sv4 : PySem.W.subIn K (.ref c4) (.type "ValueError") = some true)
    (a5 : PySem.W.nsIn K mainGlobals "NoTelling" = some (some (.ref c5)))
    (hg5 : PySem.W.findIn K (.ref c5) "__getattribute__" = some (some (.builtin "BaseException.__getattribute__")))
    (hk5 : PySem.W.findIn K (.ref c5) "__getattr__" = some none)
    (hs5 : PySem.W.subIn K (.ref c5) (.type "BaseException") = some true)
    (hd5 : PySem.W.hasDictIn K c5 = true)
    (ha5 : PySem.W.findIn K (.ref c5) "__class__" = some (some (.builtin "object.__class__")))
    (hm5 : PySem.W.mroIn K c5 (.type "object") = some true)
    (lc5 : PySem.W.isClsIn K c5 = true)
    (ty5 : PySem.W.typeIn K (.ref c5) = some (.type "type"))
    (ss5 : PySem.W.subIn K (.ref c5) (.ref S) = some true)
    (sv5 : PySem.W.subIn K (.ref c5) (.type "ValueError") = some true)
    (a6 : PySem.W.nsIn K mainGlobals "NoText" = some (some (.ref c6)))
    (hg6 : PySem.W.findIn K (.ref c6) "__getattribute__" = some (some (.builtin "BaseException.__getattribute__")))
    (hk6 : PySem.W.findIn K (.ref c6) "__getattr__" = some none)
    (hs6 : PySem.W.subIn K (.ref c6) (.type "BaseException") = some true)
    (hd6 : PySem.W.hasDictIn K c6 = true)
    (ha6 : PySem.W.findIn K (.ref c6) "__class__" = some (some (.builtin "object.__class__")))
    (hm6 : PySem.W.mroIn K c6 (.type "object") = some true)
    (lc6 : PySem.W.isClsIn K c6 = true)
    (ty6 : PySem.W.typeIn K (.ref c6) = some (.type "type"))
    (ss6 : PySem.W.subIn K (.ref c6) (.ref S) = some true)
    (sv6 : PySem.W.subIn K (.ref c6) (.type "ValueError") = some true)
    (a7 : PySem.W.nsIn K mainGlobals "NoRow" = some (some (.ref c7)))
    (hg7 : PySem.W.findIn K (.ref c7) "__getattribute__" = some (some (.builtin "BaseException.__getattribute__")))
    (hk7 : PySem.W.findIn K (.ref c7) "__getattr__" = some none)
    (hs7 : PySem.W.subIn K (.ref c7) (.type "BaseException") = some true)
    (hd7 : PySem.W.hasDictIn K c7 = true)
    (ha7 : PySem.W.findIn K (.ref c7) "__class__" = some (some (.builtin "object.__class__")))
    (hm7 : PySem.W.mroIn K c7 (.type "object") = some true)
    (lc7 : PySem.W.isClsIn K c7 = true)
    (ty7 : PySem.W.typeIn K (.ref c7) = some (.type "type"))
    (ss7 : PySem.W.subIn K (.ref c7) (.ref S) = some true)
    (sv7 : PySem.W.subIn K (.ref c7) (.type "ValueError") = some true)
    (a8 : PySem.W.nsIn K mainGlobals "NoBack" = some (some (.ref c8)))
    (hg8 : PySem.W.findIn K (.ref c8) "__getattribute__" = some (some (.builtin "BaseException.__getattribute__")))
    (hk8 : PySem.W.findIn K (.ref c8) "__getattr__" = some none)
    (hs8 : PySem.W.subIn K (.ref c8) (.type "BaseException") = some true)
    (hd8 : PySem.W.hasDictIn K c8 = true)
    (ha8 : PySem.W.findIn K (.ref c8) "__class__" = some (some (.builtin "object.__class__")))
    (hm8 : PySem.W.mroIn K c8 (.type "object") = some true)
    (lc8 : PySem.W.isClsIn K c8 = true)
    (ty8 : PySem.W.typeIn K (.ref c8) = some (.type "type"))
    (ss8 : PySem.W.subIn K (.ref c8) (.ref S) = some true)
    (sv8 : PySem.W.subIn K (.ref c8) (.type "ValueError") = some true)
    (s00 : PySem.W.subIn K (.ref c0) (.ref c0) = some true)
    (s01 : PySem.W.subIn K (.ref c0) (.ref c1) = some false)
    (s02 : PySem.W.subIn K (.ref c0) (.ref c2) = some false)
    (s03 : PySem.W.subIn K (.ref c0) (.ref c3) = some false)
    (s04 : PySem.W.subIn K (.ref c0) (.ref c4) = some false)
    (s05 : PySem.W.subIn K (.ref c0) (.ref c5) = some false)
    (s06 : PySem.W.subIn K (.ref c0) (.ref c6) = some false)
    (s07 : PySem.W.subIn K (.ref c0) (.ref c7) = some false)
    (s08 : PySem.W.subIn K (.ref c0) (.ref c8) = some false)
    (s10 : PySem.W.subIn K (.ref c1) (.ref c0) = some false)
    (s11 : PySem.W.subIn K (.ref c1) (.ref c1) = some true)
    (s12 : PySem.W.subIn K (.ref c1) (.ref c2) = some false)
    (s13 : PySem.W.subIn K (.ref c1) (.ref c3) = some false)
    (s14 : PySem.W.subIn K (.ref c1) (.ref c4) = some false)
    (s15 : PySem.W.subIn K (.ref c1) (.ref c5) = some false)
    (s16 : PySem.W.subIn K (.ref c1) (.ref c6) = some false)
    (s17 : PySem.W.subIn K (.ref c1) (.ref c7) = some false)
    (s18 : PySem.W.subIn K (.ref c1) (.ref c8) = some false)
    (s20 : PySem.W.subIn K (.ref c2) (.ref c0) = some false)
    (s21 : PySem.W.subIn K (.ref c2) (.ref c1) = some false)
    (s22 : PySem.W.subIn K (.ref c2) (.ref c2) = some true)
    (s23 : PySem.W.subIn K (.ref c2) (.ref c3) = some false)
    (s24 : PySem.W.subIn K (.ref c2) (.ref c4) = some false)
    (s25 : PySem.W.subIn K (.ref c2) (.ref c5) = some false)
    (s26 : PySem.W.subIn K (.ref c2) (.ref c6) = some false)
    (s27 : PySem.W.subIn K (.ref c2) (.ref c7) = some false)
    (s28 : PySem.W.subIn K (.ref c2) (.ref c8) = some false)
    (s30 : PySem.W.subIn K (.ref c3) (.ref c0) = some false)
    (s31 : PySem.W.subIn K (.ref c3) (.ref c1) = some false)
    (s32 : PySem.W.subIn K (.ref c3) (.ref c2) = some false)
    (s33 : PySem.W.subIn K (.ref c3) (.ref c3) = some true)
    (s34 : PySem.W.subIn K (.ref c3) (.ref c4) = some false)
    (s35 : PySem.W.subIn K (.ref c3) (.ref c5) = some false)
    (s36 : PySem.W.subIn K (.ref c3) (.ref c6) = some false)
    (s37 : PySem.W.subIn K (.ref c3) (.ref c7) = some false)
    (s38 : PySem.W.subIn K (.ref c3) (.ref c8) = some false)
    (s40 : PySem.W.subIn K (.ref c4) (.ref c0) = some false)
    (s41 : PySem.W.subIn K (.ref c4) (.ref c1) = some false)
    (s42 : PySem.W.subIn K (.ref c4) (.ref c2) = some false)
    (s43 : PySem.W.subIn K (.ref c4) (.ref c3) = some false)
    (s44 : PySem.W.subIn K (.ref c4) (.ref c4) = some true)
    (s45 : PySem.W.subIn K (.ref c4) (.ref c5) = some false)
    (s46 : PySem.W.subIn K (.ref c4) (.ref c6) = some false)
    (s47 : PySem.W.subIn K (.ref c4) (.ref c7) = some false)
    (s48 : PySem.W.subIn K (.ref c4) (.ref c8) = some false)
    (s50 : PySem.W.subIn K (.ref c5) (.ref c0) = some false)
    (s51 : PySem.W.subIn K (.ref c5) (.ref c1) = some false)
    (s52 : PySem.W.subIn K (.ref c5) (.ref c2) = some false)
    (s53 : PySem.W.subIn K (.ref c5) (.ref c3) = some false)
    (s54 : PySem.W.subIn K (.ref c5) (.ref c4) = some false)
    (s55 : PySem.W.subIn K (.ref c5) (.ref c5) = some true)
    (s56 : PySem.W.subIn K (.ref c5) (.ref c6) = some false)
    (s57 : PySem.W.subIn K (.ref c5) (.ref c7) = some false)
    (s58 : PySem.W.subIn K (.ref c5) (.ref c8) = some false)
    (s60 : PySem.W.subIn K (.ref c6) (.ref c0) = some false)
    (s61 : PySem.W.subIn K (.ref c6) (.ref c1) = some false)
    (s62 : PySem.W.subIn K (.ref c6) (.ref c2) = some false)
    (s63 : PySem.W.subIn K (.ref c6) (.ref c3) = some false)
    (s64 : PySem.W.subIn K (.ref c6) (.ref c4) = some false)
    (s65 : PySem.W.subIn K (.ref c6) (.ref c5) = some false)
    (s66 : PySem.W.subIn K (.ref c6) (.ref c6) = some true)
    (s67 : PySem.W.subIn K (.ref c6) (.ref c7) = some false)
    (s68 : PySem.W.subIn K (.ref c6) (.ref c8) = some false)
    (s70 : PySem.W.subIn K (.ref c7) (.ref c0) = some false)
    (s71 : PySem.W.subIn K (.ref c7) (.ref c1) = some false)
    (s72 : PySem.W.subIn K (.ref c7) (.ref c2) = some false)
    (s73 : PySem.W.subIn K (.ref c7) (.ref c3) = some false)
    (s74 : PySem.W.subIn K (.ref c7) (.ref c4) = some false)
    (s75 : PySem.W.subIn K (.ref c7) (.ref c5) = some false)
    (s76 : PySem.W.subIn K (.ref c7) (.ref c6) = some false)
    (s77 : PySem.W.subIn K (.ref c7) (.ref c7) = some true)
    (s78 : PySem.W.subIn K (.ref c7) (.ref c8) = some false)
    (s80 : PySem.W.subIn K (.ref c8) (.ref c0) = some false)
    (s81 : PySem.W.subIn K (.ref c8) (.ref c1) = some false)
    (s82 : PySem.W.subIn K (.ref c8) (.ref c2) = some false)
    (s83 : PySem.W.subIn K (.ref c8) (.ref c3) = some false)
    (s84 : PySem.W.subIn K (.ref c8) (.ref c4) = some false)
    (s85 : PySem.W.subIn K (.ref c8) (.ref c5) = some false)
    (s86 : PySem.W.subIn K (.ref c8) (.ref c6) = some false)
    (s87 : PySem.W.subIn K (.ref c8) (.ref c7) = some false)
    (s88 : PySem.W.subIn K (.ref c8) (.ref c8) = some true)
    (kp6 : PySem.W.keepIn K (.ref c6) = true)
    (x6 : K.lookup c6 = some (excClassObj nm6 q6 c6 N6 bs6 bm6 true sn6 sub6 ab6 col6 dd6 m06 m16 m26 m36 m56 "ValueError.__new__"))
    (rv6 : PySem.HandSPX.refsVE bm6 = true)
    (sa6 : PySem.W.findIn K (.ref c6) "__setattr__" = some (some (.builtin "object.__setattr__")))
    (na6 : PySem.W.findIn K (.ref c6) "at" = some none)
    (in6 : PySem.W.findIn K (.ref c6) "__init__" = some (some (.ref g6)))
    (tf6 : PySem.W.typeIn K (.ref g6) = some (.type "function"))
    (l_g6 : K.lookup g6 = some ⟨oc_g6, od_g6, .func (PySem.W.fnOf "__init__" "NoText.__init__" (defArgs Tw.sIn1) (defBody Tw.sIn1) (defScope Tw.sIn1) .none kV_g6 dc_g6 pm_g6 an_g6 cd_g6 ct_g6), sl_g6⟩)
    (c_g6 : PySem.W.codeIn K cd_g6 "NoText.__init__" = true)
    (k_g6 : PySem.W.keepIn K (.ref g6) = true)
    {tk_ST : Tok} (b_ST : PySem.W.nsIn K mainGlobals "STROKE" = some (some (.str "/" tk_ST)))
    {tk_NS : Tok} (b_NS : PySem.W.nsIn K mainGlobals "NO_SAYS" = some (some (.str "none" tk_NS)))
    {tk_BT : Tok} (b_BT : PySem.W.nsIn K mainGlobals "BETWEEN" = some (some (.str " / " tk_BT))) :
    LawG l w K 12 63 "script" mg top h := by
  have e := htop.symm.trans (PySem.W.mg_of X G b_fL)
  cases e
  have F_fM := fun_mk (st := sFre) l_fM c_fM k_fM
  have B_fM := F_fM.binds (ps := ["pen"]) fun _ _ _ _ _ _ us hl => match us, hl with | [_], _ => rfl
  have g_fM := PySem.W.mg_of X G b_fM
  have F_fD := fun_mk (st := sDrw) l_fD c_fD k_fD
  have B_fD := F_fD.binds (ps := ["pen", "many"]) fun _ _ _ _ _ _ us hl => match us, hl with | [_, _], _ => rfl
  have g_fD := PySem.W.mg_of X G b_fD
  have F_fO := fun_mk (st := sOpn) l_fO c_fO k_fO
  have B_fO := F_fO.binds (ps := ["script"]) fun _ _ _ _ _ _ us hl => match us, hl with | [_], _ => rfl
  have g_fO := PySem.W.mg_of X G b_fO
  have F_dc := fun_mk (st := Cl.sClm) l_dc c_dc k_dc
  have B_dc := F_dc.binds (ps := ["pen", "most", "wide"]) fun _ _ _ _ _ _ us hl => match us, hl with | [_, _, _], _ => rfl
  have g_dc := PySem.W.mg_of X G b_dc
  have F_db := fun_mk (st := Cl.sBok) l_db c_db k_db
  have B_db := F_db.binds (ps := ["pen", "most"]) fun _ _ _ _ _ _ us hl => match us, hl with | [_, _], _ => rfl
  have g_db := PySem.W.mg_of X G b_db
  have F_dg := fun_mk (st := sSgn) l_dg c_dg k_dg
  have B_dg := F_dg.binds (ps := ["pen"]) fun _ _ _ _ _ _ us hl => match us, hl with | [_], _ => rfl
  have g_dg := PySem.W.mg_of X G b_dg
  have F_dp := fun_mk (st := sSpo) l_dp c_dp k_dp
  have B_dp := F_dp.binds (ps := ["pen", "words", "menu"]) fun _ _ _ _ _ _ us hl => match us, hl with | [_, _, _], _ => rfl
  have g_dp := PySem.W.mg_of X G b_dp
  have F_da := fun_mk (st := sAsp) l_da c_da k_da
  have B_da := F_da.binds (ps := ["pen", "text", "menu"]) fun _ _ _ _ _ _ us hl => match us, hl with | [_, _, _], _ => rfl
  have g_da := PySem.W.mg_of X G b_da
  have F_er := fun_mk (st := sBre) l_er c_er k_er
  have B_er := F_er.binds (ps := ["text"]) fun _ _ _ _ _ _ us hl => match us, hl with | [_], _ => rfl
  have g_er := PySem.W.mg_of X G b_er
  have F_et := fun_mk (st := Tc.sTol) l_et c_et k_et
  have B_et := F_et.binds (ps := ["text"]) fun _ _ _ _ _ _ us hl => match us, hl with | [_], _ => rfl
  have g_et := PySem.W.mg_of X G b_et
  have F_ei := fun_mk (st := Tc.sRgt) l_ei c_ei k_ei
  have B_ei := F_ei.binds (ps := ["text"]) fun _ _ _ _ _ _ us hl => match us, hl with | [_], _ => rfl
  have g_ei := PySem.W.mg_of X G b_ei
  have F_pw := fun_mk (st := sWof) l_pw c_pw k_pw
  have B_pw := F_pw.binds (ps := ["text"]) fun _ _ _ _ _ _ us hl => match us, hl with | [_], _ => rfl
  have g_pw := PySem.W.mg_of X G b_pw
  have F_pa := fun_mk (st := sWat) l_pa c_pa k_pa
  have B_pa := F_pa.binds (ps := ["words", "at"]) fun _ _ _ _ _ _ us hl => match us, hl with | [_, _], _ => rfl
  have g_pa := PySem.W.mg_of X G b_pa
  have F_pn := fun_mk (st := sNon) l_pn c_pn k_pn
  have B_pn := F_pn.binds (ps := ["word"]) fun _ _ _ _ _ _ us hl => match us, hl with | [_], _ => rfl
  have g_pn := PySem.W.mg_of X G b_pn
  have F_pb := fun_mk (st := sBst) l_pb c_pb k_pb
  have B_pb := F_pb.binds (ps := ["words", "at", "many", "most"]) fun _ _ _ _ _ _ us hl => match us, hl with | [_, _, _, _], _ => rfl
  have g_pb := PySem.W.mg_of X G b_pb
  have F_pc := fun_mk (st := sClf) l_pc c_pc k_pc
  have B_pc := F_pc.binds (ps := ["words", "at"]) fun _ _ _ _ _ _ us hl => match us, hl with | [_, _], _ => rfl
  have g_pc := PySem.W.mg_of X G b_pc
  have F_pk := fun_mk (st := sBkf) l_pk c_pk k_pk
  have B_pk := F_pk.binds (ps := ["words", "at"]) fun _ _ _ _ _ _ us hl => match us, hl with | [_, _], _ => rfl
  have g_pk := PySem.W.mg_of X G b_pk
  have F_pd := fun_mk (st := sRbk) l_pd c_pd k_pd
  have B_pd := F_pd.binds (ps := ["text"]) fun _ _ _ _ _ _ us hl => match us, hl with | [_], _ => rfl
  have g_pd := PySem.W.mg_of X G b_pd
  have F_ps := fun_mk (st := sShc) l_ps c_ps k_ps
  have B_ps := F_ps.binds (ps := ["claim"]) fun _ _ _ _ _ _ us hl => match us, hl with | [_], _ => rfl
  have g_ps := PySem.W.mg_of X G b_ps
  have F_pt := fun_mk (st := sShb) l_pt c_pt k_pt
  have B_pt := F_pt.binds (ps := ["book"]) fun _ _ _ _ _ _ us hl => match us, hl with | [_], _ => rfl
  have g_pt := PySem.W.mg_of X G b_pt
  have F_qw := fun_mk (st := sWhp) l_qw c_qw k_qw
  have B_qw := F_qw.binds (ps := ["thing"]) fun _ _ _ _ _ _ us hl => match us, hl with | [_], _ => rfl
  have g_qw := PySem.W.mg_of X G b_qw
  have F_qs := fun_mk (st := sSay) l_qs c_qs k_qs
  have B_qs := F_qs.binds (ps := ["thing"]) fun _ _ _ _ _ _ us hl => match us, hl with | [_], _ => rfl
  have g_qs := PySem.W.mg_of X G b_qs
  have F_gR := fun_mk (st := sRis) l_gR c_gR k_gR
  have B_gR := F_gR.binds (ps := ["says"]) fun _ _ _ _ _ _ us hl => match us, hl with | [_], _ => rfl
  have g_gR := PySem.W.mg_of X G b_gR
  have F_gO := fun_mk (st := sHop) l_gO c_gO k_gO
  have B_gO := F_gO.binds (ps := ["says"]) fun _ _ _ _ _ _ us hl => match us, hl with | [_], _ => rfl
  have g_gO := PySem.W.mg_of X G b_gO
  have F_gI := fun_mk (st := sIcl) l_gI c_gI k_gI
  have B_gI := F_gI.binds (ps := ["thing"]) fun _ _ _ _ _ _ us hl => match us, hl with | [_], _ => rfl
  have g_gI := PySem.W.mg_of X G b_gI
  have F_fL := fun_mk (st := sLaw) l_fL c_fL k_fL
  have B_fL := F_fL.binds (ps := ["script"]) fun _ _ _ _ _ _ us hl => match us, hl with | [_], _ => rfl
  have g_fL := PySem.W.mg_of X G b_fL
  have C_gR : Se.FunC K "is_rising" "is_rising" sRis gR cR _ := ⟨⟨_, _, _, _, _, _, _, _, rfl, l_gR, c_gR⟩, k_gR⟩
  have C_gO : Se.FunC K "has_opposites" "has_opposites" sHop gO cO _ := ⟨⟨_, _, _, _, _, _, _, _, rfl, l_gO, c_gO⟩, k_gO⟩
  have C_gI : Se.FunC K "is_claim" "is_claim" sIcl gI cI _ := ⟨⟨_, _, _, _, _, _, _, _, rfl, l_gI, c_gI⟩, k_gI⟩
  have M_MOST_THINGS := PySem.W.mg_of X G b_MOST_THINGS
  have M_MOST_CLAIMS := PySem.W.mg_of X G b_MOST_CLAIMS
  have M_MOST_FIGURES := PySem.W.mg_of X G b_MOST_FIGURES
  have F_g6 := fun_mk (st := Tw.sIn1) l_g6 c_g6 k_g6
  have B_g6 := F_g6.binds (ps := ["self", "at"]) fun _ _ _ _ _ _ us hl => match us, hl with | [_, _], _ => rfl
  have Z_range := PySem.W.mg_none_of X G z_range
  have Z_isinstance := PySem.W.mg_none_of X G z_isinstance
  have Z_len := PySem.W.mg_none_of X G z_len
  have Z_list := PySem.W.mg_none_of X G z_list
  have Z_tuple := PySem.W.mg_none_of X G z_tuple
  have Z_all := PySem.W.mg_none_of X G z_all
  have Z_any := PySem.W.mg_none_of X G z_any
  have Z_zip := PySem.W.mg_none_of X G z_zip
  have Z_int := PySem.W.mg_none_of X G z_int
  have Z_bool := PySem.W.mg_none_of X G z_bool
  have Z_enumerate := PySem.W.mg_none_of X G z_enumerate
  have Z_str := PySem.W.mg_none_of X G z_str
  have Z_repr := PySem.W.mg_none_of X G z_repr
  have Z_min := PySem.W.mg_none_of X G z_min
  have Z_sorted := PySem.W.mg_none_of X G z_sorted
  have Z_ValueError := PySem.W.mg_none_of X G z_ValueError
  refine ⟨PySem.W.fnOf "law" "law" (defArgs sLaw) (defBody sLaw) (defScope sLaw) .none kV_fL dc_fL pm_fL an_fL cd_fL ct_fL, [(cR, PR), (cO, PO), (cI, PI)], spLaw PI PR PO K, ?_, ?_, ?_, fun s u => .of_eq rfl, fun H a ns _ hT hS => ?_, fun base hb hn_ hT => ?_⟩
  · intro p hp
    simp only [List.mem_cons, List.not_mem_nil, or_false] at hp
    rcases hp with rfl | rfl | rfl
    · exact ow "is_rising" (by simp) _ g_gR cR PR _ _ _ _ _ _ l_gR rfl rfl lc_R v_R
    · exact ow "has_opposites" (by simp) _ g_gO cO PO _ _ _ _ _ _ l_gO rfl rfl lc_O v_O
    · exact ow "is_claim" (by simp) _ g_gI cI PI _ _ _ _ _ _ l_gI rfl rfl lc_I v_I
  · intro p hp
    simp only [List.mem_cons, List.not_mem_nil, or_false] at hp
    rcases hp with rfl | rfl | rfl
    · exact np_R
    · exact np_O
    · exact np_I
  · intro p hp
    simp only [List.mem_cons, List.not_mem_nil, or_false] at hp
    rcases hp with rfl | rfl | rfl
    · exact PySem.W.codeHd_of_K X hd_R
    · exact PySem.W.codeHd_of_K X hd_O
    · exact PySem.W.codeHd_of_K X hd_I
  · exact ⟨a, ns, rfl, hS, ⟨#[], hT (cI, PI) (by simp), trivial⟩, ⟨#[], hT (cR, PR) (by simp), trivial⟩, ⟨#[], hT (cO, PO) (by simp), trivial⟩, fun _ => rfl⟩
  · have t_R := hT (cR, PR) (by simp)
    have T_R : TabB base mg cR PR := ⟨t_R.code, t_R.bm, t_R.gP⟩
    have t_O := hT (cO, PO) (by simp)
    have T_O : TabB base mg cO PO := ⟨t_O.code, t_O.bm, t_O.gP⟩
    have t_I := hT (cI, PI) (by simp)
    have T_I : TabB base mg cI PI := ⟨t_I.code, t_I.bm, t_I.gP⟩
    have Tp : Zp mg := by constructor <;> assumption
    have Tn : Zn mg := by constructor <;> assumption
    have Td : Tw.Zd mg := by constructor <;> assumption
    have Ti : Zi mg := by constructor <;> assumption
    have Tb : Tc.Zb mg := by constructor <;> assumption
    have Tt : Tc.Zt mg := by constructor <;> assumption
    have Tr : Tc.Zr mg := by constructor <;> assumption
    have Th : Tc.Zh mg := by constructor <;> assumption
    have Ts : Cl.Zs mg := by constructor <;> assumption
    have Tk : Zk mg := by constructor <;> assumption
    have MS := PySem.W.mg_of X G b_ST
    have MN := PySem.W.mg_of X G b_NS
    have MB := PySem.W.mg_of X G b_BT
    have GD : FnOk l.prog w K mg base CX0 2 fD _ ["pen", "many"] spDrw := ok_drw F_fD F_fM B_fM g_fM Tp
    have GO : FnOk l.prog w K mg base CX0 1 fO _ ["script"] (spOpn K) := ok_opn F_fO Z_list
    have Gc : FnOk l.prog w K mg base CX0 3 dc _ ["pen", "most", "wide"] Cl.spClm := Cl.ok_clm F_dc Ts F_fD B_fD g_fD GD
    have Gb : FnOk l.prog w K mg base CX0 4 db _ ["pen", "most"] Cl.spBok := Cl.ok_bok F_db Ts F_fD B_fD g_fD GD F_dc B_dc g_dc Gc
    have Gg : FnOk l.prog w K mg base CX0 3 dg _ ["pen"] spSgn := ok_sgn F_dg Td F_fD B_fD g_fD GD
    have Gp : FnOk l.prog w K mg base CX0 4 dp _ ["pen", "words", "menu"] spSpo := ok_spo F_dp Td F_fD B_fD g_fD GD F_dg B_dg g_dg Gg
    have Ga : FnOk l.prog w K mg base CX0 5 da _ ["pen", "text", "menu"] spAsp := ok_asp F_da F_fD B_fD g_fD GD F_dp B_dp g_dp Gp
    have O6 : OexC K c6 := ⟨⟨nm6, q6, N6, bs6, bm6, sn6, sub6, ab6, col6, dd6, m06, m16, m26, m36, m56, x6, rv6⟩, sa6, hs6, ty6, kp6⟩
    have G6 : FnOk l.prog w K mg base CX0 1 g6 _ ["self", "at"] (spInit K) := Tw.ok_in1 F_g6
    have N : NT l.prog w K mg base c6 g6 _ := ⟨O6, na6, in6, tf6, B_g6, G6, PySem.W.mg_of X G a6⟩
    have XF : XfC K c6 := ⟨hg6, hk6, hs6, hd6⟩
    have Ot : Tc.Oth K mg c6 S (fun i => [c8, c0, c2, c1, c7, c5, c3, c4].getD i 0) := {
      gS := PySem.W.mg_of X G aS
      xS := Cf.exm_t bS (Cf.cls_s lS) tS ss6
      go := fun i x e => match i, e with | 0, e => by cases e; exact PySem.W.mg_of X G a8 | 1, e => by cases e; exact PySem.W.mg_of X G a0 | 2, e => by cases e; exact PySem.W.mg_of X G a2 | 3, e => by cases e; exact PySem.W.mg_of X G a1 | 4, e => by cases e; exact PySem.W.mg_of X G a7 | 5, e => by cases e; exact PySem.W.mg_of X G a5 | 6, e => by cases e; exact PySem.W.mg_of X G a3 | 7, e => by cases e; exact PySem.W.mg_of X G a4 | n + 8, e => by cases e
      no := fun i hi => match i, hi with | 0, _ => Cf.kit_f (Cf.cls_s lc8) ty8 s68 s66 | 1, _ => Cf.kit_f (Cf.cls_s lc0) ty0 s60 s66 | 2, _ => Cf.kit_f (Cf.cls_s lc2) ty2 s62 s66 | 3, _ => Cf.kit_f (Cf.cls_s lc1) ty1 s61 s66 | 4, _ => Cf.kit_f (Cf.cls_s lc7) ty7 s67 s66 | 5, _ => Cf.kit_f (Cf.cls_s lc5) ty5 s65 s66 | 6, _ => Cf.kit_f (Cf.cls_s lc3) ty3 s63 s66 | 7, _ => Cf.kit_f (Cf.cls_s lc4) ty4 s64 s66
      me := Cf.kit_t (Cf.cls_s lc6) ty6 s66
      kv := Cf.kit_v sv6
      ec := ⟨hg6, hk6, hs6, hd6, ha6, hn, ht, hm6⟩
      z_isinstance := Z_isinstance
      z_ValueError := Z_ValueError }
    have Gw : FnOk l.prog w K mg base CX0 1 qw _ ["thing"] spWhG := ok_whp F_qw Ti
    have Gs : FnOk l.prog w K mg base CX0 2 qs _ ["thing"] spSyG := ok_say F_qs M_MOST_THINGS F_qw B_qw g_qw Gw
    have GR : FnOk l.prog w K mg base CX0 3 gR _ ["says"] (spRiG PR) := ok_ris C_gR Ti T_R
    have GH : FnOk l.prog w K mg base CX0 3 gO _ ["says"] (spHoG PO) := ok_hpt C_gO Ti T_O
    have GI : FnOk l.prog w K mg base CX0 5 gI _ ["thing"] (spClG PI PR PO) := ok_icl C_gI Ti T_I F_qs B_qs g_qs Gs k_gR B_gR g_gR GR k_gO B_gO g_gO GH
    have Pw : FnOk l.prog w K mg base CX0 1 pw _ ["text"] spWof := ok_wof F_pw
    have Pa : FnOk l.prog w K mg base CX0 1 pa _ ["words", "at"] spWat := ok_wat F_pa Tn
    have Pn : FnOk l.prog w K mg base CX0 1 pn _ ["word"] spNoz := ok_noz F_pn Tn M_MOST_FIGURES
    have Pb : Gx2.FnX l.prog w K mg base (L2.CX l.prog w) 3 pb _ ["words", "at", "many", "most"] (spBst c6) := ok_bst F_pb N MS F_pa B_pa g_pa Pa
    have Pc : Gx2.FnX l.prog w K mg base (L2.CX l.prog w) 7 pc _ ["words", "at"] (spClf c6 PI PR PO) := ok_clf F_pc Tn N MN F_pa B_pa g_pa Pa F_pn B_pn g_pn Pn k_gI B_gI g_gI GI
    have Pk : Gx2.FnX l.prog w K mg base (L2.CX l.prog w) 8 pk _ ["words", "at"] (spBkf c6 PI PR PO) := ok_bkf F_pk Tb M_MOST_CLAIMS F_pb B_pb g_pb Pb F_pc B_pc g_pc Pc
    have Pd : Gx2.FnX l.prog w K mg base (L2.CX l.prog w) 9 pd _ ["text"] (spRbk c6 PI PR PO) := ok_rbk F_pd F_pw B_pw g_pw Pw F_pk B_pk g_pk Pk
    have Ps : FnOk l.prog w K mg base CX0 1 ps _ ["claim"] spShc := ok_shc F_ps Th MN
    have Pt : FnOk l.prog w K mg base CX0 2 pt _ ["book"] spShb := ok_shb F_pt MB F_ps B_ps g_ps Ps
    have Er : FnOk l.prog w K mg base CX0 1 er _ ["text"] spBre := ok_bre F_er Tt
    have Et : Gx2.FnX l.prog w K mg base CX0 10 et _ ["text"] (Tc.spTol PI PR PO) := Tc.ok_tol F_et N XF Ot F_pd B_pd g_pd Pd
    have Ei : Gx2.FnX l.prog w K mg base CX0 11 ei _ ["text"] (Tc.spRgt PI PR PO) := Tc.ok_rgt F_ei Tr F_er B_er g_er Er F_et B_et g_et Et
    exact ok_law F_fL Tk F_fO B_fO g_fO GO F_fD B_fD g_fD GD F_db B_db g_db Gb F_dc B_dc g_dc Gc F_pt B_pt g_pt Pt F_da B_da g_da Ga F_ei B_ei g_ei Ei
end K81
open PySem PySem.W PyProof.Rows
set_option maxHeartbeats 0 in
theorem PySem.Challenge.cw_sparecut_k81_no_books_texts_holds : PySem.Challenge.rw_sparecut_k81_no_books_texts.Holds := by
  w_on; o_law; k_head; (case hw => w_witness2)
  k_fill
  refine Eg.walk_own (l := PySem.Challenge.rw_sparecut_k81_no_books_texts) (m := 63) (k := 12) (x := "script") ["is_rising", "has_opposites", "is_claim"] rfl (by decide) rfl ⟨rfl, by decide, by decide⟩ (by decide +kernel) (fun w h Y => PySem.W.kIn_of Y) ?F
  case F =>
    intro w mg fa h Y KX G hmg ow
    refine' K81.all_mk KX G hmg ow ?b_fM ?l_fM ?c_fM ?k_fM ?b_fD ?l_fD ?c_fD ?k_fD ?b_fO ?l_fO ?c_fO ?k_fO ?b_dc ?l_dc ?c_dc ?k_dc ?b_db ?l_db ?c_db ?k_db ?b_dg ?l_dg ?c_dg ?k_dg ?b_dp ?l_dp ?c_dp ?k_dp ?b_da ?l_da ?c_da ?k_da ?b_er ?l_er ?c_er ?k_er ?b_et ?l_et ?c_et ?k_et ?b_ei ?l_ei ?c_ei ?k_ei ?b_pw ?l_pw ?c_pw ?k_pw ?b_pa ?l_pa ?c_pa ?k_pa ?b_pn ?l_pn ?c_pn ?k_pn ?b_pb ?l_pb ?c_pb ?k_pb ?b_pc ?l_pc ?c_pc ?k_pc ?b_pk ?l_pk ?c_pk ?k_pk ?b_pd ?l_pd ?c_pd ?k_pd ?b_ps ?l_ps ?c_ps ?k_ps ?b_pt ?l_pt ?c_pt ?k_pt ?b_qw ?l_qw ?c_qw ?k_qw ?b_qs ?l_qs ?c_qs ?k_qs ?b_gR ?l_gR ?c_gR ?k_gR ?b_gO ?l_gO ?c_gO ?k_gO ?b_gI ?l_gI ?c_gI ?k_gI ?b_fL ?l_fL ?c_fL ?k_fL ?lc_R ?v_R ?hd_R ?np_R ?lc_O ?v_O ?hd_O ?np_O ?lc_I ?v_I ?hd_I ?np_I ?b_MOST_THINGS ?b_MOST_CLAIMS ?b_MOST_FIGURES ?z_range ?z_isinstance ?z_len ?z_list ?z_tuple ?z_all ?z_any ?z_zip ?z_int ?z_bool ?z_enumerate ?z_str ?z_repr ?z_min ?z_sorted ?z_ValueError ?aS ?bS ?hn ?ht ?lS ?tS ?a0 ?hg0 ?hk0 ?hs0 ?hd0 ?ha0 ?hm0 ?lc0 ?ty0 ?ss0 ?sv0 ?a1 ?hg1 ?hk1 ?hs1 ?hd1 ?ha1 ?hm1 ?lc1 ?ty1 ?ss1 ?sv1 ?a2 ?hg2 ?hk2 ?hs2 ?hd2 ?ha2 ?hm2 ?lc2 ?ty2 ?ss2 ?sv2 ?a3 ?hg3 ?hk3 ?hs3 ?hd3 ?ha3 ?hm3 ?lc3 ?ty3 ?ss3 ?sv3 ?a4 ?hg4 ?hk4 ?hs4 ?hd4 ?ha4 ?hm4 ?lc4 ?ty4 ?ss4 ?sv4 ?a5 ?hg5 ?hk5 ?hs5 ?hd5 ?ha5 ?hm5 ?lc5 ?ty5 ?ss5 ?sv5 ?a6 ?hg6 ?hk6 ?hs6 ?hd6 ?ha6 ?hm6 ?lc6 ?ty6 ?ss6 ?sv6 ?a7 ?hg7 ?hk7 ?hs7 ?hd7 ?ha7 ?hm7 ?lc7 ?ty7 ?ss7 ?sv7 ?a8 ?hg8 ?hk8 ?hs8 ?hd8 ?ha8 ?hm8 ?lc8 ?ty8 ?ss8 ?sv8 ?s00 ?s01 ?s02 ?s03 ?s04 ?s05 ?s06 ?s07 ?s08 ?s10 ?s11 ?s12 ?s13 ?s14 ?s15 ?s16 ?s17 ?s18 ?s20 ?s21 ?s22 ?s23 ?s24 ?s25 ?s26 ?s27 ?s28 ?s30 ?s31 ?s32 ?s33 ?s34 ?s35 ?s36 ?s37 ?s38 ?s40 ?s41 ?s42 ?s43 ?s44 ?s45 ?s46 ?s47 ?s48 ?s50 ?s51 ?s52 ?s53 ?s54 ?s55 ?s56 ?s57 ?s58 ?s60 ?s61 ?s62 ?s63 ?s64 ?s65 ?s66 ?s67 ?s68 ?s70 ?s71 ?s72 ?s73 ?s74 ?s75 ?s76 ?s77 ?s78 ?s80 ?s81 ?s82 ?s83 ?s84 ?s85 ?s86 ?s87 ?s88 ?kp6 ?x6 ?rv6 ?sa6 ?na6 ?in6 ?tf6 ?l_g6 ?c_g6 ?k_g6 ?b_ST ?b_NS ?b_BT
    (case b_fM => k_is)
    (case l_fM => k_is)
    (case c_fM => k_is)
    (case k_fM => k_is)
    (case b_fD => k_is)
    (case l_fD => k_is)
    (case c_fD => k_is)
    (case k_fD => k_is)
    (case b_fO => k_is)
    (case l_fO => k_is)
    (case c_fO => k_is)
    (case k_fO => k_is)
    (case b_dc => k_is)
    (case l_dc => k_is)
    (case c_dc => k_is)
    (case k_dc => k_is)
    (case b_db => k_is)
    (case l_db => k_is)
    (case c_db => k_is)
    (case k_db => k_is)
    (case b_dg => k_is)
    (case l_dg => k_is)
    (case c_dg => k_is)
    (case k_dg => k_is)
    (case b_dp => k_is)
    (case l_dp => k_is)
    (case c_dp => k_is)
    (case k_dp => k_is)
    (case b_da => k_is)
    (case l_da => k_is)
    (case c_da => k_is)
    (case k_da => k_is)
    (case b_er => k_is)
    (case l_er => k_is)
    (case c_er => k_is)
    (case k_er => k_is)
    (case b_et => k_is)
    (case l_et => k_is)
    (case c_et => k_is)
    (case k_et => k_is)
    (case b_ei => k_is)
    (case l_ei => k_is)
    (case c_ei => k_is)
    (case k_ei => k_is)
    (case b_pw => k_is)
    (case l_pw => k_is)
    (case c_pw => k_is)
    (case k_pw => k_is)
    (case b_pa => k_is)
    (case l_pa => k_is)
    (case c_pa => k_is)
    (case k_pa => k_is)
    (case b_pn => k_is)
    (case l_pn => k_is)
    (case c_pn => k_is)
    (case k_pn => k_is)
    (case b_pb => k_is)
    (case l_pb => k_is)
    (case c_pb => k_is)
    (case k_pb => k_is)
    (case b_pc => k_is)
    (case l_pc => k_is)
    (case c_pc => k_is)
    (case k_pc => k_is)
    (case b_pk => k_is)
    (case l_pk => k_is)
    (case c_pk => k_is)
    (case k_pk => k_is)
    (case b_pd => k_is)
    (case l_pd => k_is)
    (case c_pd => k_is)
    (case k_pd => k_is)
    (case b_ps => k_is)
    (case l_ps => k_is)
    (case c_ps => k_is)
    (case k_ps => k_is)
    (case b_pt => k_is)
    (case l_pt => k_is)
    (case c_pt => k_is)
    (case k_pt => k_is)
    (case b_qw => k_is)
    (case l_qw => k_is)
    (case c_qw => k_is)
    (case k_qw => k_is)
    (case b_qs => k_is)
    (case l_qs => k_is)
    (case c_qs => k_is)
    (case k_qs => k_is)
    (case b_gR => k_is)
    (case l_gR => k_is)
    (case c_gR => k_is)
    (case k_gR => k_is)
    (case b_gO => k_is)
    (case l_gO => k_is)
    (case c_gO => k_is)
    (case k_gO => k_is)
    (case b_gI => k_is)
    (case l_gI => k_is)
    (case c_gI => k_is)
    (case k_gI => k_is)
    (case b_fL => k_is)
    (case l_fL => k_is)
    (case c_fL => k_is)
    (case k_fL => k_is)
    (case lc_R => k_is)
    (case v_R => exact rfl)
    (case hd_R => kernel_rfl)
    (case np_R => kernel_rfl)
    (case lc_O => k_is)
    (case v_O => exact rfl)
    (case hd_O => kernel_rfl)
    (case np_O => kernel_rfl)
    (case lc_I => k_is)
    (case v_I => exact rfl)
    (case hd_I => kernel_rfl)
    (case np_I => kernel_rfl)
    (case b_MOST_THINGS => k_is)
    (case b_MOST_CLAIMS => k_is)
    (case b_MOST_FIGURES => k_is)
    (case z_range => k_is)
    (case z_isinstance => k_is)
    (case z_len => k_is)
    (case z_list => k_is)
    (case z_tuple => k_is)
    (case z_all => k_is)
    (case z_any => k_is)
    (case z_zip => k_is)
    (case z_int => k_is)
    (case z_bool => k_is)
    (case z_enumerate => k_is)
    (case z_str => k_is)
    (case z_repr => k_is)
    (case z_min => k_is)
    (case z_sorted => k_is)
    (case z_ValueError => k_is)
    (case aS => k_is)
    (case bS => k_is)
    (case hn => k_is)
    (case ht => k_is)
    (case lS => k_is)
    (case tS => k_is)
    (case a0 => k_is)
    (case hg0 => k_is)
    (case hk0 => k_is)
    (case hs0 => k_is)
    (case hd0 => k_is)
    (case ha0 => k_is)
    (case hm0 => k_is)
    (case lc0 => k_is)
    (case ty0 => k_is)
    (case ss0 => k_is)
    (case sv0 => k_is)
    (case a1 => k_is)
    (case hg1 => k_is)
    (case hk1 => k_is)
    (case hs1 => k_is)
    (case hd1 => k_is)
    (case ha1 => k_is)
    (case hm1 => k_is)
    (case lc1 => k_is)
    (case ty1 => k_is)
    (case ss1 => k_is)
    (case sv1 => k_is)
    (case a2 => k_is)
    (case hg2 => k_is)
    (case hk2 => k_is)
    (case hs2 => k_is)
    (case hd2 => k_is)
    (case ha2 => k_is)
    (case hm2 => k_is)
    (case lc2 => k_is)
    (case ty2 => k_is)
    (case ss2 => k_is)
    (case sv2 => k_is)
    (case a3 => k_is)
    (case hg3 => k_is)
    (case hk3 => k_is)
    (case hs3 => k_is)
    (case hd3 => k_is)
    (case ha3 => k_is)
    (case hm3 => k_is)
    (case lc3 => k_is)
    (case ty3 => k_is)
    (case ss3 => k_is)
    (case sv3 => k_is)
    (case a4 => k_is)
    (case hg4 => k_is)
    (case hk4 => k_is)
    (case hs4 => k_is)
    (case hd4 => k_is)
    (case ha4 => k_is)
    (case hm4 => k_is)
    (case lc4 => k_is)
    (case ty4 => k_is)
    (case ss4 => k_is)
    (case sv4 => k_is)
    (case a5 => k_is)
    (case hg5 => k_is)
    (case hk5 => k_is)
    (case hs5 => k_is)
    (case hd5 => k_is)
    (case ha5 => k_is)
    (case hm5 => k_is)
    (case lc5 => k_is)
    (case ty5 => k_is)
    (case ss5 => k_is)
    (case sv5 => k_is)
    (case a6 => k_is)
    (case hg6 => k_is)
    (case hk6 => k_is)
    (case hs6 => k_is)
    (case hd6 => k_is)
    (case ha6 => k_is)
    (case hm6 => k_is)
    (case lc6 => k_is)
    (case ty6 => k_is)
    (case ss6 => k_is)
    (case sv6 => k_is)
    (case a7 => k_is)
    (case hg7 => k_is)
    (case hk7 => k_is)
    (case hs7 => k_is)
    (case hd7 => k_is)
    (case ha7 => k_is)
    (case hm7 => k_is)
    (case lc7 => k_is)
    (case ty7 => k_is)
    (case ss7 => k_is)
    (case sv7 => k_is)
    (case a8 => k_is)
    (case hg8 => k_is)
    (case hk8 => k_is)
    (case hs8 => k_is)
    (case hd8 => k_is)
    (case ha8 => k_is)
    (case hm8 => k_is)
    (case lc8 => k_is)
    (case ty8 => k_is)
    (case ss8 => k_is)
    (case sv8 => k_is)
    (case s00 => k_is)
    (case s01 => k_is)
    (case s02 => k_is)
    (case s03 => k_is)
    (case s04 => k_is)
    (case s05 => k_is)
    (case s06 => k_is)
    (case s07 => k_is)
    (case s08 => k_is)
    (case s10 => k_is)
    (case s11 => k_is)
    (case s12 => k_is)
    (case s13 => k_is)
    (case s14 => k_is)
    (case s15 => k_is)
    (case s16 => k_is)
    (case s17 => k_is)
    (case s18 => k_is)
    (case s20 => k_is)
    (case s21 => k_is)
    (case s22 => k_is)
    (case s23 => k_is)
    (case s24 => k_is)
    (case s25 => k_is)
    (case s26 => k_is)
    (case s27 => k_is)
    (case s28 => k_is)
    (case s30 => k_is)
    (case s31 => k_is)
    (case s32 => k_is)
    (case s33 => k_is)
    (case s34 => k_is)
    (case s35 => k_is)
    (case s36 => k_is)
    (case s37 => k_is)
    (case s38 => k_is)
    (case s40 => k_is)
    (case s41 => k_is)
    (case s42 => k_is)
    (case s43 => k_is)
    (case s44 => k_is)
    (case s45 => k_is)
    (case s46 => k_is)
    (case s47 => k_is)
    (case s48 => k_is)
    (case s50 => k_is)
    (case s51 => k_is)
    (case s52 => k_is)
    (case s53 => k_is)
    (case s54 => k_is)
    (case s55 => k_is)
    (case s56 => k_is)
    (case s57 => k_is)
    (case s58 => k_is)
    (case s60 => k_is)
    (case s61 => k_is)
    (case s62 => k_is)
    (case s63 => k_is)
    (case s64 => k_is)
    (case s65 => k_is)
    (case s66 => k_is)
    (case s67 => k_is)
    (case s68 => k_is)
    (case s70 => k_is)
    (case s71 => k_is)
    (case s72 => k_is)
    (case s73 => k_is)
    (case s74 => k_is)
    (case s75 => k_is)
    (case s76 => k_is)
    (case s77 => k_is)
    (case s78 => k_is)
    (case s80 => k_is)
    (case s81 => k_is)
    (case s82 => k_is)
    (case s83 => k_is)
    (case s84 => k_is)
    (case s85 => k_is)
    (case s86 => k_is)
    (case s87 => k_is)
    (case s88 => k_is)
    (case kp6 => k_is)
    (case x6 => k_is)
    (case rv6 => decide +kernel)
    (case sa6 => k_is)
    (case na6 => k_is)
    (case in6 => k_is)
    (case tf6 => k_is)
    (case l_g6 => k_is)
    (case c_g6 => k_is)
    (case k_g6 => k_is)
    (case b_ST => k_is)
    (case b_NS => k_is)
    (case b_BT => k_is)
