import PyProof.Rows.All
import Wide.All
import OpenK.AllK
import Wide.FinOn
import PyProof.EqAt
import PyProof.EqKinds
import PyProof.TupleCall
import PySem.Challenge.RW_sparecut_k80_texts_written_and_read
import HandS.ForMost
import HandS.Evl
import HandS.Conv
import HandS.Exc
import HandS.ExcOwn
import HandS.ExcInit
import HandS.ExcValue
import HandS.ExcIs
import KE.KExcIs
import KE.KxText
import HandS.AnyAll
import HandS.GenOver
import HandS.SortInts
import HandS.TupAny
import HandS.TupMul
import HandS.Strs
import HandS.IsInst
import HandS.EndTab
import HandS.EndOwn
import HandS.SetFor
import KE.KNestM
import KE.GoesEnum
import HandS.FStr
import HandS.RaiseMore
import KE.DatumOrd
import HandS.Zip
import HandS.Style
import HandS.RevRange
import HandS.TryOnly
import HandS.WordsExc
import KE.LtData
import HandS.TupLe
import HandS.ExcField
import HandS.Dict
import HandS.More
import HandS.WordsDict
import HandS.DictComp
import HandS.Deep
import HandS.Text
import HandS.StrMore
import KE.IntTextLaws
set_option Elab.async false
set_option linter.all false
set_option maxRecDepth 100000
set_option maxHeartbeats 2000000
namespace Nw
open PySem PySem.Spec PyProof.Rows L2
/-! ### readings that hide the heap: what is new is told by its facts alone -/
theorem same_new {H : Hp} {p : Addr} {o : HO} (h : H p = none) : Same H (upd H p o) := fun b x e => by
  rw [upd_ne (ne_of_none e h)]
  exact e
theorem sqt {K : PySem.W.Frag} {H H' : Hp} {a : Addr} {xs : List V} (e : Same H H') (h : SqT K H a xs) : SqT K H' a xs := by
  rcases h with (h | ⟨o, h⟩) | h
  · exact .inl (.inl (e _ _ h))
  · exact .inl (.inr ⟨o, e _ _ h⟩)
  · exact .inr h
/-- a new object o at a place of its own -/
def New (H : Hp) (o : HO) (Q : VK) : Prop := ∀ p H2, H p = none → Same H H2 → H2 p = some o → (∀ b, b ≠ p → H2 b = H b) → Q (.ref p) H2
theorem New.to {H : Hp} {o : HO} {Q : VK} (h : New H o Q) : ∀ p, H p = none → Q (.ref p) (upd H p o) := fun p n => h p _ n (same_new n) upd_same fun b nb => upd_ne nb
section
variable {X : Cx} {e : Expr} {es : List Expr} {t t' : TE} {ta : TA} {pos : Pos}
theorem pe_weak (h : PE X e t) (i : ∀ σ H Q, t' σ H Q → t σ H Q) : PE X e t' := ⟨fun pins s σ H Q I q => h.run pins s σ H Q I (i σ H Q q)⟩
theorem op_weak {f : Value → Value → Sem Value} {r r' : R2} (h : OpR X f r) (i : ∀ x y H Q, r' x y H Q → r x y H Q) : OpR X f r' := fun pins s σ H x y v u Q I rx ry q => h pins s σ H x y v u Q I rx ry (i x y H Q q)
theorem call_weak {f : Value} {r r' : List V → Hp → VK → Prop} (h : CallR X f r) (i : ∀ xs H Q, r' xs H Q → r xs H Q) : CallR X f r' := fun pins s σ H xs us Q I rx q => h pins s σ H xs us Q I rx (i xs H Q q)
theorem mt_weak {id : String} {r r' : V → List V → Hp → VK → Prop} (h : MtR X id r) (i : ∀ x xs H Q, r' x xs H Q → r x xs H Q) : MtR X id r' := fun pins s σ H x xs v us Q I rx rs q => h pins s σ H x xs v us Q I rx rs (i x xs H Q q)
theorem sl_weak {r r' : V → Option Int → Option Int → Hp → VK → Prop} (h : SlR X r) (i : ∀ x lo hi H Q, r' x lo hi H Q → r x lo hi H Q) : SlR X r' := fun pins s σ H x v vl vu lo hi sl Q I rx a b c q => h pins s σ H x v vl vu lo hi sl Q I rx a b c (i x lo hi H Q q)
/-- what follows may be asked for less -/
def clA (t : TA) : TA := fun σ H R => ∃ R' : List V → Hp → Prop, (∀ xs H1, R' xs H1 → R xs H1) ∧ t σ H R'
theorem pa_cl (h : PA X es ta) : PA X es (clA ta) := ⟨fun ps pins s σ H Q I ⟨R', i, q⟩ => thn (h.run ps pins s σ H R' I q) fun us s1 ⟨vs, H1, I1, r1, q1⟩ => ⟨vs, H1, I1, r1, i vs H1 q1⟩⟩
def clE (t : TE) : TE := fun σ H R => ∃ R' : VK, (∀ v H1, R' v H1 → R v H1) ∧ t σ H R'
theorem pe_cl (h : PE X e t) : PE X e (clE t) := ⟨fun pins s σ H Q I ⟨R', i, q⟩ => thn (h.run pins s σ H R' I q) fun u s1 ⟨v, H1, I1, r1, q1⟩ => ⟨v, H1, I1, r1, i v H1 q1⟩⟩
def nLst (t : TA) : TE := fun σ H Q => t σ H fun xs H1 => xs.length ≤ sizeLine ∧ New H1 (.lst xs) Q
def nTup (t : TA) : TE := fun σ H Q => t σ H fun xs H1 => xs.length ≤ sizeLine ∧ New H1 (.tup xs) Q
theorem pe_lstN (h : PA X es ta) : PE X (.List es pos) (nLst ta) := pe_weak (pe_lst (pa_cl h)) fun _ _ _ q => ⟨_, fun _ _ z => ⟨z.1, z.2.to⟩, q⟩
theorem pe_tupN {x1} (h : PA X es ta) : PE X (.Tuple es x1 pos) (nTup ta) := pe_weak (pe_tup (pa_cl h)) fun _ _ _ q => ⟨_, fun _ _ z => ⟨z.1, z.2.to⟩, q⟩
/-- xs + ys (lists) -/
def rCatN : R2 := fun x y H Q => ∃ p q xs ys, x = .ref p ∧ y = .ref q ∧ H p = some (.lst xs) ∧ H q = some (.lst ys) ∧ xs.length + ys.length ≤ sizeLine ∧ New H (.lst (xs ++ ys)) Q
theorem op_catN : OpR X (binaryOp .Add) rCatN := op_weak op_cat fun x y H Q ⟨p, q, xs, ys, h1, h2, h3, h4, h5, h6⟩ => ⟨p, q, xs, ys, h1, h2, h3, h4, h5, h6.to⟩
/-- a tuple of xs, new or not -/
def ResT (H : Hp) (xs : List V) (Q : VK) : Prop := ∀ p H2, Same H H2 → H2 p = some (.tup xs) → Q (.ref p) H2
theorem call_list_ofN : CallR X (.type "list") (fun xs H Q => ∃ p ys, xs = [.ref p] ∧ (SqL X.K H p ys ∨ SqT X.K H p ys) ∧ New H (.lst ys) Q) := call_weak call_list_of fun _ _ _ ⟨p, ys, h1, h2, h3⟩ => ⟨p, ys, h1, h2, h3.to⟩
theorem call_tuple_ofN : CallR X (.type "tuple") (fun xs H Q => ∃ p ys, xs = [.ref p] ∧ SqL X.K H p ys ∧ New H (.tup ys) Q) := call_weak call_tuple_of fun _ _ _ ⟨p, ys, h1, h2, h3⟩ => ⟨p, ys, h1, .inl ⟨h2, h3.to⟩⟩
theorem sl_listN : SlR X (fun x lo hi H Q => ∃ a xs, x = .ref a ∧ SqL X.K H a xs ∧ New H (.lst (cutV xs lo hi)) Q) := sl_weak sl_list fun _ _ _ _ _ ⟨a, xs, h1, h2, h3⟩ => ⟨a, xs, h1, h2, h3.to⟩
end
/-! ### data by its values -/
theorem dp_bls {K : PySem.W.Frag} {H : Hp} : ∀ bs : List Bool, DpAll K H (bs.map V.bl) (bs.map PyData.bool)
  | [] => .nil
  | b :: r => .cons (.bl b) (dp_bls r)
theorem dp_ints {K : PySem.W.Frag} {H : Hp} : ∀ ns : List Int, DpAll K H (ns.map V.int) (ns.map PyData.int)
  | [] => .nil
  | b :: r => .cons (.int b) (dp_ints r)
/-- flat data: numbers, truths, None -/
def flatD : PyData → Bool
  | .none | .bool _ | .int _ => true
  | _ => false
theorem flat_lay : ∀ ds : List PyData, ds.all flatD = true → PyData.canLayAll0 ds = true
  | [], _ => rfl
  | d :: r, h => by
    rw [List.all_cons, Bool.and_eq_true] at h
    show (PyData.canLay0 d && PyData.canLayAll0 r) = true
    rw [flat_lay r h.2, Bool.and_true]
    cases d <;> first | rfl | exact Bool.noConfusion h.1
theorem flat_depth : ∀ ds : List PyData, ds.all flatD = true → PyData.depthAll ds ≤ 1
  | [], _ => by decide
  | d :: r, h => by
    rw [List.all_cons, Bool.and_eq_true] at h
    have ih := flat_depth r h.2
    have hd : PyData.depth d ≤ 1 := by
      cases d <;> first | decide | exact Bool.noConfusion h.1 | exact Nat.zero_le _ | exact Nat.le_refl _
    show Nat.max (PyData.depth d) (PyData.depthAll r) ≤ 1
    exact Nat.max_le.mpr ⟨hd, ih⟩
theorem shaped_list {ds : List PyData} (h : ds.all flatD = true) : SeqAt.shaped (.list ds) = true := by
  have e := flat_depth ds h
  have e2 : PyData.depth (.list ds) ≤ 64 := by
    show PyData.depthAll ds + 1 ≤ 64
    omega
  show (PyData.canLayAll0 ds && decide (PyData.depth (.list ds) ≤ 64)) = true
  rw [flat_lay ds h, decide_eq_true e2]
  rfl
theorem shaped_tuple {ds : List PyData} (h : ds.all flatD = true) : SeqAt.shaped (.tuple ds) = true := by
  have e := flat_depth ds h
  have e2 : PyData.depth (.tuple ds) ≤ 64 := by
    show PyData.depthAll ds + 1 ≤ 64
    omega
  show (PyData.canLayAll0 ds && decide (PyData.depth (.tuple ds) ≤ 64)) = true
  rw [flat_lay ds h, decide_eq_true e2]
  rfl
theorem flat_bls (bs : List Bool) : (bs.map PyData.bool).all flatD = true := by
  rw [List.all_map, List.all_eq_true]
  exact fun _ _ => rfl
theorem flat_ints (ns : List Int) : (ns.map PyData.int).all flatD = true := by
  rw [List.all_map, List.all_eq_true]
  exact fun _ _ => rfl
theorem eqv_self {d : PyData} (h : SeqAt.shaped d = true) : PyData.eqv d d = true := SeqAt.eqv_refl d (SeqAt.canLay_of_shaped h)
end Nw
namespace Nw
open PySem PySem.Spec PyProof.Rows L2
section
variable {X : Cx}
theorem cr_sortedN : CallR X (.builtin "sorted") (fun vs H Q => ∃ (a : Addr) (ns : List Int), vs = [V.ref a] ∧ SqL X.K H a (ns.map V.int) ∧ ∀ ns' : List Int, ns'.Perm ns → ns'.Pairwise (· ≤ ·) → New H (.lst (ns'.map V.int)) Q) :=
  call_weak cr_sortedI fun _ _ _ ⟨a, ns, h1, h2, h3⟩ => ⟨a, ns, h1, h2, fun ns' p hp hs np => (h3 ns' hp hs).to p np⟩
theorem cutV_all {xs : List V} {lo hi : Option Int} (h : HT.sIx xs.length 0 lo = 0 ∧ HT.sIx xs.length xs.length hi = xs.length) : cutV xs lo hi = xs := by
  unfold cutV
  rw [h.1, h.2]
  exact List.take_length
theorem sl_tupN : SlR X (fun x lo hi H Q => ∃ a xs, x = .ref a ∧ H a = some (.tup xs) ∧ ResT H (cutV xs lo hi) Q) := sl_weak sl_tupA fun _ lo hi H Q ⟨a, xs, h1, h2, h3⟩ =>
  ⟨a, xs, h1, .of h2, fun z => h3 a H (Same.refl H) (by rw [cutV_all z]; exact h2), fun _ p np => h3 p _ (same_new np) upd_same⟩
theorem op_catTN : OpR X (binaryOp .Add) (fun x y H Q => ∃ a b xs ys, x = .ref a ∧ y = .ref b ∧ H a = some (.tup xs) ∧ H b = some (.tup ys) ∧ xs.length + ys.length ≤ sizeLine ∧ ResT H (xs ++ ys) Q) :=
  op_weak op_catA fun _ _ H Q ⟨a, b, xs, ys, h1, h2, h3, h4, h5, h6⟩ => ⟨a, b, xs, ys, h1, h2, .of h3, .of h4, h5, fun z => h6 b H (Same.refl H) (by rw [z]; exact h4), fun _ z => h6 a H (Same.refl H) (by rw [z, List.append_nil]; exact h3), fun _ _ p np => h6 p _ (same_new np) upd_same⟩
theorem op_repTN : OpR X (binaryOp .Mult) (fun x y H Q => ∃ l k xs, x = .ref l ∧ y = .int k ∧ H l = some (.tup xs) ∧ xs ≠ [] ∧ 2 ≤ k ∧ k ≤ 1000 ∧ xs.length ≤ 1000 ∧ ResT H (List.replicate k.toNat xs).flatten Q) :=
  op_weak op_repT fun _ _ H Q ⟨l, k, xs, h1, h2, h3, h4, h5, h6, h7, h8⟩ => ⟨l, k, xs, h1, h2, .of h3, h4, h5, h6, h7, fun p np => h8 p _ (same_new np) upd_same⟩
/-! the same rules with the written part by its name (for comprehensions' blocks) -/
variable {K : PySem.W.Frag}
theorem ix_tupB (h : X.K = K) : IxR X (rIxT K) := by subst h; exact ix_tup
theorem ix_listB (h : X.K = K) : IxR X (rIxL K) := by subst h; exact ix_list
theorem op_in_seqB (h : X.K = K) : OpR X (compareOp .In) (rIn K false) := by subst h; exact op_in_seq
theorem op_notIn_seqB (h : X.K = K) : OpR X (compareOp .NotIn) (rIn K true) := by subst h; exact op_notIn_seq
theorem call_len_seqB (h : X.K = K) : CallR X (.builtin "len") (fun xs H Q => ∃ p ys, xs = [.ref p] ∧ (SqL K H p ys ∨ SqT K H p ys) ∧ Q (.int ys.length) H) := by subst h; exact call_len_seq
theorem call_isiB (h : X.K = K) : CallR X (.builtin "isinstance") (rIsi K) := by subst h; exact call_isi
theorem op_eqDB (h : X.K = K) (hu : X.A.units + 64 < cLine) : OpR X (compareOp .Eq) (rEqD K) := by subst h; exact op_eqD hu
theorem op_neDB (h : X.K = K) (hu : X.A.units + 64 < cLine) : OpR X (compareOp .NotEq) (rNeD K) := by subst h; exact op_neD hu
end
end Nw
namespace Ev1
open PySem PySem.Spec PyProof.Rows L2 Nw
/-! ### exceptions as values -/
/-- at a an exception of the class cls, its dict d -/
def ExV (cls : Value) (d : Option Addr) (a : Addr) : HO := .ext fun h => ∃ (oe : Obj) (vs : Array Value), h.get? a = some oe ∧ Zc cls d oe ∧ oe.data = .fields vs
/-- an exception that was made of the class cls, its dict d: it stands at a place of its own -/
def Made (H1 : Hp) (cls : Value) (d : Option Addr) (Q : VK) : Prop := ∀ a H3, H1 a = none → Same H1 H3 → H3 a = some (ExV cls d a) → Q (.ref a) H3
theorem pe_made {X : Cx} {e : Expr} {t : L2.St → Hp → XK → Prop} (m : PMk X e t) : PE X e (fun σ H Q => t σ H fun cls d H1 => Made H1 cls d Q) := by
  refine ⟨fun pins s σ H Q I h => thn (m pins s σ H _ I h) fun u s1 z => ?_⟩
  obtain ⟨a, oe, vs, sI, H1, cls, d, rfl, J, k, na, ha, hz, hd, _, ha1, os, ag, _, q⟩ := z
  have new : ObjOk X.prog X.w (upd H1 a (ExV cls d a)) s1.heap a (ExV cls d a) := ⟨⟨oe, vs, ha, hz, hd⟩, ⟨oe, ha⟩, fun h1 h2 ⟨o, v, y, r⟩ i => ⟨o, v, i o y, r⟩⟩
  exact ⟨.ref a, upd H1 a (ExV cls d a), J.call' (ch := []) os (Un.laidN k na ha1) (J.hok.laidN k ha1 new) ag (fun b y => absurd y (by simp)), rfl, q a _ ha1 (same_new ha1) upd_same⟩
/-- at a an exception of the class D, with the field at = y -/
def ExF (H : Hp) (a D : Addr) (y : V) : Prop := ∃ dx, H a = some (ExV (.ref D) (some dx) a) ∧ H dx = some (.xd [(("at" : Str), y)])
/-- at a an exception of the class D -/
def ExAt (H : Hp) (a D : Addr) : Prop := H a = some (ExO (.ref D) a) ∨ ∃ y, ExF H a D y
theorem ExF.same {H H' : Hp} {a D : Addr} {y : V} (h : ExF H a D y) (s : Same H H') : ExF H' a D y := by
  obtain ⟨dx, h1, h2⟩ := h
  exact ⟨dx, s _ _ h1, s _ _ h2⟩
theorem ExAt.same {H H' : Hp} {a D : Addr} (h : ExAt H a D) (s : Same H H') : ExAt H' a D := by
  rcases h with h | ⟨y, h⟩
  · exact .inl (s _ _ h)
  · exact .inr ⟨y, h.same s⟩
theorem notCls_of {o : Obj} {vs : Array Value} (hd : o.data = .fields vs) : PySem.W.notCls o = true := by
  unfold PySem.W.notCls
  rw [hd]
section
variable {X : Cx} {pins : List (Addr × Obj)} {σ : L2.St} {H : Hp} {s : Shared} {a D : Addr} {y : V}
theorem ExF.inst (I : Inv X pins σ H s) (h : ExF H a D y) : ∃ ox od u, PySem.W.InstAt s.heap a ox D (some od) ∧ PySem.W.lookIn "at" od = some (some u) ∧ RelV y u := by
  obtain ⟨dx, h1, h2⟩ := h
  have z1 : ObjOk X.prog X.w H s.heap a (.ext fun h => ∃ (oe : Obj) (vs : Array Value), h.get? a = some oe ∧ Zc (.ref D) (some dx) oe ∧ oe.data = .fields vs) := I.hok a _ h1
  obtain ⟨⟨oe, vs, ha, ⟨hc, hd⟩, hv⟩, _⟩ := z1
  have z2 : ObjOk X.prog X.w H s.heap dx (.xd [(("at" : Str), y)]) := I.hok dx _ h2
  obtain ⟨mA, hn, hr⟩ := z2
  obtain ⟨od, ho, hl⟩ := lookIn_ns hn
  have l : List.lookup ("at" : Str) [(("at" : Str), y)] = some y := by simp [List.lookup]
  obtain ⟨u, hu, ru⟩ := RelO.some_of (v := y) (o := mA "at") (by rw [← l]; exact hr "at")
  exact ⟨oe, od, u, ⟨ha, hc, notCls_of hv, by rw [hd]; exact ho⟩, by rw [hl, hu], ru⟩
theorem ExAt.inst (I : Inv X pins σ H s) (h : ExAt H a D) : ∃ ox od, PySem.W.InstAt s.heap a ox D od := by
  rcases h with h | ⟨y, h⟩
  · obtain ⟨⟨oe, vs, ha, ⟨hc, hd⟩, hv, _⟩, _⟩ := I.hok a _ h
    exact ⟨oe, none, ⟨ha, hc, notCls_of hv, by rw [hd]; exact trivial⟩⟩
  · obtain ⟨ox, od, _, J, _⟩ := h.inst I
    exact ⟨ox, some od, J⟩
end
/-- X(e), X an own class without own __init__ -/
def tExN (C : Addr) (te : TE) : TE := fun σ H Q => te σ H fun _ H1 => ∀ a H2, H1 a = none → Same H1 H2 → H2 a = some (ExO (.ref C) a) → Q (.ref a) H2
theorem pe_excN {X : Cx} {C : Addr} {bmB : List Value} {B newId initId : String} {x : Str} {e : Expr} {te : TE} {p pos : Pos} (F : ExcBaseFacts B newId initId bmB) (q : PySem.W.excIn X.K C bmB newId = true) (gC : X.mg x = some (.ref C)) (kC : PySem.W.keepIn X.K (.ref C) = true) (hg : Gl X x)
    (he : PE X e te) (hs : starEach [e] X.env = (false, eval e X.env) :: starEach [] X.env := by rfl) (hdb : (x == ("__debug__" : Str)) = false := by decide) : PE X (.Call (.Name x p) [e] [] pos) (tExN C te) :=
  pe_weak (pe_exc1 F q gC kC hg (pe_cl he) hs hdb) fun _ _ _ h => ⟨_, fun _ _ z a na => z a _ na (same_new na) upd_same, h⟩
/-- isinstance(e, c) of an exception -/
def rIsX (K : PySem.W.Frag) : List V → Hp → VK → Prop := fun xs H Q => ∃ (a D : Addr) (c : V) (cv : Value) (b : Bool), xs = [.ref a, c] ∧ ExAt H a D ∧ ExcC K D ∧ (∀ u, RelV c u → u = cv) ∧ PySem.W.kitOne K (.ref D) cv = some b ∧ Q (.bl b) H
theorem call_isX {X : Cx} : CallR X (.builtin "isinstance") (rIsX X.K) := by
  intro pins s σ H xs us Q I r h
  obtain ⟨a, D, c, cv, b, rfl, hE, C, hcv, e, q⟩ := h
  cases r with
  | cons rx rr =>
    cases rr with
    | cons rt rr =>
      cases rr
      cases rx
      have ec := hcv _ rt
      subst ec
      obtain ⟨ox, od, J⟩ := hE.inst I
      have cl : (PySem.W.clsIn X.K D).isSome = true := by
        obtain ⟨cd, hc, _⟩ := PySem.W.any_some C.hd
        rw [hc]
        rfl
      exact PySem.W.kia_one (PySem.W.kitx_exc cl C.hg C.hk C.hs C.ha C.hn C.ht C.hm) I.kIn J e (fun z => nomatch z) fun tk => ⟨.bl b, H, I.kept (t' := tk) fun _ _ z => z, rfl, q⟩
/-- e.at of an exception -/
def tAtX (K : PySem.W.Frag) (te : TE) : TE := fun σ H Q => te σ H fun x H1 => ∃ (a D : Addr) (y : V), x = .ref a ∧ ExF H1 a D y ∧ ExcC K D ∧ PySem.W.findIn K (.ref D) "at" = some none ∧ Q y H1
theorem pe_atX {X : Cx} {e : Expr} {te : TE} {pos : Pos} (he : PE X e te) (hb : attributeBase e "at" X.env (eval e X.env) = eval e X.env := by rfl) : PE X (.Attribute e "at" pos) (tAtX X.K te) := by
  refine ⟨fun pins s σ H Q I h => attr_of hb (thn (he.run pins s σ H _ I h) fun u s1 hh => ?_)⟩
  obtain ⟨x, H1, I1, rx, a, D, y, rfl, hE, C, nf, q⟩ := hh
  cases rx
  obtain ⟨ox, od, u, J, l, ru⟩ := hE.inst I1
  exact HandSPX.exc_get I1.kIn J C.hg C.hk C.hs (PySem.W.findObj_own C.hd nf rfl l) (handed_of ru) ⟨y, H1, I1.tok _, ru, q⟩
/-- the promise of «def __init__(self, at): self.at = at» -/
def spInit (K : PySem.W.Frag) : Sp := fun vs H Q _ => ∃ (a C : Addr) (y : V), vs = [.ref a, y] ∧ OexC K C ∧ PySem.W.findIn K (.ref C) "at" = some none ∧ H a = some (exo a C none) ∧
  ∀ dx, H dx = none → dx ≠ a → Q .non (upd (upd H dx (exd dx [(("at" : Str), y)])) a (exo a C (some dx)))
theorem del_new {H1 : Hp} {a dx : Addr} {o1 o2 o3 : HO} (na : H1 a = none) (ne : dx ≠ a) : del (upd (upd (upd H1 a o1) dx o2) a o3) a = upd H1 dx o2 := by
  funext b
  by_cases hb : b = a
  · subst hb
    rw [del_same, upd_ne (Ne.symm ne), na]
  · rw [del_ne hb, upd_ne hb]
    by_cases hd : b = dx
    · subst hd
      rw [upd_same, upd_same]
    · rw [upd_ne hd, upd_ne hd, upd_ne hb]
/-- what C(y) asks, C with that __init__: the exception and its field -/
theorem made_F {K : PySem.W.Frag} {C : Addr} {y : V} {H1 : Hp} {Q : VK} (T : OexC K C) (nf : PySem.W.findIn K (.ref C) "at" = some none) (h : ∀ a H2, H1 a = none → Same H1 H2 → ExF H2 a C y → Q (.ref a) H2) :
    [y].length ≤ 1000 ∧ ∀ a, H1 a = none → spInit K (.ref a :: ([y] ++ [])) (upd H1 a (exo a C none)) (fun v H2 => v = .non ∧ ∃ (d : Addr) (fs : List (Str × V)), H2 a = some (exo a C (some d)) ∧ H2 d = some (exd d fs) ∧ H1 d = none ∧
      Made (upd (del H2 a) d (.xd fs)) (Value.ref C) (some d) Q) (fun _ _ _ => False) := by
  refine ⟨by simp, fun a na => ⟨a, C, y, rfl, T, nf, upd_same, fun dx nd ne => ?_⟩⟩
  have nd1 : H1 dx = none := by
    rw [upd_ne ne] at nd
    exact nd
  refine ⟨rfl, dx, [(("at" : Str), y)], upd_same, by rw [upd_ne ne, upd_same], nd1, ?_⟩
  rw [del_new na ne, upd_upd]
  intro b H3 nb s3 e3
  have sd : Same H1 (upd H1 dx (.xd [(("at" : Str), y)])) := same_new nd1
  exact h b H3 (sd.free nb) (sd.trans s3) ⟨dx, e3, s3 _ _ upd_same⟩
end Ev1
namespace Gx
open PySem PySem.Spec PyProof.Rows L2 GxR
/-! ### any, all of a generator expression whose element is run by the layer's own rules -/
/-- the generator's frame running, awake under any | all -/
abbrev gCx (X : Cx) (ge : Expr) (s : Shared) (H : Hp) (cenv : Env) (it : Addr) (fp : List Addr) (pn : List (Addr × Obj)) : Cx :=
  { X with
    s_0 := s
    H_0 := H
    env := cenv
    outer := X.stack
    stack := cenv :: X.stack
    ex := fp
    fn := fun _ => false
    pn := pn
    xe := fun _ _ => False
    A := X.A.in1.in1.over (.compLoop ge 0 (.ref it) .none cenv) [] }
theorem room_gen {k : Nat} {X : Cx} {elt : Expr} {gs : List Comprehension} {scope : Scope} {pos : Pos} {s : Shared} {H : Hp} {cenv : Env} {it : Addr} {fp : List Addr} {pn : List (Addr × Obj)} (r : Room (k + 1) X.A) :
    Room k (gCx X (.GeneratorExp elt gs scope pos) s H cenv it fp pn).A := by
  refine ⟨r.hd, ?_, ?_⟩
  · have := r.dp
    show X.A.depth + 0 + 1 + 3 * k + 5 < recursionLimit
    omega
  · have := r.un
    show X.A.units + 1 + 1 + 0 + 3 + 16 * k + 200 < cLine
    omega
/-- gens, drawn and toks say nothing but that all are bare -/
theorem inv_gens {X : Cx} {pins : List (Addr × Obj)} {σ : L2.St} {H : Hp} {s s' : Shared} (I : Inv X pins σ H s) (hh : s'.heap = s.heap) (ho : s'.os = s.os) (hb : AllBare s'.gens) : Inv X pins σ H s' := by
  obtain ⟨h, g, d, t, o⟩ := s
  obtain ⟨h', g', d', t', o'⟩ := s'
  dsimp only at hh ho hb
  subst hh ho
  exact { ok := I.ok, os := I.os, bare := hb, base := I.base, loc := I.loc, cell := I.cell, free := I.free, freeC := I.freeC, pin := I.pin, hok := I.hok, len := I.len }
theorem bare_set {s : Shared} {g : Nat} {x : GenState} (h : AllBare s.gens) (hx : x.bare = true) : AllBare (s.setGen g x).gens := by
  intro y hy
  have hy' : y ∈ s.gens.setIfInBounds g x := hy
  obtain ⟨i, hi, e⟩ := Array.mem_iff_getElem.mp hy'
  by_cases hg : g = i
  · subst hg
    rw [Array.getElem_setIfInBounds_self] at e
    rw [← e]
    exact hx
  · rw [Array.getElem_setIfInBounds_ne (by simpa using hi) hg] at e
    rw [← e]
    exact h _ (Array.getElem_mem _)
section
variable {X : Cx} {pins : List (Addr × Obj)} {σ : L2.St} {H : Hp} {s : Shared}
/-- what the frame of the generator knows as it begins -/
theorem gen_start {ge : Expr} {scope : Scope} {own : List (Str × Nat)} {fp : List Addr} {it a : Addr} {code : Value} {go : Obj} {gs : Array GenState} {tk : Nat} {h5 : Heap} {m : Str → Option Value} (I : Inv X pins σ H s) (hc : X.calm = true) (ok : BlkOk X.N X.env.scope scope own) (hN : X.N.Nodup)
    (nc : ∀ y ∈ scope.names, y.2 ≠ .cell) (hfp : ∀ b ∈ fp, FpOk X pins H b ∧ b < s.heap.objs.size) (fr : (X.A.in1.in1.over (.compLoop ge 0 (.ref it) .none (genEnv scope (cloFrom X.env.cells scope.names []) s.heap.objs.size code builtinsNs X.env)) []).frames = some (genEnv scope (cloFrom X.env.cells scope.names []) s.heap.objs.size code builtinsNs X.env :: X.stack))
    (hg : AllBare gs) (kp : ∀ b o, s.heap.get? b = some o → h5.get? b = some o) (hns : h5.Ns s.heap.objs.size m) (ha : h5.get? a = some go) (ha1 : s.heap.objs.size < a) (hd : ∀ v, go.data ≠ .cell v) :
    Inv (gCx X ge s H (genEnv scope (cloFrom X.env.cells scope.names []) s.heap.objs.size code builtinsNs X.env) it fp [(a, go)]) [] (wipe σ (own.map (·.2))) H { s with gens := gs, toks := tk, heap := h5 } := by
  have cm : ∀ {y : Str} {c : Addr}, (cloFrom X.env.cells scope.names []).lookup y = some c → X.env.cells.lookup y = some c := fun {y c} e => by
    rcases cloFrom_mem (PySem.mem_of_lookup e) with z | ⟨h1, z⟩
    · cases z
    · have q : ∃ c', X.env.cells.lookup y = some c' := by
        rcases ok.free (y, .free) h1 rfl with k | k
        · exact I.ok.has y (.inl k)
        · exact I.ok.has y (.inr k)
      obtain ⟨c', q⟩ := q
      rw [q] at z
      rw [q, z]
      rfl
  have ch : ∀ {y : Str}, scope.names.lookup y = some .free → ∃ c, (cloFrom X.env.cells scope.names []).lookup y = some c := fun {y} e => mem_lookup (cloFrom_has (PySem.mem_of_lookup e))
  have noc : ∀ {y : Str}, scope.names.lookup y ≠ some .cell := fun {y} e => nc _ (PySem.mem_of_lookup e) rfl
  have stL : ∀ b ∈ frs X.stack, b < s.heap.objs.size := fun b hb => by
    obtain ⟨_, o, e, _⟩ := I.stack.mem hb
    exact Heap.lt_size e
  have okG : (gCx X ge s H (genEnv scope (cloFrom X.env.cells scope.names []) s.heap.objs.size code builtinsNs X.env) it fp [(a, go)]).Ok := {
    mod := I.ok.mod
    kind := ok.kind
    glob := I.ok.glob
    blt := rfl
    above := Nat.le_refl _
    inj := fun x y c h1 h2 => I.ok.inj x y c (cm h1) (cm h2)
    has := fun x h => h.elim (fun k => absurd k noc) fun k => ch k
    cab := fun x c h => Bool.noConfusion h
    hd := fun h => I.ok.hd h
    frames := fr
    stk := .inr ⟨rfl, rfl⟩
    exf := fun b hb => ⟨Nat.ne_of_lt (hfp b hb).2, fun x c e => (hfp b hb).1.2.2.2.2.1 x c (cm e)⟩
    bs := I.bs
    bsz := Nat.le_trans I.ok.bsz I.sz
    noex := fun b o e hb => by
      rcases (hfp b hb).1.2.2.2.1 with z | z
      · exact I.ok.noex b o e z
      · exact Nat.lt_irrefl _ (Nat.lt_of_lt_of_le (Heap.lt_size e) (Nat.le_trans I.ok.bsz z))
    exfs := fun b hb z => by
      rcases List.mem_cons.mp (I.stkSub b z) with y | y
      · exact (hfp b hb).1.2.1 y
      · exact (hfp b hb).1.2.2.1 y
    funs := I.stack
    frf := I.stkFree }
  refine { ok := okG, os := rfl, bare := hg, base := Un.kept kp, loc := ⟨m, hns, fun i x v e1 e2 e3 => ?_⟩, cell := fun x c e => ?_, free := I.hok.fresh (Nat.le_refl _), freeC := fun x c e => I.freeC x c (cm e), pin := fun p hp => ?_, hok := I.hok.kept kp, len := (wipe_length _ _).trans I.len }
  · obtain ⟨e2, hi⟩ := wipe_some e2
    have hf : scope.names.lookup x = some .free := by
      have no : ∀ k, scope.names.lookup x = some k → ¬ (k = .local ∨ k = .cell) := fun k hk hh => by
        rcases ok.own _ (PySem.mem_of_lookup hk) hh with z | z
        · obtain ⟨p, hp, hx⟩ := List.mem_map.mp z
          have q := ok.ix p hp
          have hx' : p.1 = x := hx
          rw [hx'] at q
          exact hi (List.mem_map.mpr ⟨p, hp, nodup_ix hN q e1⟩)
        · exact z (List.mem_of_getElem? e1)
      have e3 : Vis scope x := e3
      rcases e3 with k | k | k
      · exact absurd (.inl rfl) (no _ k)
      · exact absurd (.inr rfl) (no _ k)
      · exact k
    have hv := ok.free _ (PySem.mem_of_lookup hf) rfl
    obtain ⟨m0, _, hl⟩ := I.loc
    obtain ⟨u, ru, q⟩ := hl i x v e1 e2 (.inr hv)
    refine ⟨u, ru, .inr ⟨.inr hf, ?_⟩⟩
    rcases q with ⟨k, _⟩ | ⟨_, c, ec, z⟩
    · have k' : X.env.scope.names.lookup x = some .local := k
      rcases hv with y | y
      · have y' : X.env.scope.names.lookup x = some .cell := y
        rw [k'] at y'
        cases y'
      · have y' : X.env.scope.names.lookup x = some .free := y
        rw [k'] at y'
        cases y'
    · obtain ⟨c', e'⟩ := ch hf
      have e2 := cm e'
      rw [ec] at e2
      cases e2
      exact ⟨c, e', z.keeps kp⟩
  · obtain ⟨v, z⟩ := I.cell x c (cm e)
    exact ⟨v, z.keeps kp⟩
  · have hp' : p ∈ [(a, go)] ++ ([] : List (Addr × Obj)) := hp
    have e : p = (a, go) := by simpa using hp'
    subst e
    refine ⟨ha, I.hok.fresh (Nat.le_of_lt ha1), Nat.ne_of_gt ha1, fun z => ?_, hd⟩
    exact Nat.lt_irrefl _ (Nat.lt_trans (stL _ z) ha1)
end
/-- what a turn's way through the generator must reach. stopb: the truth at which any (true), all (false) stops -/
def GEndP (Y : Cx) (σw : L2.St) (stopb : Bool) (Q : VK) : Nat → Shared → Shared → Prop := fun _ _ s => ∃ H', Inv Y [] σw H' s ∧ Q (.bl (!stopb)) H'
def GProto (Y : Cx) (σw : L2.St) (fp : List Addr) (tn : Nat → Heap → Prop) (W : Nat → Nat → Hp → Prop) (stopb : Bool) (Q : VK) : Protocol := fun n _ v s kap => ∃ (k : Bool) (H' : Hp), v = .bool k ∧ Inv Y [] σw H' s ∧
  ((k = stopb ∧ Q (.bl stopb) H') ∨ (k = !stopb ∧ ∃ i m, m < n ∧ W i m H' ∧ ∀ s'' : Shared, s''.heap = s.heap → s''.os = s.os → AllBare s''.gens → kap (.send .none) s''))
section
variable {X : Cx} {elt tg iter : Expr} {ifs : List Expr} {scope : Scope} {gpos : Pos} {s4 : Shared} {H4 : Hp} {cenv : Env} {it : Addr} {fp : List Addr} {pn : List (Addr × Obj)} {J : It} {tn : Nat → Heap → Prop} {g : TG} {tt : TT} {te : TE} {own : List Nat} {σ : L2.St} {stopb : Bool} {Q : VK} {W : Nat → Nat → Hp → Prop}
/-- the turns of the generator's own loop -/
theorem gen_loop (hc : X.calm = true) (hco : cenv.scope.isCoroutine = false) (T : Turn X.prog X.w X.K tg J fp it tn) (hpn : ∀ p ∈ pn, ∀ b ∈ fp, p.1 ≠ b)
    (pg : PG (gCx X (.GeneratorExp elt [⟨tg, iter, ifs, 0⟩] scope gpos) s4 H4 cenv it fp pn) tg g) (pt : PTs (gCx X (.GeneratorExp elt [⟨tg, iter, ifs, 0⟩] scope gpos) s4 H4 cenv it fp pn) ifs tt) (pe : PE (gCx X (.GeneratorExp elt [⟨tg, iter, ifs, 0⟩] scope gpos) s4 H4 cenv it fp pn) elt te)
    (turn : ∀ i m H, W i m H → (J.stop i H ∧ Q (.bl (!stopb)) H) ∨ (J.go i H ∧ ∃ Nx : Hp → Prop, (∀ H', Nx H' → ∃ m', m' < m ∧ W (i + 1) m' H') ∧ ∀ x H', J.yld i H x H' → g x (wipe σ own) H' fun σ2 H2 => wipe σ2 own = wipe σ own ∧ tt σ2 H2 fun b H3 =>
      if b = true then te σ2 H3 fun y H4 => (y = .bl stopb ∧ Q (.bl stopb) H4) ∨ (y = .bl (!stopb) ∧ Nx H4) else Nx H3)) :
    ∀ (m n i : Nat) (s0 s : Shared) (H' : Hp), m < n → W i m H' → Inv (gCx X (.GeneratorExp elt [⟨tg, iter, ifs, 0⟩] scope gpos) s4 H4 cenv it fp pn) [] (wipe σ own) H' s → tn i s.heap → (∀ b ∈ fp, H' b = none) →
      Seg (model X.prog X.w) X.A.in1.in1 (fun n s0 r s1 => r = .ok .next ∧ GEndP (gCx X (.GeneratorExp elt [⟨tg, iter, ifs, 0⟩] scope gpos) s4 H4 cenv it fp pn) (wipe σ own) stopb Q n s0 s1)
        (GProto (gCx X (.GeneratorExp elt [⟨tg, iter, ifs, 0⟩] scope gpos) s4 H4 cenv it fp pn) (wipe σ own) fp tn W stopb Q) n s0
        (.compLoop (.GeneratorExp elt [⟨tg, iter, ifs, 0⟩] scope gpos) 0 (.ref it) .none cenv) ((model X.prog X.w).den (.compLoop (.GeneratorExp elt [⟨tg, iter, ifs, 0⟩] scope gpos) 0 (.ref it) .none cenv)) [] s := by
  intro m
  induction m using Nat.strongRecOn with
  | ind m ih =>
    intro n i s0 s H' hmn w I st nf
    have fpk : ∀ {σ' : L2.St} {H' : Hp} {s' : Shared}, Inv (gCx X (.GeneratorExp elt [⟨tg, iter, ifs, 0⟩] scope gpos) s4 H4 cenv it fp pn) [] σ' H' s' → (∀ b ∈ fp, H' b = none) → ∀ b ∈ fp, FpOk (gCx X (.GeneratorExp elt [⟨tg, iter, ifs, 0⟩] scope gpos) s4 H4 cenv it fp pn) [] H' b := fun {σ' H' s'} I' hn b hb =>
      ⟨hn b hb, (I'.ok.exf b hb).1, I'.ok.exfs b hb, .inl hb, (I'.ok.exf b hb).2, fun p hp => hpn p (by simpa using hp) b hb⟩
    show Seg _ _ _ _ n s0 _ ((compTurn (.GeneratorExp elt [⟨tg, iter, ifs, 0⟩] scope gpos) 0 (.ref it) .none cenv).onRaise (leaving cenv)) [] s
    rw [compTurn_gen, Sem.onRaise_eq_wrap]
    refine seg_bind_wrap (wpAny_standAt ?_)
    rcases turn i m H' w with ⟨stop, q⟩ | ⟨go, Nx, hNx, step⟩
    · refine seg_bind_wrap (thnF (T.done (gCx X (.GeneratorExp elt [⟨tg, iter, ifs, 0⟩] scope gpos) s4 H4 cenv it fp pn) rfl rfl rfl hc i [] s _ H' (fun _ _ => False) I (fpk I nf) st stop) fun r s1 z => ?_)
      obtain ⟨rfl, I1⟩ := z
      exact seg_end (.ok .next) ⟨rfl, H', I1, q⟩
    · refine seg_bind_wrap (thnF (T.item (gCx X (.GeneratorExp elt [⟨tg, iter, ifs, 0⟩] scope gpos) s4 H4 cenv it fp pn) rfl rfl rfl hc i [] s _ H' (fun _ _ => False) I (fpk I nf) st go) fun r s1 z => ?_)
      obtain ⟨u, rfl, z⟩ := z
      refine seg_bind_wrap (thnF z fun _ s2 z2 => ?_)
      obtain ⟨x, H2, I2, r2, y2, st2, n2⟩ := z2
      have P2 := I2.pinned (fpk I2 n2) (T.obj _ _ st2)
      refine seg_bind_wrap (thnF (pg.run _ s2 _ H2 x u _ P2 r2 (step x H2 y2)) fun _ s3 z3 => ?_)
      obtain ⟨σ3, H3, I3, hw, q3⟩ := z3
      refine seg_bind_wrap (thnF (pt.run _ s3 σ3 H3 _ I3 q3) fun b sb zb => ?_)
      obtain ⟨Hb, Ib, qb⟩ := zb
      have back : ∀ {s' : Shared} {H' : Hp}, Inv (gCx X (.GeneratorExp elt [⟨tg, iter, ifs, 0⟩] scope gpos) s4 H4 cenv it fp pn) ([] ++ pinsAt fp s2.heap) σ3 H' s' →
          Inv (gCx X (.GeneratorExp elt [⟨tg, iter, ifs, 0⟩] scope gpos) s4 H4 cenv it fp pn) [] (wipe σ own) H' s' ∧ tn (i + 1) s'.heap ∧ ∀ b ∈ fp, H' b = none := fun {s' H'} I' => by
        have pin' : ∀ b ∈ fp, ∀ o, s2.heap.get? b = some o → s'.heap.get? b = some o ∧ H' b = none := fun b hb o e =>
          have y := I'.pin (b, o) (List.mem_append_right _ (List.mem_append_right _ (mem_pinsAt hb e)))
          ⟨y.1, y.2.1⟩
        have hl : (wipe σ own).length = σ3.length := by
          rw [← hw, wipe_length]
        refine ⟨(I'.unpinned (pins := [])).weak hl (fun j v e => ?_), T.keep _ _ _ st2 (fun b hb o e => (pin' b hb o e).1), fun b hb => ?_⟩
        · rw [← hw] at e
          exact (wipe_some e).1
        · obtain ⟨o, e, _⟩ := T.obj _ _ st2 b hb
          exact (pin' b hb o e).2
      cases b with
      | false =>
        simp only [Bool.false_eq_true, if_false] at qb ⊢
        obtain ⟨m', hm, w'⟩ := hNx _ qb
        obtain ⟨I', st', n'⟩ := back Ib
        exact seg_again rfl (ih m' hm n (i + 1) s0 sb Hb (Nat.lt_trans hm hmn) w' I' st' n')
      | true =>
        simp only [if_true] at qb ⊢
        have hy : ∀ v, yieldOut cenv v = yieldValue v := fun v => by simp only [yieldOut, hco, Bool.false_eq_true, if_false]
        simp only [hy]
        rw [Sem.bind_eq_wrap', Sem.bind_eq_wrap', Sem.wrap_wrap, Sem.wrap_wrap]
        refine seg_wrap (thnF (pe.run _ sb σ3 Hb _ Ib qb) fun z sy zy => ?_)
        obtain ⟨v, Hy, Iy, ry, qy⟩ := zy
        obtain ⟨I', st', n'⟩ := back Iy
        obtain ⟨n1, rfl⟩ : ∃ n1, n = n1 + 1 := ⟨n - 1, by omega⟩
        refine seg_at (seg_yield rfl rfl rfl ?_)
        rcases qy with ⟨rfl, q⟩ | ⟨rfl, q⟩
        · cases ry
          exact ⟨stopb, Hy, rfl, I', .inl ⟨rfl, q⟩⟩
        · cases ry
          obtain ⟨m', hm, w'⟩ := hNx _ q
          refine ⟨!stopb, Hy, rfl, I', .inr ⟨rfl, i + 1, m', by omega, w', fun s'' hh ho hb => ?_⟩⟩
          exact seg_again rfl (ih m' hm n1 (i + 1) s'' s'' Hy (by omega) w' (inv_gens I' hh ho hb) (by rw [hh]; exact st') n')
/-- the start of the generator's code -/
theorem gen_begin {n : Nat} {s0 s : Shared} {R : GenEnd} {Y : Protocol} (T : Turn X.prog X.w X.K tg J fp it tn) (st : tn 0 s.heap)
    (loop : Seg (model X.prog X.w) X.A.in1.in1 R Y n s0 (.compLoop (.GeneratorExp elt [⟨tg, iter, ifs, 0⟩] scope gpos) 0 (.ref it) .none cenv) ((model X.prog X.w).den (.compLoop (.GeneratorExp elt [⟨tg, iter, ifs, 0⟩] scope gpos) 0 (.ref it) .none cenv)) [] s) :
    Seg (model X.prog X.w) X.A.in1.in1 R Y n s0 (.compStart (.GeneratorExp elt [⟨tg, iter, ifs, 0⟩] scope gpos) 0 (.ref it) .none cenv) ((model X.prog X.w).den (.compStart (.GeneratorExp elt [⟨tg, iter, ifs, 0⟩] scope gpos) 0 (.ref it) .none cenv)) [] s := by
  show Seg _ _ _ _ n s0 _ ((compStart (.GeneratorExp elt [⟨tg, iter, ifs, 0⟩] scope gpos) 0 (.ref it) .none cenv).onRaise (leaving cenv)) [] s
  unfold compStart
  rw [Sem.onRaise_eq_wrap]
  refine seg_bind_wrap (wpAny_askSetting ?_)
  split
  · exact seg_again rfl loop
  · refine seg_bind_wrap (wpAny_rule ?_)
    show Seg _ _ _ _ n s0 _ ((standAt iter.pos >>= _).wrap _ _ _ _) [] s
    refine seg_bind_wrap (wpAny_standAt (seg_bind_wrap ?_))
    exact T.self _ 0 s _ _ st (seg_again rfl loop)
end
/-- the generator at a, number gn, is asleep (or fresh), with n turns at most -/
def Asleep (X Y : Cx) (σw : L2.St) (fp : List Addr) (tn : Nat → Heap → Prop) (W : Nat → Nat → Hp → Prop) (stopb : Bool) (Q : VK) (gn n : Nat) (s : Shared) : Prop :=
  ∃ (gs : GenState) (H' : Hp), s.gens[gn]? = some gs ∧ Inv Y [] σw H' s ∧ ∀ s'' : Shared, s''.heap = s.heap → s''.os = s.os → AllBare s''.gens →
    gs.Goes (model X.prog X.w) X.A.in1.in1 (fun n s0 r s1 => r = .ok .next ∧ GEndP Y σw stopb Q n s0 s1) (GProto Y σw fp tn W stopb Q) n (.send .none) s''
section
variable {X Y : Cx} {σw : L2.St} {fp : List Addr} {tn : Nat → Heap → Prop} {W : Nat → Nat → Hp → Prop} {Q : VK} {gn : Nat} {a : Addr} {go : Obj} {R : Result → Shared → Prop}
theorem set_at {s : Shared} {x : GenState} (h : gn < s.gens.size) : (s.setGen gn x).gens[gn]? = some x := by
  show (s.gens.setIfInBounds gn x)[gn]? = some x
  rw [Array.getElem?_setIfInBounds_self_of_lt h]
/-- one waking of the generator -/
theorem wake {stopb : Bool} {n : Nat} {s : Shared} {Q' : Option Value → Shared → Prop} {E : Value → Shared → Prop} (hh : X.A.handled = none) (hroom : X.A.depth < recursionLimit) (hp : (a, go) ∈ Y.pn) (hgo : ∀ h : Heap, h.get? a = some go → h.IsGen a gn) (S : Asleep X Y σw fp tn W stopb Q gn n s)
    (stop : ∀ s' H', Inv Y [] σw H' s' → Q (.bl stopb) H' → Q' (some (.bool stopb)) s') (next : ∀ s' m, m < n → Asleep X Y σw fp tn W stopb Q gn m s' → Q' (some (.bool (!stopb))) s') (done : ∀ s' H', Inv Y [] σw H' s' → Q (.bl (!stopb)) H' → Q' none s') :
    wpAny (model X.prog X.w) X.A.in1 (pyNext (.ref a)) Q' E s := by
  obtain ⟨gs, H', hg, I, hG⟩ := S
  have hlt : gn < s.gens.size := by
    rcases Nat.lt_or_ge gn s.gens.size with z | z
    · exact z
    · rw [Array.getElem?_eq_none z] at hg
      cases hg
  have ig : s.heap.IsGen a gn := hgo _ (I.pin (a, go) (List.mem_append_left _ hp)).1
  refine GenW.wpAny_gsz (n := s.gens.size) (Nat.le_refl _) ?_
  refine wpAny_pyNext_genexpQ (A := X.A.in1) hh I.nolimit hroom ig hg (hG _ rfl rfl (bare_set I.bare rfl)) (fun v s1 gs' hb hv sz => ?_) (fun s1 hp1 h' hk sz => ?_)
  · obtain ⟨k, H1, rfl, I1, z⟩ := hv
    have sz1 : gn < s1.gens.size := by
      have e : (s1.setGen gn gs').gens.size = s1.gens.size := GenW.setGen_size _ _ _
      rw [e] at sz
      omega
    have I2 : Inv Y [] σw H1 (s1.setGen gn gs') := inv_gens I1 rfl rfl (bare_set I1.bare hb)
    rcases z with ⟨rfl, q⟩ | ⟨rfl, i, m, hm, w, kap⟩
    · exact stop _ H1 I2 q
    · cases n with
      | zero => omega
      | succ n1 =>
        refine next _ n1 (Nat.lt_succ_self _) ⟨gs', H1, set_at sz1, I2, fun s'' h1 h2 h3 => ?_⟩
        exact kap s'' h1 h2 h3
  · obtain ⟨H1, I1, q⟩ := hp1
    refine done _ H1 ?_ q
    have I2 : Inv Y [] σw H1 (s1.setGen gn .finished) := inv_gens I1 rfl rfl (bare_set I1.bare rfl)
    exact I2.kept (h' := h') (t' := s1.toks) fun b o e => hk b o e
theorem any_loop (hh : X.A.handled = none) (hroom : X.A.depth < recursionLimit) (hp : (a, go) ∈ Y.pn) (hgo : ∀ h : Heap, h.get? a = some go → h.IsGen a gn)
    (fin : ∀ s' H' b, Inv Y [] σw H' s' → Q (.bl b) H' → R (.ok (.ret (.bool b))) s') : ∀ (n : Nat) (s : Shared), Asleep X Y σw fp tn W true Q gn n s → codeAny (model X.prog X.w) X.A (.builtin "any.loop" ⟨[.ref a], []⟩) R s := by
  intro n
  induction n using Nat.strongRecOn with
  | ind n ih =>
    intro s S
    refine codeAny_builtin F.entry_any_loop ?_
    rw [Around.under_plainId F.plain_any_loop _]
    show wpAny _ X.A.in1 (pyNext (.ref a) >>= _) _ _ s
    refine wpAny_bind (wake hh hroom hp hgo S (fun s' H' I q => ?_) (fun s' m hm S' => ?_) (fun s' H' I q => ?_))
    · refine wpAny_bind (wpAny_holding (wpAny_truthy_bool (wpAny_bind (wpAny_letGo ?_))))
      simp only [if_true]
      exact wpAny_bind (wpAny_rule (wpAny_pure (fin s' H' true I q)))
    · refine wpAny_bind (wpAny_holding (wpAny_truthy_bool (wpAny_bind (wpAny_letGo ?_))))
      simp only [Bool.not_true, Bool.false_eq_true, if_false]
      exact wpAny_pure ⟨plainId_quiet F.plain_any_loop _, ih m hm s' S'⟩
    · exact wpAny_bind (wpAny_rule (wpAny_pure (fin s' H' false I q)))
theorem all_loop (hh : X.A.handled = none) (hroom : X.A.depth < recursionLimit) (hp : (a, go) ∈ Y.pn) (hgo : ∀ h : Heap, h.get? a = some go → h.IsGen a gn)
    (fin : ∀ s' H' b, Inv Y [] σw H' s' → Q (.bl b) H' → R (.ok (.ret (.bool b))) s') : ∀ (n : Nat) (s : Shared), Asleep X Y σw fp tn W false Q gn n s → codeAny (model X.prog X.w) X.A (.builtin "all.loop" ⟨[.ref a], []⟩) R s := by
  intro n
  induction n using Nat.strongRecOn with
  | ind n ih =>
    intro s S
    refine codeAny_builtin F.entry_all_loop ?_
    rw [Around.under_plainId F.plain_all_loop _]
    show wpAny _ X.A.in1 (pyNext (.ref a) >>= _) _ _ s
    refine wpAny_bind (wake hh hroom hp hgo S (fun s' H' I q => ?_) (fun s' m hm S' => ?_) (fun s' H' I q => ?_))
    · refine wpAny_bind (wpAny_holding (wpAny_truthy_bool (wpAny_bind (wpAny_letGo ?_))))
      simp only [Bool.false_eq_true, if_false]
      exact wpAny_bind (wpAny_rule (wpAny_pure (fin s' H' false I q)))
    · refine wpAny_bind (wpAny_holding (wpAny_truthy_bool (wpAny_bind (wpAny_letGo ?_))))
      simp only [Bool.not_false, if_true]
      exact wpAny_pure ⟨plainId_quiet F.plain_all_loop _, ih m hm s' S'⟩
    · exact wpAny_bind (wpAny_rule (wpAny_pure (fin s' H' true I q)))
end
/-- any(elt for target in iter if ..) (stopb true), all(..) (stopb false): W by the turn and a measure, Nx what a turn is to reach; P: the def's table of code objects -/
def tAA (P : Addr) (stopb : Bool) (wi : TI) (g : TG) (tt : TT) (te : TE) (vs : List Nat) : TE := fun σ H Q => wi σ H fun J H1 => TabG H1 P ∧ ∀ H2, Tabbed P H1 H2 → ∃ W : Nat → Nat → Hp → Prop, (∃ m, W 0 m H2) ∧
  ∀ i m H, W i m H → (J.stop i H ∧ Q (.bl (!stopb)) H) ∨ (J.go i H ∧ ∃ Nx : Hp → Prop, (∀ H', Nx H' → ∃ m', m' < m ∧ W (i + 1) m' H') ∧ ∀ x H', J.yld i H x H' → g x (wipe σ vs) H' fun σ2 H2 => wipe σ2 vs = wipe σ vs ∧ tt σ2 H2 fun b H3 =>
    if b = true then te σ2 H3 fun y H4 => (y = .bl stopb ∧ Q (.bl stopb) H4) ∨ (y = .bl (!stopb) ∧ Nx H4) else Nx H3)
/-- over a tuple that stays -/
theorem aa_tup {K : PySem.W.Frag} {a : Addr} {xs : List V} {g : TG} {tt : TT} {te : TE} {vs : List Nat} {σ : L2.St} {H1 : Hp} {stopb : Bool} {Q : VK} (Pv : Nat → Hp → Prop) (h0 : Pv 0 H1) (hl : ∀ i H, i ≤ xs.length → Pv i H → SqT K H a xs)
    (hs : ∀ i x H, xs[i]? = some x → Pv i H → g x (wipe σ vs) H fun σ2 H2 => wipe σ2 vs = wipe σ vs ∧ tt σ2 H2 fun b H3 => if b = true then te σ2 H3 fun y H4 => (y = .bl stopb ∧ Q (.bl stopb) H4) ∨ (y = .bl (!stopb) ∧ Pv (i + 1) H4) else Pv (i + 1) H3) (hd : ∀ H, Pv xs.length H → Q (.bl (!stopb)) H) :
    ∃ W : Nat → Nat → Hp → Prop, (∃ m, W 0 m H1) ∧ ∀ i m H, W i m H → ((Itt K a).stop i H ∧ Q (.bl (!stopb)) H) ∨ ((Itt K a).go i H ∧ ∃ Nx : Hp → Prop, (∀ H', Nx H' → ∃ m', m' < m ∧ W (i + 1) m' H') ∧ ∀ x H', (Itt K a).yld i H x H' → g x (wipe σ vs) H' fun σ2 H2 => wipe σ2 vs = wipe σ vs ∧ tt σ2 H2 fun b H3 =>
      if b = true then te σ2 H3 fun y H4 => (y = .bl stopb ∧ Q (.bl stopb) H4) ∨ (y = .bl (!stopb) ∧ Nx H4) else Nx H3) := by
  refine ⟨fun i m H => i + m = xs.length ∧ Pv i H, ⟨xs.length, Nat.zero_add _, h0⟩, fun i m H ⟨e, p⟩ => ?_⟩
  have sq := hl i H (by omega) p
  cases m with
  | zero =>
    have ei : i = xs.length := by omega
    subst ei
    exact .inl ⟨⟨xs, sq, Nat.le_refl _⟩, hd H p⟩
  | succ m =>
    have lt : i < xs.length := by omega
    refine .inr ⟨⟨xs, xs[i], sq, List.getElem?_eq_getElem lt⟩, Pv (i + 1), fun H' q => ⟨m, Nat.lt_succ_self m, by omega, q⟩, fun x H' y => ?_⟩
    obtain ⟨rfl, y⟩ := y
    exact hs i x _ (y xs sq) p
section
variable {X : Cx} {pins : List (Addr × Obj)} {σ : L2.St} {H : Hp} {s : Shared} {c P : Addr} {elt tg iter : Expr} {ifs : List Expr} {scope : Scope} {own : List (Str × Nat)} {gpos : Pos} {wi : TI} {g : TG} {tt : TT} {te : TE} {stopb : Bool} {k : Nat}
/-- the scope of a generator expression: no cells of its own -/
structure GSc (scope : Scope) : Prop where
  co : scope.isCoroutine = false
  nc : ∀ y ∈ scope.names, y.2 ≠ .cell
  dot : scope.names.lookup (".0" : Str) = some NameKind.local
theorem gen_make {Q : VK} {Q' : Value → Shared → Prop} (hr : Room k X.A) (hc : X.calm = true) (hN : X.N.Nodup) (TB : TabB X.base X.mg c P) (hcode : X.env.code = .ref c) (hi : PI X tg iter wi) (ok : BlkOk X.N X.env.scope scope own) (S : GSc scope)
    (hg : ∀ (s : Shared) (H : Hp) (C : Addr) (code : Value) (it : Addr) (fp : List Addr) (pn : List (Addr × Obj)), PG (gCx X (.GeneratorExp elt [⟨tg, iter, ifs, 0⟩] scope gpos) s H (genEnv scope (cloFrom X.env.cells scope.names []) C code builtinsNs X.env) it fp pn) tg g)
    (ht : ∀ (s : Shared) (H : Hp) (C : Addr) (code : Value) (it : Addr) (fp : List Addr) (pn : List (Addr × Obj)), PTs (gCx X (.GeneratorExp elt [⟨tg, iter, ifs, 0⟩] scope gpos) s H (genEnv scope (cloFrom X.env.cells scope.names []) C code builtinsNs X.env) it fp pn) ifs tt)
    (he : ∀ (s : Shared) (H : Hp) (C : Addr) (code : Value) (it : Addr) (fp : List Addr) (pn : List (Addr × Obj)), PE (gCx X (.GeneratorExp elt [⟨tg, iter, ifs, 0⟩] scope gpos) s H (genEnv scope (cloFrom X.env.cells scope.names []) C code builtinsNs X.env) it fp pn) elt te)
    (hs : ∀ x, genFold iter X.env x = pure x) (I : Inv X pins σ H s) (h : tAA P stopb wi g tt te (own.map (·.2)) σ H Q)
    (hQ : ∀ (a : Addr) (go : Obj) (gn n : Nat) (Y : Cx) (fp : List Addr) (tn : Nat → Heap → Prop) (W : Nat → Nat → Hp → Prop) (s5 : Shared), (a, go) ∈ Y.pn → (∀ h : Heap, h.get? a = some go → h.IsGen a gn) → (∀ s' H', Inv Y [] (wipe σ (own.map (·.2))) H' s' → Inv X pins σ H' s') → s5.heap.get? a = some go →
      Asleep X Y (wipe σ (own.map (·.2))) fp tn W stopb Q gn n s5 → Q' (.ref a) s5) :
    wpAny (model X.prog X.w) X.A (eval (.GeneratorExp elt [⟨tg, iter, ifs, 0⟩] scope gpos) X.env) Q' X.xe s := by
  have hfree : ∀ y ∈ scope.names, y.2 = .free → ∃ c, X.env.cells.lookup y.1 = some c := fun y hy e => by
    rcases ok.free y hy e with z | z
    · exact I.ok.has _ (.inl z)
    · exact I.ok.has _ (.inr z)
  refine wpAny_GeneratorExp_make S.co (closure_ok hfree) S.nc S.dot ok.kind (by have := hr.dp; omega) (thn (hi.run pins s σ H _ I h) fun xv s1 hx => thn hx fun itv s2 h2 => ?_) hs
  obtain ⟨it, fp, tn, J, H2, rfl, I2, T, st2, f2, ⟨ps, hP, hT⟩, q⟩ := h2
  have hPs : s2.heap.get? P = some { cls := .none, data := .fields ps } := I2.hok P _ hP
  have cd : PySem.W.CodeHd s2.heap c P := TB.code.keeps I2.bk
  have szf : ∀ b ∈ fp, b < s2.heap.objs.size := fun b hb => by
    obtain ⟨o, e, _⟩ := T.obj _ _ st2 b hb
    exact Heap.lt_size e
  have nP : ∀ b ∈ fp, b ≠ P := fun b hb z => by
    have e := (f2 b hb).1
    rw [z, hP] at e
    cases e
  refine ⟨I2.nolimit, ?_⟩
  have cont : ∀ (code : Value) (h3 : Heap) (tk : Nat) (more : Array Value), Heap.ExtBut P s2.heap h3 → s2.heap.objs.size ≤ h3.objs.size → h3.get? P = some { cls := .none, data := .fields (ps ++ more) } → TriplesOk (ps ++ more).toList →
      wpAny (model X.prog X.w) X.A (builtinsFor X.env.globals X.env.builtins) (fun bi s4 => ∀ h', h'.Ns s4.heap.objs.size (fun y => if y = ".0" then some (.ref it) else none) → Heap.SameBut s4.heap.objs.size (s4.heap.push { cls := .type "frame", data := .dict #[] }) h' →
        Q' (.ref h'.objs.size) { s4 with
          gens := s4.gens.push (.fresh (.compStart (.GeneratorExp elt [⟨tg, iter, ifs, 0⟩] scope gpos) 0 (.ref it) .none (genEnv scope (cloFrom X.env.cells scope.names []) s4.heap.objs.size code bi X.env))),
          toks := s4.toks + 1 + 1 + 1,
          heap := h'.push { cls := .type "generator", data := .fields #[.int s4.gens.size 0, .str "<genexpr>" (s4.toks + 1), .str (X.env.qual ++ "<genexpr>") (s4.toks + 1 + 1)] } }) X.xe { s2 with heap := h3, toks := tk } := by
    intro code h3 tk more hx hsz hP3 hT3
    obtain ⟨bm, ob, e1, e2, e3, e4, e5, e6, e7, e8⟩ := TB.bm
    have I3 : Inv X pins σ (upd H2 P (.tbl (ps ++ more))) { s2 with heap := h3, toks := tk } := inv_tab (g' := s2.gens) (d' := s2.drawn) (t' := tk) I2 hP (fun b o hb e => hx b o hb e) hP3 I2.bare
    have f3 : ∀ b ∈ fp, FpOk X pins (upd H2 P (.tbl (ps ++ more))) b ∧ b < h3.objs.size := fun b hb => ⟨⟨by rw [upd_ne (nP b hb)]; exact (f2 b hb).1, (f2 b hb).2⟩, Nat.lt_of_lt_of_le (szf b hb) hsz⟩
    have st3 : tn 0 h3 := T.keep _ _ _ st2 fun b hb o e => hx b o (nP b hb) e
    obtain ⟨W, ⟨m0, w0⟩, turn⟩ := q (upd H2 P (.tbl (ps ++ more))) ⟨⟨_, upd_same, hT3⟩, fun b hb => upd_ne hb⟩
    refine wpAny_builtinsFor (m := X.mg) (by rw [I3.ok.glob]; exact I3.mod.glob.keeps I3.bk) e1 e2 (hx _ _ e4 (I2.bk _ _ e5)) e6 e7 e8 ?_
    intro h' hn' hs'
    have hsz' : h'.objs.size = h3.objs.size + 1 := by
      rw [hs'.1]
      exact Heap.size_push ..
    have kp : ∀ b o, h3.get? b = some o → (h'.push { cls := .type "generator", data := .fields #[.int s2.gens.size 0, .str "<genexpr>" (tk + 1), .str (X.env.qual ++ "<genexpr>") (tk + 1 + 1)] }).get? b = some o := fun b o e =>
      Heap.get?_push_of_some _ (hs'.extBut b o (Nat.ne_of_lt (Heap.lt_size e)) (Heap.get?_push_of_some _ e))
    have st5 := T.keep _ _ _ st3 fun b hb o e => kp b o e
    have nf : ∀ b ∈ fp, (upd H2 P (.tbl (ps ++ more))) b = none := fun b hb => (f3 b hb).1.1
    have IG := gen_start (ge := .GeneratorExp elt [⟨tg, iter, ifs, 0⟩] scope gpos) (it := it) (code := code) (tk := tk + 1 + 1 + 1)
      (gs := s2.gens.push (.fresh (.compStart (.GeneratorExp elt [⟨tg, iter, ifs, 0⟩] scope gpos) 0 (.ref it) .none (genEnv scope (cloFrom X.env.cells scope.names []) h3.objs.size code builtinsNs X.env)))) I3 hc ok hN S.nc f3
      (by show pushEnvs [_] (pushEnvs [] X.A.frames) = _; rw [I.ok.frames]; rfl) (I2.bare.push rfl) kp (hn'.keeps fun b o e => Heap.get?_push_of_some _ e) (Heap.get?_push_size h' rfl) (show h3.objs.size < h'.objs.size by omega) (fun v z => by cases z)
    refine hQ h'.objs.size _ s2.gens.size (m0 + 1) _ fp tn W _ List.mem_cons_self (fun h0 e => ?_) (fun s' H' J' => ?_) (Heap.get?_push_size h' rfl) ⟨_, _, Array.getElem?_push_size .., IG, fun s'' h1 h2 h3' => ?_⟩
    · exact ⟨_, _, _, e, rfl, rfl, rfl⟩
    · exact I3.call' (ch := fp) J'.os J'.base J'.hok J'.bare fun b hb => ⟨(f3 b hb).1.2.2.2.1, (f3 b hb).1.2.1, (f3 b hb).1.2.2.2.2.1, (f3 b hb).1.2.2.2.2.2⟩
    · refine ⟨rfl, gen_begin T (by rw [h1]; exact st5) ?_⟩
      refine gen_loop hc S.co T (fun p hp b hb z => ?_) (hg _ _ _ _ _ _ _) (ht _ _ _ _ _ _ _) (he _ _ _ _ _ _ _) turn m0 (m0 + 1) 0 s'' s'' _ (Nat.lt_succ_self _) w0 (inv_gens IG h1 h2 h3') (by rw [h1]; exact st5) nf
      rw [List.mem_singleton.mp hp] at z
      have z1 := (f3 b hb).2
      rw [← z] at z1
      have z2 : h'.objs.size < h3.objs.size := z1
      omega
  cases hf : codeAmong gpos ps.toList with
  | none =>
    refine wpAny_genexprCodeX hcode (cd.code hPs hT) (cd.tab hPs) hf fun c' h' tk hx hge hlt hco' _ htab' _ => ?_
    have tr : TriplesOk (ps ++ #[rawInt gpos.line, rawInt gpos.col, Value.ref c']).toList := by
      obtain ⟨_, _, _, _, _, _, _, _, _, _, _, _, _, _, _, _, _, _, _, z, _⟩ := hco'
      exact z
    exact cont _ h' tk _ hx (Nat.le_trans hge (Nat.le_of_lt hlt)) htab'.2 tr
  | some cv =>
    refine wpAny_genexprCode_hit hcode (cd.code hPs hT) hf ?_
    exact cont cv s2.heap s2.toks #[] (Heap.ExtBut.refl _ _) (Nat.le_refl _) (by rw [Array.append_empty]; exact hPs) (by rw [Array.append_empty]; exact hT)
theorem pe_any {p pos : Pos} (hr : Room k X.A) (hb : Gl X "any") (hm : X.mg "any" = none) (hc : X.calm = true) (hN : X.N.Nodup) (TB : TabB X.base X.mg c P) (hcode : X.env.code = .ref c) (hi : PI X tg iter wi) (ok : BlkOk X.N X.env.scope scope own) (S : GSc scope)
    (hg : ∀ (s : Shared) (H : Hp) (C : Addr) (code : Value) (it : Addr) (fp : List Addr) (pn : List (Addr × Obj)), PG (gCx X (.GeneratorExp elt [⟨tg, iter, ifs, 0⟩] scope gpos) s H (genEnv scope (cloFrom X.env.cells scope.names []) C code builtinsNs X.env) it fp pn) tg g)
    (ht : ∀ (s : Shared) (H : Hp) (C : Addr) (code : Value) (it : Addr) (fp : List Addr) (pn : List (Addr × Obj)), PTs (gCx X (.GeneratorExp elt [⟨tg, iter, ifs, 0⟩] scope gpos) s H (genEnv scope (cloFrom X.env.cells scope.names []) C code builtinsNs X.env) it fp pn) ifs tt)
    (he : ∀ (s : Shared) (H : Hp) (C : Addr) (code : Value) (it : Addr) (fp : List Addr) (pn : List (Addr × Obj)), PE (gCx X (.GeneratorExp elt [⟨tg, iter, ifs, 0⟩] scope gpos) s H (genEnv scope (cloFrom X.env.cells scope.names []) C code builtinsNs X.env) it fp pn) elt te)
    (hs : ∀ x, genFold iter X.env x = pure x := by intro _; rfl)
    (hst : starEach [.GeneratorExp elt [⟨tg, iter, ifs, 0⟩] scope gpos] X.env = (false, eval (.GeneratorExp elt [⟨tg, iter, ifs, 0⟩] scope gpos) X.env) :: starEach [] X.env := by rfl) :
    PE X (.Call (.Name "any" p) [.GeneratorExp elt [⟨tg, iter, ifs, 0⟩] scope gpos] [] pos) (tAA P true wi g tt te (own.map (·.2))) := by
  refine ⟨fun pins s σ H Q I h => wpAny_Call_Name_kw (ld_blt I hb hm boot_any (PyProof.Rows.callWith_builtin1 ?_ hst (by rfl)))⟩
  rw [hst]
  refine Calls.spliced_cons (gen_make hr hc hN TB hcode hi ok S hg ht he hs I h fun a go gn n Y fp tn W s5 h1 h2 h3 h4 SL => Calls.spliced_nil ?_)
  refine call_function_tree F.kind_any F.plain_any F.entry_any (F.args_any1 _) ?_
  unfold Builtin.«any»
  refine wpAny_bind (m := oneArg "any" _) (wpAny_pure (wpAny_bind (wpAny_pyIter_gen (h2 _ h4) (wpAny_pure ⟨plainId_quiet F.plain_any_loop _, ?_⟩))))
  exact any_loop (I.ok.hd hc) hr.depth h1 h2 (fun s' H' b J q => ⟨.bl b, H', h3 s' H' J, rfl, q⟩) n s5 SL
theorem pe_all {p pos : Pos} (hr : Room k X.A) (hb : Gl X "all") (hm : X.mg "all" = none) (hc : X.calm = true) (hN : X.N.Nodup) (TB : TabB X.base X.mg c P) (hcode : X.env.code = .ref c) (hi : PI X tg iter wi) (ok : BlkOk X.N X.env.scope scope own) (S : GSc scope)
    (hg : ∀ (s : Shared) (H : Hp) (C : Addr) (code : Value) (it : Addr) (fp : List Addr) (pn : List (Addr × Obj)), PG (gCx X (.GeneratorExp elt [⟨tg, iter, ifs, 0⟩] scope gpos) s H (genEnv scope (cloFrom X.env.cells scope.names []) C code builtinsNs X.env) it fp pn) tg g)
    (ht : ∀ (s : Shared) (H : Hp) (C : Addr) (code : Value) (it : Addr) (fp : List Addr) (pn : List (Addr × Obj)), PTs (gCx X (.GeneratorExp elt [⟨tg, iter, ifs, 0⟩] scope gpos) s H (genEnv scope (cloFrom X.env.cells scope.names []) C code builtinsNs X.env) it fp pn) ifs tt)
    (he : ∀ (s : Shared) (H : Hp) (C : Addr) (code : Value) (it : Addr) (fp : List Addr) (pn : List (Addr × Obj)), PE (gCx X (.GeneratorExp elt [⟨tg, iter, ifs, 0⟩] scope gpos) s H (genEnv scope (cloFrom X.env.cells scope.names []) C code builtinsNs X.env) it fp pn) elt te)
    (hs : ∀ x, genFold iter X.env x = pure x := by intro _; rfl)
    (hst : starEach [.GeneratorExp elt [⟨tg, iter, ifs, 0⟩] scope gpos] X.env = (false, eval (.GeneratorExp elt [⟨tg, iter, ifs, 0⟩] scope gpos) X.env) :: starEach [] X.env := by rfl) :
    PE X (.Call (.Name "all" p) [.GeneratorExp elt [⟨tg, iter, ifs, 0⟩] scope gpos] [] pos) (tAA P false wi g tt te (own.map (·.2))) := by
  refine ⟨fun pins s σ H Q I h => wpAny_Call_Name_kw (ld_blt I hb hm (show bootBuiltins "all" = some (.builtin "all") by decide +kernel) (PyProof.Rows.callWith_builtin1 ?_ hst (by rfl)))⟩
  rw [hst]
  refine Calls.spliced_cons (gen_make hr hc hN TB hcode hi ok S hg ht he hs I h fun a go gn n Y fp tn W s5 h1 h2 h3 h4 SL => Calls.spliced_nil ?_)
  refine call_function_tree F.kind_all F.plain_all F.entry_all (F.args_all1 _) ?_
  unfold Builtin.«all»
  refine wpAny_bind (m := oneArg "all" _) (wpAny_pure (wpAny_bind (wpAny_pyIter_gen (h2 _ h4) (wpAny_pure ⟨plainId_quiet F.plain_all_loop _, ?_⟩))))
  exact all_loop (I.ok.hd hc) hr.depth h1 h2 (fun s' H' b J q => ⟨.bl b, H', h3 s' H' J, rfl, q⟩) n s5 SL
end
end Gx
namespace Dr
open PySem PySem.Spec PyProof.Rows L2
/-! ### the drawing of numbers: smixed, sdraw, sopen -/
def topS (i : Nat) : Stmt := PySem.Challenge.pw_sparecut_k80_texts_written_and_read.main.body.getD i (.Pass ⟨0, 0, 0, 0⟩)
abbrev sFre : Stmt := topS 34
abbrev sDrw : Stmt := topS 35
abbrev sOpn : Stmt := topS 33
theorem scFre : FnScope ["pen", "at", "cell", "one", "two", "mixed", "other"] ["pen"] (defScope sFre) := ⟨rfl, rfl, rfl, by decide +kernel, rfl, by decide +kernel, by decide +kernel⟩
theorem scDrw : FnScope ["pen", "many", "found"] ["pen", "many"] (defScope sDrw) := ⟨rfl, rfl, rfl, by decide +kernel, rfl, by decide +kernel, by decide +kernel⟩
theorem scOpn : FnScope ["script"] ["script"] (defScope sOpn) := ⟨rfl, rfl, rfl, by decide +kernel, rfl, by decide +kernel, by decide +kernel⟩
/-- the built-ins that stand as they stood -/
structure Zp (mg : Str → Option Value) : Prop where
  z_len : mg "len" = none
  z_list : mg "list" = none
/-- what lies at f: cells (at c), a place, a rest; at most B cells were taken -/
def Feed (H : Hp) (f c : Addr) (B : Nat) : Prop := ∃ (ns : List Int) (n : Nat) (r : Int),
  H f = some (.lst [.ref c, .int n, .int r]) ∧ H c = some (.lst (ns.map V.int)) ∧ ns.length ≤ 60 ∧ n ≤ B
/-- all but f is as it was -/
def But (f : Addr) (H H' : Hp) : Prop := ∀ b, b ≠ f → H' b = H b
theorem But.refl (f : Addr) (H : Hp) : But f H H := fun _ _ => rfl
theorem But.trans {f : Addr} {H H1 H2 : Hp} (a : But f H H1) (b : But f H1 H2) : But f H H2 := fun x n => (b x n).trans (a x n)
theorem Feed.mono {H : Hp} {f c : Addr} {B B' : Nat} (h : Feed H f c B) (l : B ≤ B') : Feed H f c B' := by
  obtain ⟨ns, n, r, h1, h2, h3, h4⟩ := h
  exact ⟨ns, n, r, h1, h2, h3, Nat.le_trans h4 l⟩
theorem Feed.same {H H' : Hp} {f c : Addr} {B : Nat} (h : Feed H f c B) (s : Same H H') : Feed H' f c B := by
  obtain ⟨ns, n, r, h1, h2, h3, h4⟩ := h
  exact ⟨ns, n, r, s _ _ h1, s _ _ h2, h3, h4⟩
theorem Feed.upd {H : Hp} {f c D : Addr} {B : Nat} {o : HO} (h : Feed H f c B) (nf : D ≠ f) (nc : D ≠ c) : Feed (upd H D o) f c B := by
  obtain ⟨ns, n, r, h1, h2, h3, h4⟩ := h
  exact ⟨ns, n, r, by rw [upd_ne (Ne.symm nf)]; exact h1, by rw [upd_ne (Ne.symm nc)]; exact h2, h3, h4⟩
theorem Feed.nf {H : Hp} {f c D : Addr} {B : Nat} (h : Feed H f c B) (n : H D = none) : D ≠ f := by
  obtain ⟨_, _, _, h1, _⟩ := h
  exact Ne.symm (ne_of_none h1 n)
theorem Feed.nc {H : Hp} {f c D : Addr} {B : Nat} (h : Feed H f c B) (n : H D = none) : D ≠ c := by
  obtain ⟨_, _, _, _, h2, _⟩ := h
  exact Ne.symm (ne_of_none h2 n)
theorem feed_ne {H : Hp} {f c : Addr} {ns : List Int} {a : V} {as : List V} (h1 : H f = some (.lst (.ref c :: as))) (h2 : H c = some (.lst (ns.map V.int))) : c ≠ f := by
  intro e
  rw [e, h1] at h2
  have z := HO.lst.inj (Option.some.inj h2)
  cases ns with
  | nil => cases z
  | cons x r => cases z
section
variable {P : Program} {w : World} {K : PySem.W.Frag} {mg : Str → Option Value} {base : Heap}
/-- sopen(script) -/
def spOpn (K : PySem.W.Frag) : Sp := fun vs H Q _ => ∃ (a : Addr) (ns : List Int), vs = [.ref a] ∧ SqL K H a (ns.map V.int) ∧ ∀ (f c : Addr) (H' : Hp), H f = none → H c = none → Same H H' → Feed H' f c 0 → Q (.ref f) H'
theorem cut60 (ns : List Int) : cutV (ns.map V.int) none (some 60) = (ns.take 60).map V.int := by
  unfold cutV
  rw [HT.sIx_none, show HT.sIx (ns.map V.int).length (ns.map V.int).length (some 60) = min 60 (ns.map V.int).length from HT.sIx_nat _ _ 60]
  rw [List.drop_zero, Nat.sub_zero, List.map_take, List.length_map]
  by_cases h : ns.length ≤ 60
  · rw [Nat.min_eq_right h, List.take_of_length_le (by rw [List.length_map]; exact Nat.le_refl _), List.take_of_length_le (by rw [List.length_map]; exact h)]
  · rw [Nat.min_eq_left (by omega)]
theorem same_upd {H : Hp} {p : Addr} {o : HO} (h : H p = none) : Same H (upd H p o) := fun b x e => by
  rw [upd_ne (ne_of_none e h)]
  exact e
theorem ok_opn {f : Addr} {fd : FuncData} {k : Nat} (F : Fun K "_law_e_pen" "_law_e_pen" sOpn f fd) (ml : mg "list" = none) : FnOk P w K mg base CX0 (k + 1) f fd ["script"] (spOpn K) := by
  refine F.ok scOpn (fun vs H Q E h => ?_) (fun cdv A outer s H vs Q E hr h => ?_)
  · obtain ⟨a, ns, rfl, _⟩ := h
    rfl
  · obtain ⟨a, ns, rfl, hS, q⟩ := h
    refine ⟨_, pss_one (ps_ret (pe_lst (pa_cons (pe_callTy call_list_of (by rfl) ml (by decide +kernel) (pa_cons (pe_slice sl_list (pv 0) po_none (po_some pe_int)) pa_nil)) (pa_cons pe_int (pa_cons pe_int pa_nil))))), ?_⟩
    refine ⟨.ref a, rfl, 60, rfl, a, _, rfl, hS, fun c nc => ?_⟩
    refine ⟨c, _, rfl, .inl (.of upd_same), fun d nd => ?_⟩
    refine ⟨by show 3 ≤ sizeLine; decide, fun p np => ?_⟩
    have s1 : Same H (upd H c (.lst (cutV (ns.map V.int) none (some 60)))) := same_upd nc
    have s2 := s1.trans (same_upd (o := .lst (cutV (ns.map V.int) none (some 60))) nd)
    have s3 := s2.trans (same_upd (o := .lst [.ref d, .int 0, .int 0]) np)
    refine q p d _ (s2.free np) (s1.free nd) s3 ⟨ns.take 60, 0, 0, upd_same, ?_, ?_, Nat.le_refl _⟩
    · have ndp : d ≠ p := ne_of_none (upd_same (H := upd H c (.lst (cutV (ns.map V.int) none (some 60)))) (a := d) (o := .lst (cutV (ns.map V.int) none (some 60)))) np
      rw [upd_ne ndp, upd_same, cut60]
    · rw [List.length_take]
      omega
end
end Dr
namespace Kp
open PySem PySem.Spec PyProof.Rows L2 GxR Nw Dr
/-! ### what a call leaves as it was: all but the feed (F) and the tables of code objects -/
structure Ke (F : Addr → Prop) (H H' : Hp) : Prop where
  keep : ∀ b o, H b = some o → (∀ ps, o ≠ .tbl ps) → ¬ F b → H' b = some o
  tabs : ∀ P, TabG H P → TabG H' P
  tups : ∀ b xs, H b = some (.tup xs) → H' b = some (.tup xs)
abbrev Nof : Addr → Prop := fun _ => False
variable {F G : Addr → Prop} {H H1 H2 H' : Hp} {f c P : Addr} {B : Nat}
theorem Ke.refl (F : Addr → Prop) (H : Hp) : Ke F H H := ⟨fun _ _ h _ _ => h, fun _ h => h, fun _ _ h => h⟩
theorem Ke.trans (a : Ke F H H1) (b : Ke F H1 H2) : Ke F H H2 := ⟨fun x o h n m => b.keep x o (a.keep x o h n m) n m, fun Q h => b.tabs Q (a.tabs Q h), fun x xs h => b.tups x xs (a.tups x xs h)⟩
theorem Ke.mono (a : Ke F H H1) (h : ∀ b, F b → G b) : Ke G H H1 := ⟨fun x o e n m => a.keep x o e n fun z => m (h x z), a.tabs, a.tups⟩
theorem Ke.all (a : Ke Nof H H1) : Ke F H H1 := a.mono fun _ z => z.elim
theorem Ke.same (s : Same H H1) : Ke F H H1 := ⟨fun b o e _ _ => s b o e, fun Q ⟨ps, h, t⟩ => ⟨ps, s _ _ h, t⟩, fun b xs e => s _ _ e⟩
theorem Ke.lst {a : Addr} {xs : List V} (k : Ke F H H1) (h : H a = some (.lst xs)) (n : ¬ F a) : H1 a = some (.lst xs) := k.keep a _ h (fun ps z => by cases z) n
theorem Ke.tabbed (t : TabG H P) (x : Tabbed P H H1) : Ke F H H1 := by
  obtain ⟨ps, hP, _⟩ := t
  have nP : ∀ b o, H b = some o → (∀ qs, o ≠ .tbl qs) → b ≠ P := fun b o e n z => by
    rw [z, hP] at e
    exact n ps (Option.some.inj e).symm
  refine ⟨fun b o e n _ => (x.2 b (nP b o e n)).trans e, fun Q hQ => ?_, fun b xs e => (x.2 b (nP b _ e fun qs z => by cases z)).trans e⟩
  by_cases hq : Q = P
  · rw [hq]
    exact x.1
  · obtain ⟨qs, h1, h2⟩ := hQ
    exact ⟨qs, (x.2 Q hq).trans h1, h2⟩
theorem Ke.but (h : Feed H f c B) (b : But f H H1) : Ke (· = f) H H1 := by
  obtain ⟨ns, n, r, h1, _⟩ := h
  refine ⟨fun x o e _ m => (b x m).trans e, fun Q ⟨qs, e, t⟩ => ⟨qs, (b Q fun z => ?_).trans e, t⟩, fun x xs e => (b x fun z => ?_).trans e⟩
  · rw [z, h1] at e
    cases e
  · rw [z, h1] at e
    cases e
/-- a write to an object of ours that was new behind H -/
theorem Ke.upd {p : Addr} {o : HO} (k : Ke F H H1) (n : H p = none) : Ke F H (upd H1 p o) := by
  refine ⟨fun b x e t m => ?_, fun Q hQ => ?_, fun b xs e => ?_⟩
  · rw [upd_ne (ne_of_none e n)]
    exact k.keep b x e t m
  · obtain ⟨ps, e, t⟩ := hQ
    obtain ⟨qs, e2, t2⟩ := k.tabs Q ⟨ps, e, t⟩
    exact ⟨qs, by rw [upd_ne (ne_of_none e n)]; exact e2, t2⟩
  · rw [upd_ne (ne_of_none e n)]
    exact k.tups b xs e
theorem Ke.feed (k : Ke Nof H H1) (h : Feed H f c B) : Feed H1 f c B := by
  obtain ⟨ns, n, r, h1, h2, h3, h4⟩ := h
  exact ⟨ns, n, r, k.lst h1 (fun z => z), k.lst h2 (fun z => z), h3, h4⟩
/-- p holds nothing that H knows (but a table, perhaps) -/
def Frs (H : Hp) (p : Addr) : Prop := ∀ b o, H b = some o → (∀ ps, o ≠ .tbl ps) → b ≠ p
theorem Frs.of {p : Addr} (h : H p = none) : Frs H p := fun b o e _ => ne_of_none e h
theorem Frs.ke {p : Addr} (k : Ke (· = f) H H1) (hF : Feed H1 f c B) (h : Frs H1 p) : Frs H p := fun b o e n => by
  by_cases hb : b = f
  · obtain ⟨_, _, _, h1, _⟩ := hF
    rw [hb]
    exact h f _ h1 fun ps z => by cases z
  · exact h b o (k.keep b o e n hb) n
theorem Frs.ke0 {p : Addr} (k : Ke Nof H H1) (h : Frs H1 p) : Frs H p := fun b o e n => h b o (k.keep b o e n fun z => z) n
theorem Ke.write {p : Addr} {xs : List V} {o : HO} (k : Ke F H H1) (fr : Frs H p) (h1 : H1 p = some (.lst xs)) : Ke F H (L2.upd H1 p o) := by
  refine ⟨fun b x e t m => ?_, fun Q hQ => ?_, fun b ys e => ?_⟩
  · rw [upd_ne (fr b x e t)]
    exact k.keep b x e t m
  · obtain ⟨qs, e2, t2⟩ := k.tabs Q hQ
    have n : Q ≠ p := fun z => by
      rw [z, h1] at e2
      cases e2
    exact ⟨qs, by rw [upd_ne n]; exact e2, t2⟩
  · rw [upd_ne (fr b _ e fun ps z => by cases z)]
    exact k.tups b ys e
/-- whole numbers in a tuple, truths in a tuple -/
def TupI (H : Hp) (v : V) (ns : List Int) : Prop := ∃ a, v = .ref a ∧ H a = some (.tup (ns.map V.int))
def TupB (H : Hp) (v : V) (bs : List Bool) : Prop := ∃ a, v = .ref a ∧ H a = some (.tup (bs.map V.bl))
def LstI (H : Hp) (v : V) (ns : List Int) : Prop := ∃ a, v = .ref a ∧ H a = some (.lst (ns.map V.int))
/-- a tuple of claims -/
def Bk (H : Hp) (v : V) (css : List (List Int)) : Prop := ∃ a vs, v = .ref a ∧ H a = some (.tup vs) ∧ vs.length = css.length ∧ ∀ (i : Nat) (x : V) (cs : List Int), vs[i]? = some x → css[i]? = some cs → TupI H x cs
theorem TupI.ke {v : V} {ns : List Int} (h : TupI H v ns) (k : Ke F H H1) : TupI H1 v ns := by
  obtain ⟨a, e, h⟩ := h
  exact ⟨a, e, k.tups _ _ h⟩
theorem TupB.ke {v : V} {ns : List Bool} (h : TupB H v ns) (k : Ke F H H1) : TupB H1 v ns := by
  obtain ⟨a, e, h⟩ := h
  exact ⟨a, e, k.tups _ _ h⟩
theorem Bk.ke {v : V} {css : List (List Int)} (h : Bk H v css) (k : Ke F H H1) : Bk H1 v css := by
  obtain ⟨a, vs, e, h, l, t⟩ := h
  exact ⟨a, vs, e, k.tups _ _ h, l, fun i x cs h1 h2 => (t i x cs h1 h2).ke k⟩
/-! ### claims -/
def rising : List Int → Bool
  | a :: b :: r => decide (a < b) && rising (b :: r)
  | _ => true
structure IsCl (cs : List Int) : Prop where
  up : cs.Pairwise (· < ·)
  says : ∀ k ∈ cs, k ≠ 0 ∧ -8 ≤ k ∧ k ≤ 8
  opp : ∀ k ∈ cs, -k ∉ cs
  len : cs.length ≤ 8
theorem IsCl.nil : IsCl [] := { up := .nil, says := fun _ h => (nomatch h), opp := fun _ h => (nomatch h), len := by decide }
end Kp
namespace Dr
open PySem PySem.Spec PyProof.Rows L2 Nw Kp
theorem pick7 (n : Nat) : ∃ one : Int, 2147483500 < one ∧ one < 2147483648 ∧ atI [V.int 2147483647, V.int 2147483629, V.int 2147483587, V.int 2147483579, V.int 2147483563, V.int 2147483549, V.int 2147483543] ((n : Int) % 7) = some (.int one) := by
  have h : (n : Int) % 7 = 0 ∨ (n : Int) % 7 = 1 ∨ (n : Int) % 7 = 2 ∨ (n : Int) % 7 = 3 ∨ (n : Int) % 7 = 4 ∨ (n : Int) % 7 = 5 ∨ (n : Int) % 7 = 6 := by omega
  rcases h with h | h | h | h | h | h | h <;> rw [h] <;> exact ⟨_, by decide, by decide, rfl⟩
theorem pick5 (n : Nat) : ∃ two : Int, 2147483390 < two ∧ two < 2147483648 ∧ atI [V.int 2147483497, V.int 2147483489, V.int 2147483477, V.int 2147483423, V.int 2147483399] ((n : Int) % 5) = some (.int two) := by
  have h : (n : Int) % 5 = 0 ∨ (n : Int) % 5 = 1 ∨ (n : Int) % 5 = 2 ∨ (n : Int) % 5 = 3 ∨ (n : Int) % 5 = 4 := by omega
  rcases h with h | h | h | h | h <;> rw [h] <;> exact ⟨_, by decide, by decide, rfl⟩
section
variable {P : Program} {w : World} {K : PySem.W.Frag} {mg : Str → Option Value} {base : Heap}
/-- fresh(pen): any number -/
def spFre : Sp := fun vs H Q _ => ∃ (f c : Addr) (B : Nat), vs = [.ref f] ∧ Feed H f c B ∧ B ≤ 2 ^ 28 ∧ ∀ (r : Int) (H' : Hp), Feed H' f c (B + 1) → Ke (· = f) H H' → Q (.int r) H'
set_option exponentiation.threshold 4000 in
theorem ok_fre {f : Addr} {fd : FuncData} {k : Nat} (F : Fun K "_law_e_fresh" "_law_e_fresh" sFre f fd) (T : Zp mg) : FnOk P w K mg base CX0 (k + 1) f fd ["pen"] spFre := by
  refine F.ok scFre (fun vs H Q E h => ?_) (fun cdv A outer s H vs Q E hr h => ?_)
  · obtain ⟨f, c, B, rfl, _⟩ := h
    rfl
  · obtain ⟨f, c, B, rfl, hF, hB, q⟩ := h
    obtain ⟨ns, n, r, h1, h2, h3, h4⟩ := id hF
    have hcf : c ≠ f := feed_ne (a := .non) h1 h2
    have hS : SqL K H f [.ref c, .int n, .int r] := .of h1
    have n28 : n ≤ 268435456 := Nat.le_trans h4 hB
    refine ⟨_, (pss_cons (ps_set (i := 1) scFre.nd rfl (.inl rfl) (pe_ix ix_list (pv 0) pe_int (fun _ _ => rfl)))
      (Evl.pss_cut (ps_asg (pe_op op_add (pv 1) pe_int) (pg_sub (pv 0) pe_int set_list))
      (pss_cons (ps_set (i := 2) scFre.nd rfl (.inl rfl) pe_int)
      (Evl.pss_cut (ps_if (pt_cmpR (op_neD hr.units) (pe_ix ix_list (pv 0) pe_int (fun _ _ => rfl)) (pe_lstN pa_nil) (nomark _)) (pss_one (ps_set (i := 2) scFre.nd rfl (.inl rfl) (pe_op op_fdiv (pe_ix ix_list (pe_ix ix_list (pv 0) pe_int (fun _ _ => rfl)) (pe_op op_mod (pe_op op_mul (pv 1) pe_int) (pe_callB call_len_seq (by rfl) T.z_len (by decide +kernel) (pa_cons (pe_ix ix_list (pv 0) pe_int (fun _ _ => rfl)) pa_nil))) (fun _ _ => rfl)) (pe_op op_add pe_int (pe_op op_fdiv (pv 1) (pe_callB call_len_seq (by rfl) T.z_len (by decide +kernel) (pa_cons (pe_ix ix_list (pv 0) pe_int (fun _ _ => rfl)) pa_nil))))))) pss_nil)
      (Evl.pss_cut (ps_if (pt_cmpR op_lt (pv 1) (pe_callB call_len_seq (by rfl) T.z_len (by decide +kernel) (pa_cons (pe_ix ix_list (pv 0) pe_int (fun _ _ => rfl)) pa_nil)) (nomark _)) (pss_one (ps_set (i := 2) scFre.nd rfl (.inl rfl) (pe_ix ix_list (pe_ix ix_list (pv 0) pe_int (fun _ _ => rfl)) (pv 1) (fun _ _ => rfl)))) pss_nil)
      (pss_cons (ps_if (pt_cmpR op_ge (pv 2) (pe_op op_pow pe_int pe_int) (nomark _)) (pss_one (ps_ret (pv 2))) pss_nil)
      (Evl.pss_cut (ps_set (i := 3) scFre.nd rfl (.inl rfl) (pe_ix ix_list (pe_lstN (pa_cons pe_int (pa_cons pe_int (pa_cons pe_int (pa_cons pe_int (pa_cons pe_int (pa_cons pe_int (pa_cons pe_int pa_nil)))))))) (pe_op op_mod (pv 1) pe_int) (fun _ _ => rfl)))
      (Evl.pss_cut (ps_set (i := 4) scFre.nd rfl (.inl rfl) (pe_ix ix_list (pe_lstN (pa_cons pe_int (pa_cons pe_int (pa_cons pe_int (pa_cons pe_int (pa_cons pe_int pa_nil)))))) (pe_op op_mod (pv 1) pe_int) (fun _ _ => rfl)))
      (Evl.pss_cut (ps_set (i := 5) scFre.nd rfl (.inl rfl) (pe_op op_mod (pe_op op_pow (pe_op op_add (pe_op op_add (pe_op op_mod (pv 2) (pv 3)) (pe_op op_mul pe_int (pv 1))) pe_int) pe_int) (pv 3)))
      (Evl.pss_cut (ps_set (i := 6) scFre.nd rfl (.inl rfl) (pe_op op_mod (pe_op op_pow (pe_op op_add (pe_op op_add (pv 5) (pe_op op_mod (pv 2) (pv 4))) (pe_op op_mul (pv 1) (pv 1))) pe_int) (pv 4)))
      (pss_one (ps_ret (pe_op op_add (pe_op op_mul (pe_op op_add (pv 5) pe_int) (pv 4)) (pv 6)))))))))))))), ?_⟩
    refine ⟨.ref f, rfl, f, _, 1, _, rfl, rfl, hS, rfl, ?_⟩
    -- pen[1] = at + 1
    refine Evl.q_cut (M := fun σ' H' => σ' = [some (.ref f), some (.int n), none, none, none, none, none] ∧ H' f = some (.lst [.ref c, .int ((n + 1 : Nat) : Int), .int r]) ∧ H' c = some (.lst (ns.map V.int)) ∧ Ke (· = f) H H') ?_ ?_
    · refine ⟨_, rfl, _, _, rfl, rfl, _, rfl, f, _, 1, 1, rfl, rfl, h1, rfl, rfl, upd_same, by rw [upd_ne hcf]; exact h2, .but hF fun b nb => upd_ne nb⟩
    rintro σ' H1 ⟨rfl, f1, c1, k1⟩
    have F1 : Feed H1 f c (B + 1) := ⟨ns, n + 1, r, f1, c1, h3, by omega⟩
    have hS1 : SqL K H1 f [.ref c, .int ((n + 1 : Nat) : Int), .int r] := .of f1
    have hC1 : SqL K H1 c (ns.map V.int) := .of c1
    -- cell
    refine Evl.q_cut (M := fun σ' H' => ∃ z : Int, σ' = [some (.ref f), some (.int n), some (.int z), none, none, none, none] ∧ Same H1 H') ?_ ?_
    · refine ⟨.ref f, rfl, f, _, 0, _, rfl, rfl, hS1, rfl, Nat.zero_le _, fun p H2 np s2 hp _ => ?_⟩
      have hS2 : SqL K H2 f [.ref c, .int ((n + 1 : Nat) : Int), .int r] := .of (s2 _ _ f1)
      have hC2 : SqL K H2 c (ns.map V.int) := .of (s2 _ _ c1)
      refine ⟨_, _, .lst hC2 (dp_ints ns), .lst (.of hp) .nil, shaped_list (flat_ints _), shaped_list rfl, _, rfl, ite2 (fun e => ?_) (fun e => ?_)⟩
      · have l0 : 0 < ns.length := by
          cases ns with
          | nil => exact absurd e (by decide)
          | cons a b => exact Nat.succ_pos _
        have l1 : n * 7 % ns.length < ns.length := Nat.mod_lt _ l0
        refine ⟨.ref f, rfl, f, _, 0, _, rfl, rfl, hS2, rfl, _, rfl, _, _, rfl, rfl, .inr ⟨by decide, by decide⟩, .ref f, rfl, f, _, 0, _, rfl, rfl, hS2, rfl, c, _, rfl, .inl hC2, _, _, rfl, rfl, ?_, c, _, _, .int (ns[n * 7 % ns.length]), rfl, rfl, hC2, ?_, ?_⟩
        · show (0 : Int) < ((ns.map V.int).length : Int)
          rw [List.length_map]
          omega
        · refine at_of (j := n * 7 % ns.length) ?_ ?_
          · rw [List.length_map, Int.natCast_emod, Int.natCast_mul]
            rfl
          · rw [List.getElem?_map, List.getElem?_eq_getElem l1]
            rfl
        · refine ⟨_, rfl, .ref f, rfl, f, _, 0, _, rfl, rfl, hS2, rfl, c, _, rfl, .inl hC2, _, _, rfl, rfl, ⟨?_, ?_⟩, _, _, rfl, rfl, _, _, rfl, rfl, ⟨?_, ?_⟩, _, rfl, s2⟩
          · show (0 : Int) < ((ns.map V.int).length : Int)
            rw [List.length_map]
            omega
          · show ((ns.map V.int).length : Int) < 1073741824
            rw [List.length_map]
            omega
          · show (0 : Int) < 1 + (n : Int) / ((ns.map V.int).length : Int)
            have : (0 : Int) ≤ (n : Int) / ((ns.map V.int).length : Int) := Int.ediv_nonneg (by omega) (by omega)
            omega
          · show 1 + (n : Int) / ((ns.map V.int).length : Int) < 1073741824
            have : (n : Int) / ((ns.map V.int).length : Int) ≤ n := Int.ediv_le_self _ (by omega)
            omega
      · exact ⟨_, rfl, s2⟩
    rintro σ' H2 ⟨z, rfl, s2⟩
    have hS2 : SqL K H2 f [.ref c, .int ((n + 1 : Nat) : Int), .int r] := .of (s2 _ _ f1)
    have hC2 : SqL K H2 c (ns.map V.int) := .of (s2 _ _ c1)
    refine Evl.q_cut (M := fun σ' H' => ∃ z : Int, σ' = [some (.ref f), some (.int n), some (.int z), none, none, none, none] ∧ H' = H2) ?_ ?_
    · refine ⟨_, rfl, .ref f, rfl, f, _, 0, _, rfl, rfl, hS2, rfl, c, _, rfl, .inl hC2, _, _, rfl, rfl, _, rfl, ite2 (fun e => ?_) (fun e => ?_)⟩
      · have l1 : n < ns.length := by
          have e : (n : Int) < ((ns.map V.int).length : Int) := of_decide_eq_true e
          rw [List.length_map] at e
          omega
        refine ⟨.ref f, rfl, f, _, 0, _, rfl, rfl, hS2, rfl, _, rfl, c, _, _, .int (ns[n]), rfl, rfl, hC2, ?_, _, rfl, rfl⟩
        refine at_of (j := n) rfl ?_
        rw [List.getElem?_map, List.getElem?_eq_getElem l1]
        rfl
      · exact ⟨_, rfl, rfl⟩
    clear z
    rintro σ' H' ⟨z, rfl, rfl⟩
    have F2 := F1.same s2
    have k2 : Ke (· = f) H H' := k1.trans (.same s2)
    refine ⟨_, rfl, _, _, rfl, rfl, ⟨by decide, by decide, by decide⟩, _, _, rfl, rfl, _, rfl, ite2 (fun e => ⟨_, rfl, q z H' F2 k2⟩) (fun e => ?_)⟩
    -- one
    obtain ⟨one, o1, o2, ha⟩ := pick7 n
    refine Evl.q_cut (M := fun σ' H2 => σ' = [some (.ref f), some (.int n), some (.int z), some (.int one), none, none, none] ∧ Same H' H2) ?_ ?_
    · refine ⟨by show 7 ≤ sizeLine; decide, fun p H3 np s3 hp _ => ?_⟩
      exact ⟨_, rfl, _, _, rfl, rfl, by show (0 : Int) < 7; decide, p, _, _, .int one, rfl, rfl, .of hp, ha, rfl, s3⟩
    rintro σ' H3 ⟨rfl, s3⟩
    obtain ⟨two, t1, t2, hb⟩ := pick5 n
    refine Evl.q_cut (M := fun σ' H2 => σ' = [some (.ref f), some (.int n), some (.int z), some (.int one), some (.int two), none, none] ∧ Same H' H2) ?_ ?_
    · refine ⟨by show 5 ≤ sizeLine; decide, fun p H4 np s4 hp _ => ?_⟩
      exact ⟨_, rfl, _, _, rfl, rfl, by show (0 : Int) < 5; decide, p, _, _, .int two, rfl, rfl, .of hp, hb, rfl, s3.trans s4⟩
    rintro σ' H4 ⟨rfl, s4⟩
    have z1 : 0 ≤ z % one := Int.emod_nonneg _ (by omega)
    have z2 : z % one < one := Int.emod_lt_of_pos _ (by omega)
    have z3 : 0 ≤ z % two := Int.emod_nonneg _ (by omega)
    have z4 : z % two < two := Int.emod_lt_of_pos _ (by omega)
    refine Evl.q_cut (M := fun σ' H2 => ∃ mx : Int, σ' = [some (.ref f), some (.int n), some (.int z), some (.int one), some (.int two), some (.int mx), none] ∧ H2 = H4 ∧ 0 ≤ mx ∧ mx < one) ?_ ?_
    · refine ⟨_, rfl, _, rfl, _, _, rfl, rfl, (by show (0 : Int) < one; omega), _, rfl, _, _, rfl, rfl, .inl ⟨by decide, by decide⟩, _, _, rfl, rfl, _, _, rfl, rfl, _, _, rfl, rfl, ⟨by decide, by decide, ?_⟩, _, rfl, _, _, rfl, rfl, (by show (0 : Int) < one; omega), _, rfl, rfl, Int.emod_nonneg _ (by omega), Int.emod_lt_of_pos _ (by omega)⟩
      show (z % one + 31 * (n : Int) + 5).natAbs < 18446744073709551616
      omega
    rintro σ' H5 ⟨mx, rfl, rfl, m1, m2⟩
    refine Evl.q_cut (M := fun σ' H2 => ∃ ot : Int, σ' = [some (.ref f), some (.int n), some (.int z), some (.int one), some (.int two), some (.int mx), some (.int ot)] ∧ H2 = H5) ?_ ?_
    · refine ⟨_, rfl, _, rfl, _, rfl, _, _, rfl, rfl, (by show (0 : Int) < two; omega), _, _, rfl, rfl, _, rfl, _, rfl, _, _, rfl, rfl, .inl ⟨by omega, by omega⟩, _, _, rfl, rfl, _, _, rfl, rfl, ⟨by decide, by decide, ?_⟩, _, rfl, _, _, rfl, rfl, (by show (0 : Int) < two; omega), _, rfl, rfl⟩
      show (mx + z % two + (n : Int) * (n : Int)).natAbs < 18446744073709551616
      have : (n : Int) * (n : Int) ≤ 268435456 * 268435456 := Int.mul_le_mul (by omega) (by omega) (by omega) (by omega)
      have : 0 ≤ (n : Int) * (n : Int) := Int.mul_nonneg (by omega) (by omega)
      omega
    rintro σ' H6 ⟨ot, rfl, rfl⟩
    exact ⟨_, rfl, _, _, rfl, rfl, _, rfl, _, _, rfl, rfl, .inl ⟨by omega, by omega⟩, _, rfl, _, _, rfl, rfl, q _ _ (F2.same s4) (k2.trans (.same s4))⟩
/-- take(pen, many): any number from 0 to many - 1 -/
def spDrw : Sp := fun vs H Q _ => ∃ (f c : Addr) (m : Int) (B : Nat), vs = [.ref f, .int m] ∧ 0 < m ∧ m < 2 ^ 29 ∧ Feed H f c B ∧ B ≤ 2 ^ 28 ∧
  ∀ (d : Int) (H' : Hp), 0 ≤ d → d < m → Feed H' f c (B + 1) → Ke (· = f) H H' → Q (.int d) H'
theorem ok_drw {f fM : Addr} {fd fdM : FuncData} {k : Nat} (F : Fun K "_law_e_take" "_law_e_take" sDrw f fd) (FM : Fun K "_law_e_fresh" "_law_e_fresh" sFre fM fdM) (bM : Binds K fdM ["pen"] []) (gM : mg "_law_e_fresh" = some (.ref fM)) (T : Zp mg) :
    FnOk P w K mg base CX0 (k + 2) f fd ["pen", "many"] spDrw := by
  have GM : FnOk P w K mg base CX0 1 fM fdM ["pen"] spFre := ok_fre FM T
  refine F.ok scDrw (fun vs H Q E h => ?_) (fun cdv A outer s H vs Q E hr h => ?_)
  · obtain ⟨f, c, m, B, rfl, _⟩ := h
    rfl
  · obtain ⟨f, c, m, B, rfl, m0, m1, hF, hB, q⟩ := h
    have hr1 : Room 1 _ := hr.mono (by omega)
    obtain ⟨ns, n, r, h1, h2, h3, h4⟩ := id hF
    have hcf : c ≠ f := feed_ne (a := .non) h1 h2
    have hS : SqL K H f [.ref c, .int n, .int r] := .of h1
    refine ⟨_, (Evl.pss_cut (ps_if (pt_cmpR op_lt (pe_ix ix_list (pv 0) pe_int (fun _ _ => rfl)) (pv 1) (nomark _)) (pss_one (ps_asg (pe_call GM hr1 (by rfl) gM FM.kp bM .nil pass0 (pa_cons (pv 0) pa_nil)) (pg_sub (pv 0) pe_int set_list))) pss_nil)
      (pss_cons (ps_set (i := 2) scDrw.nd rfl (.inl rfl) (pe_op op_mod (pe_ix ix_list (pv 0) pe_int (fun _ _ => rfl)) (pv 1)))
      (pss_cons (ps_asg (pe_op op_fdiv (pe_ix ix_list (pv 0) pe_int (fun _ _ => rfl)) (pv 1)) (pg_sub (pv 0) pe_int set_list))
      (pss_one (ps_ret (pv 2)))))), ?_⟩
    refine Evl.q_cut (M := fun σ' H' => σ' = [some (.ref f), some (.int m), none] ∧ Feed H' f c (B + 1) ∧ Ke (· = f) H H') ?_ ?_
    · refine ⟨.ref f, rfl, f, _, 2, _, rfl, rfl, hS, rfl, .int m, rfl, _, _, rfl, rfl, _, rfl, ite2 (fun e => ?_) (fun e => ?_)⟩
      · refine ⟨_, rfl, f, c, B, rfl, hF, hB, fun r2 H2 F2 k2 => ?_⟩
        obtain ⟨ns2, n2, r3, e1, e2, e3, e4⟩ := id F2
        have hcf2 : c ≠ f := feed_ne (a := .non) e1 e2
        refine ⟨_, rfl, f, _, 2, 2, rfl, rfl, e1, rfl, rfl, ⟨ns2, n2, r2, upd_same, by rw [upd_ne hcf2]; exact e2, e3, e4⟩, k2.trans (.but F2 fun b nb => upd_ne nb)⟩
      · exact ⟨rfl, hF.mono (by omega), .refl _ _⟩
    rintro σ' H' ⟨rfl, F1, k1⟩
    obtain ⟨ns2, n2, r3, e1, e2, e3, e4⟩ := id F1
    have hcf2 : c ≠ f := feed_ne (a := .non) e1 e2
    have hS1 : SqL K H' f [.ref c, .int n2, .int r3] := .of e1
    refine ⟨.ref f, rfl, f, _, 2, _, rfl, rfl, hS1, rfl, .int m, rfl, _, _, rfl, rfl, m0, ?_⟩
    refine ⟨.ref f, rfl, f, _, 2, _, rfl, rfl, hS1, rfl, .int m, rfl, _, _, rfl, rfl, ⟨m0, by omega⟩, .ref f, rfl, f, _, 2, 2, rfl, rfl, e1, rfl, ?_⟩
    exact ⟨_, rfl, q (r3 % m) _ (Int.emod_nonneg _ (by omega)) (Int.emod_lt_of_pos _ m0) ⟨ns2, n2, r3 / m, upd_same, by rw [upd_ne hcf2]; exact e2, e3, e4⟩ (k1.trans (.but F1 fun b nb => upd_ne nb))⟩
end
end Dr
namespace Gd
open PySem PySem.Spec PyProof.Rows L2
/-! ### a law that shows lists (repr): run where nothing is being shown -/
/-- a promise for calls made while nothing is being shown -/
structure FnG (P : Program) (w : World) (K : PySem.W.Frag) (mg : Str → Option Value) (base : Heap) (k : Nat) (f : Addr) (fd : FuncData) (ps : List Str) (sp : Sp) : Prop where
  len : ∀ us H Q E, sp us H Q E → us.length = ps.length
  run : ∀ (A : Around) (outer : List Env) (s : Shared) (H : Hp) (args : Args) (us : List Value) (vs : List V) (Q : VK) (E : XK), A.guards = some [] → Room k A → Env0 P w K mg base A outer s H → BindsTo s fd args (ps.zip us) → Vals vs us → sp vs H Q E → codeAny (model P w) A (.call (.ref f) args) (CR CX0 outer P w H s Q E) s
section
variable {P : Program} {w : World} {K : PySem.W.Frag} {mg : Str → Option Value} {base : Heap}
theorem okG {x qual : Str} {st : Stmt} {f : Addr} {fd : FuncData} {N ps : List Str} {k : Nat} {sp : Sp} (F : Fun K x qual st f fd) (S : FnScope N ps (defScope st)) (ln : ∀ us H Q E, sp us H Q E → us.length = ps.length)
    (body : ∀ (cdv : Value) (A : Around) (outer : List Env) (s : Shared) (H : Hp) (vs : List V) (Q : VK) (E : XK), A.guards = some [] → Room k (A.deeper (envOfC qual (defScope st) s.heap.objs.size f cdv)) → sp vs H Q E →
      ∃ t, PSs (cxOf CX0 P w K mg base N qual (defScope st) f cdv A outer s H E).nox (defBody st) t ∧ t { nx := fun _ H' => Q .non H', rt := Q } (start N vs) H) : FnG P w K mg base (k + 1) f fd ps sp := by
  obtain ⟨oc, od, kV, doc, pm, an, cdv, ct, osl, rfl, lk, hcd⟩ := F.ex
  refine ⟨ln, fun A outer s H args us vs Q E gd room env bind rel ask => ?_⟩
  have inS : K.In s.heap := env.mod.kin.keeps fun b o e => (env.bs b o e).1
  have noL : s.heap.NoLimit := env.mod.nolimit.keeps fun b o e => (env.bs b o e).1
  refine codeAny_call_function room.depth (inS _ _ lk) rfl S.co S.gen rfl (PySem.W.codeRec_of inS hcd) (bind _ _ _ _ (wpAny_newFunctionEnv_cells S.kind (fun y hy => ?_) fun env' he s1 z => ?_))
  · rcases S.par y.1 (List.of_mem_zip (a := y.1) (b := y.2) hy).1 with q | q
    · exact Or.inl q
    · exact Or.inr ⟨q, PySem.W.cellsFrom_some _ _ _ (Or.inl q)⟩
  · subst he
    obtain ⟨t, h1, h2⟩ := body cdv A outer s H vs Q E gd (room.deeper _) ask
    have J := inv_start (CX := CX0) (E := E) S room.hd env (ln _ _ _ _ ask) rel z
    refine ⟨noL.keeps z.toInCall.keep, codeAny_func (wpAny_mono (h1.nox.run [] s1 _ H _ J h2) (fun fl s' r => ?_) fun _ _ r => r)⟩
    match fl, r with
    | .ret u, r =>
      obtain ⟨v, σ', H', I, rv, q⟩ := r
      exact ⟨v, H', I.os, I.bare, I.base, I.hok, rv, q⟩
    | .next, r =>
      obtain ⟨σ', H', I, q⟩ := r
      exact ⟨.non, H', I.os, I.bare, I.base, I.hok, rfl, q⟩
    | .brk, r =>
      obtain ⟨_, _, _, q⟩ := r
      exact q.elim
    | .cont, r =>
      obtain ⟨_, _, _, q⟩ := r
      exact q.elim
/-- what the abstract heap knows at the law's call: the tables T, the script at a unless K holds it -/
def at0 (K : PySem.W.Frag) (T : List Addr) (a : Addr) (o : HO) : Hp := fun b => if b ∈ T then some (.tbl #[]) else if b = a ∧ (K.lookup a).isNone = true then some o else none
theorem at0_cases {T : List Addr} {a b : Addr} {o u : HO} (h : at0 K T a o b = some u) : (b ∈ T ∧ u = .tbl #[]) ∨ (b ∉ T ∧ b = a ∧ K.lookup a = none ∧ u = o) := by
  unfold at0 at h
  by_cases h1 : b ∈ T
  · rw [if_pos h1] at h
    exact .inl ⟨h1, (Option.some.inj h).symm⟩
  · rw [if_neg h1] at h
    by_cases h2 : b = a ∧ (K.lookup a).isNone = true
    · rw [if_pos h2] at h
      exact .inr ⟨h1, h2.1, Option.isNone_iff_eq_none.mp h2.2, (Option.some.inj h).symm⟩
    · rw [if_neg h2] at h
      cases h
theorem law_at {mb : Str → Option Value} {k : Nat} {fa a : Addr} {cs : List (Addr × Addr)} {fd : FuncData} {x : Str} {sp : Sp} {s1 : Shared} {us : List Value} {ns : List Int} (inK : K.In s1.heap) (ng : s1.heap.Ns mainGlobals mg) (nb : s1.heap.Ns builtinsNs mb)
    (bb : ∀ y : Str, y ≠ "__name__" → mb y = bootBuiltins y) (lim : s1.heap.NoLimit) (gens : s1.gens = #[]) (te : ∀ p ∈ cs, s1.heap.get? p.2 = some (PySem.W.tabObj #[])) (tk : ∀ p ∈ cs, K.lookup p.2 = none) (tc : ∀ p ∈ cs, PySem.W.CodeHd s1.heap p.1 p.2)
    (bm : ∃ (bm : Addr) (ob : Obj), mg "__builtins__" = some (.ref bm) ∧ bm ≠ builtinsNs ∧ s1.heap.get? bm = some ob ∧ ob.cls = .type "module" ∧ ob.dict = some builtinsNs ∧ ob.data = .plain) (la : s1.heap.get? a = some { cls := .type "list", data := .seq us.toArray }) (iu : IntsAre us ns) (lu : ns.length ≤ sizeLine) (room : Room k callerA)
    (F : ∀ base : Heap, K.In base → base.Ns mainGlobals mg → (∀ p ∈ cs, LamX.TabB base mg p.1 p.2) → FnG P w K mg base k fa fd [x] sp) (bind : ∀ (s : Shared) (u : Value), BindsTo s fd ⟨[u], []⟩ [(x, u)])
    (ask : ∀ H : Hp, (∀ p ∈ cs, H p.2 = some (.tbl #[])) → SqL K H a (ns.map V.int) → sp [.ref a] H (fun v _ => v = .bl true) fun _ _ _ => False) :
    codeAny (model P w) callerA (.call (.ref fa) ⟨[.ref a], []⟩) (fun r s' => r = .ok (.ret (.bool true)) ∧ OldK s1.heap s'.heap ∧ s'.os = s1.os ∧ AllBare s'.gens) s1 := by
  have lv := iu.length
  let T := cs.map (·.2)
  let O : HO := .frz { cls := .type "list", data := .seq us.toArray } (.lst (ns.map V.int))
  have tT : ∀ b ∈ T, s1.heap.get? b = some (PySem.W.tabObj #[]) := fun b hb => by
    obtain ⟨p, hp, rfl⟩ := List.mem_map.mp hb
    exact te p hp
  have inT : ∀ p ∈ cs, p.2 ∈ T := fun p hp => List.mem_map.mpr ⟨p, hp, rfl⟩
  have naT : a ∉ T := fun z => by
    have q := tT a z
    rw [la] at q
    cases congrArg Obj.data (Option.some.inj q)
  -- an object that is neither a list nor an empty table is not tracked
  have un0 : ∀ {b : Addr} {o : Obj}, s1.heap.get? b = some o → (∀ v n, o.data ≠ .seq v n) → o.data ≠ .fields #[] → at0 K T a O b = none := fun {b o} e d1 d2 => by
    cases q : at0 K T a O b with
    | none => rfl
    | some u =>
      rcases at0_cases q with ⟨h1, _⟩ | ⟨_, h1, _⟩
      · rw [tT b h1] at e
        cases e
        exact absurd rfl d2
      · rw [h1, la] at e
        cases e
        exact absurd rfl (d1 _ _)
  have ns0 : ∀ {b : Addr} {m : Str → Option Value}, s1.heap.Ns b m → (hidT s1.heap (at0 K T a O)).Ns b m := fun ⟨o, es, ep, e, d, r⟩ =>
    ⟨o, es, ep, hidT_get e (un0 e (fun _ _ z => by rw [d] at z; cases z) fun z => by rw [d] at z; cases z), d, r⟩
  have in0 : K.In (hidT s1.heap (at0 K T a O)) := fun b o e => by
    refine hidT_get (inK b o e) ?_
    cases q : at0 K T a O b with
    | none => rfl
    | some u =>
      rcases at0_cases q with ⟨h1, _⟩ | ⟨_, h1, h2, _⟩
      · obtain ⟨p, hp, rfl⟩ := List.mem_map.mp h1
        rw [tk p hp] at e
        cases e
      · rw [h1, h2] at e
        cases e
  have mod0 : L2.Mod K mg (hidT s1.heap (at0 K T a O)) := ⟨in0, ns0 ng, ⟨mb, ns0 nb, bb⟩, let ⟨mc, h1, h2⟩ := lim; ⟨mc, ns0 h1, h2⟩⟩
  have tab0 : ∀ p ∈ cs, LamX.TabB (hidT s1.heap (at0 K T a O)) mg p.1 p.2 := fun p hp => by
    obtain ⟨bmA, ob, b1, b2, b3, b4, b5, b6⟩ := bm
    obtain ⟨oc, oes, oep, oe, od, _⟩ := ng
    obtain ⟨c0, v0, f0, t0, g0, u0, i0, x0, y0, e1, r1, r2, r3, rest⟩ := tc p hp
    refine ⟨⟨c0, v0, f0, t0, g0, u0, i0, x0, y0, hidT_get e1 (un0 e1 (fun _ _ z => by rw [r2] at z; cases z) fun z => ?_), r1, r2, r3, rest⟩, ⟨bmA, ob, b1, b2, fun z => ?_, fun z => ?_, hidT_get b3 (un0 b3 (fun _ _ z => by rw [b6] at z; cases z) fun z => by rw [b6] at z; cases z), b4, b5, b6⟩, fun z => ?_⟩
    · rw [r2] at z
      cases z
      simp at r3
    · rw [z, oe] at b3
      cases b3
      rw [od] at b6
      cases b6
    · rw [z, te p hp] at b3
      cases b3
      cases b6
    · rw [z, te p hp] at oe
      cases oe
      cases od
  have hok0 : HOk P w (at0 K T a O) s1.heap := fun b u q => by
    rcases at0_cases q with ⟨h1, rfl⟩ | ⟨_, rfl, _, rfl⟩
    · exact tT b h1
    · exact ⟨la, by rw [List.length_map]; exact lu, us, _, vals_ints iu, la⟩
  have sq0 : SqL K (at0 K T a O) a (ns.map V.int) := by
    cases q : K.lookup a with
    | some o =>
      have e := inK a o q
      rw [la] at e
      cases e
      exact .inr ⟨_, us.toArray, _, q, rfl, rfl, rfl, by rw [List.size_toArray, lv]; exact lu, by simpa using vals_ints iu⟩
    | none => exact .inl (.inr ⟨_, (if_neg naT).trans (if_pos ⟨rfl, by rw [q]; rfl⟩)⟩)
  have env0 : Env0 P w K mg (hidT s1.heap (at0 K T a O)) callerA [] s1 (at0 K T a O) := ⟨rfl, mod0, fun b o e => of_hidT e, Nat.le_of_eq (hidT_size _ _), trivial, fun b z => absurd (show b ∈ ([] : List Addr) from z) (by simp), hok0, .of_eq gens⟩
  refine codeAny_mono ((F _ in0 (ns0 ng) tab0).run callerA [] s1 (at0 K T a O) ⟨[.ref a], []⟩ [.ref a] [.ref a] _ _ rfl room env0 (bind s1 (.ref a)) (.cons rfl .nil) (ask _ (fun p hp => if_pos (inT p hp)) sq0)) fun r s' h => ?_
  match r, h with
  | .error e, h => exact False.elim h
  | .ok .next, h => exact False.elim h
  | .ok .brk, h => exact False.elim h
  | .ok .cont, h => exact False.elim h
  | .ok (.ret u), h =>
    obtain ⟨v, H', os, bare, un, hok', rv, q⟩ := h
    obtain rfl : v = .bl true := q
    obtain rfl : u = Value.bool true := rv
    have kept : ∀ b o, b ∉ T → s1.heap.get? b = some o → s'.heap.get? b = some o := fun b o nt e => by
      cases z : at0 K T a O b with
      | none => exact un.keep b o e z (fun y => absurd (show b ∈ ([] : List Addr) from y) (by simp)) (by simp)
      | some u =>
        rcases at0_cases z with ⟨h1, _⟩ | ⟨_, rfl, _, rfl⟩
        · exact absurd h1 nt
        · obtain ⟨e2, _⟩ := hok' b _ (un.frzs b _ _ z)
          rw [la] at e
          cases e
          exact e2
    have tabs : ∀ b ∈ T, ∃ more : Array Value, s'.heap.get? b = some (PySem.W.tabObj more) := fun b hb => by
      obtain ⟨more, z⟩ := un.tbls b #[] (if_pos hb)
      exact ⟨_, hok' b _ z⟩
    refine ⟨rfl, ⟨fun b o e => ?_, fun b o e => ?_⟩, os, bare⟩
    · by_cases hb : b ∈ T
      · obtain ⟨more, z⟩ := tabs b hb
        obtain ⟨p, hp, rfl⟩ := List.mem_map.mp hb
        have e3 := te p hp
        rw [e] at e3
        cases e3
        exact .inr (.inl ⟨((tc p hp).tab (te p hp)).isCodeTable, rfl, #[], more, rfl, by rw [Array.empty_append]; exact z⟩)
      · exact .inl (kept b o hb e)
    · by_cases hb : b ∈ T
      · obtain ⟨more, z⟩ := tabs b hb
        exact ⟨_, z⟩
      · exact ⟨o, kept b o hb e⟩
end
end Gd
namespace Gx2
open PySem PySem.Spec PyProof.Rows L2
/-! ### promises for calls made while nothing is being shown, with refusals: for defs that show lists or tuples and are called by others -/
structure FnX (P : Program) (w : World) (K : PySem.W.Frag) (mg : Str → Option Value) (base : Heap) (CX : CXT) (k : Nat) (f : Addr) (fd : FuncData) (ps : List Str) (sp : Sp) : Prop where
  len : ∀ us H Q E, sp us H Q E → us.length = ps.length
  run : ∀ (A : Around) (outer : List Env) (s : Shared) (H : Hp) (args : Args) (us : List Value) (vs : List V) (Q : VK) (E : XK), A.guards = some [] → Room k A → Env0 P w K mg base A outer s H → BindsTo s fd args (ps.zip us) → Vals vs us → sp vs H Q E → codeAny (model P w) A (.call (.ref f) args) (CR CX outer P w H s Q E) s
section
variable {P : Program} {w : World} {K : PySem.W.Frag} {mg : Str → Option Value} {base : Heap} {CX : CXT}
theorem of_ok {k : Nat} {f : Addr} {fd : FuncData} {ps : List Str} {sp : Sp} (F : FnOk P w K mg base CX k f fd ps sp) : FnX P w K mg base CX k f fd ps sp := ⟨F.len, fun A outer s H args us vs Q E _ => F.run A outer s H args us vs Q E⟩
theorem okX {x qual : Str} {st : Stmt} {f : Addr} {fd : FuncData} {N ps : List Str} {k : Nat} {sp : Sp} (F : Fun K x qual st f fd) (S : FnScope N ps (defScope st)) (ln : ∀ us H Q E, sp us H Q E → us.length = ps.length)
    (body : ∀ (cdv : Value) (A : Around) (outer : List Env) (s : Shared) (H : Hp) (vs : List V) (Q : VK) (E : XK), A.guards = some [] → Room k (A.deeper (envOfC qual (defScope st) s.heap.objs.size f cdv)) → sp vs H Q E →
      ∃ t, PSs (cxOf CX P w K mg base N qual (defScope st) f cdv A outer s H E) (defBody st) t ∧ t { nx := fun _ H' => Q .non H', rt := Q } (start N vs) H) : FnX P w K mg base CX (k + 1) f fd ps sp := by
  obtain ⟨oc, od, kV, doc, pm, an, cdv, ct, osl, rfl, lk, hcd⟩ := F.ex
  refine ⟨ln, fun A outer s H args us vs Q E gd room env bind rel ask => ?_⟩
  have inS : K.In s.heap := env.mod.kin.keeps fun b o e => (env.bs b o e).1
  have noL : s.heap.NoLimit := env.mod.nolimit.keeps fun b o e => (env.bs b o e).1
  refine codeAny_call_function room.depth (inS _ _ lk) rfl S.co S.gen rfl (PySem.W.codeRec_of inS hcd) (bind _ _ _ _ (wpAny_newFunctionEnv_cells S.kind (fun y hy => ?_) fun env' he s1 z => ?_))
  · rcases S.par y.1 (List.of_mem_zip (a := y.1) (b := y.2) hy).1 with q | q
    · exact Or.inl q
    · exact Or.inr ⟨q, PySem.W.cellsFrom_some _ _ _ (Or.inl q)⟩
  · subst he
    obtain ⟨t, h1, h2⟩ := body cdv A outer s H vs Q E gd (room.deeper _) ask
    have J := inv_start (CX := CX) (E := E) S room.hd env (ln _ _ _ _ ask) rel z
    refine ⟨noL.keeps z.toInCall.keep, codeAny_func (wpAny_mono (h1.run [] s1 _ H _ J h2) (fun fl s' r => ?_) fun _ _ r => r)⟩
    match fl, r with
    | .ret u, r =>
      obtain ⟨v, σ', H', I, rv, q⟩ := r
      exact ⟨v, H', I.os, I.bare, I.base, I.hok, rv, q⟩
    | .next, r =>
      obtain ⟨σ', H', I, q⟩ := r
      exact ⟨.non, H', I.os, I.bare, I.base, I.hok, rfl, q⟩
    | .brk, r =>
      obtain ⟨_, _, _, q⟩ := r
      exact q.elim
    | .cont, r =>
      obtain ⟨_, _, _, q⟩ := r
      exact q.elim
end
section
variable {X : Cx} {CX : CXT} {k : Nat} {f : Addr} {fd : FuncData} {ps : List Str} {sp : Sp} {dvs : List V} {ds : List Value} {E : XK}
theorem runX {pins : List (Addr × Obj)} {σ : L2.St} {H : Hp} {s : Shared} {Q : VK} {us : List Value} {vs : List V} (F : FnX X.prog X.w X.K X.mg X.base CX k f fd ps sp) (gd : X.A.guards = some []) (room : Room k X.A) (bind : Binds X.K fd ps ds) (dv : Vals dvs ds) (pass : Passes CX X E)
    (I : Inv X pins σ H s) (rel : Vals vs us) (ask : sp (vs ++ dvs) H Q E) : wpAny (model X.prog X.w) X.A (call (.ref f) us) (EP X pins σ Q) X.xe s := by
  have r2 : Vals (vs ++ dvs) (us ++ ds) := rel.append dv
  have ll : (us ++ ds).length = ps.length := r2.length.symm.trans (F.len _ _ _ _ ask)
  refine wpAny_call (codeAny_mono (F.run X.A X.stack s H ⟨us, []⟩ _ _ Q E gd room I.env0 (bind s us I.kIn ll) r2 ask) fun r s' z => ?_)
  match r, z with
  | .error e, z => exact pass pins σ H s e s' I z
  | .ok (.ret u), z => exact I.after z
  | .ok .next, z => exact z.elim
  | .ok .brk, z => exact z.elim
  | .ok .cont, z => exact z.elim
/-- f(..) where nothing is being shown -/
theorem pe_callX {x : Str} {p pos : Pos} {e : Expr} {es : List Expr} {t : TA} (F : FnX X.prog X.w X.K X.mg X.base CX k f fd ps sp) (gd : X.A.guards = some []) (room : Room k X.A) (gl : Gl X x) (at_ : X.mg x = some (.ref f)) (kp : PySem.W.keepIn X.K (.ref f) = true) (bind : Binds X.K fd ps ds) (dv : Vals dvs ds) (pass : Passes CX X E)
    (ha : PA X (e :: es) t) (hdb : (x == ("__debug__" : Str)) = false := by decide) (he : starEach (e :: es) X.env = (false, eval e X.env) :: starEach es X.env := by rfl) (hpl : (backTo pos (starEach es X.env)).any (·.1) = false := by rfl) :
    PE X (.Call (.Name x p) (e :: es) [] pos) (tCall sp dvs E t) :=
  ⟨fun pins s σ H Q I h => wpAny_Call_Name_kw (ld_glob I gl at_ (PySem.W.callWith_K (h₀ := X.base) I.ok.mod.kin kp (thn (ha.run pos pins s σ H _ I h) fun us s1 ⟨vs, H1, I1, r, q⟩ => ⟨I1.kIn, runX F gd room bind dv pass I1 r q⟩) he hpl) hdb)⟩
end
end Gx2
namespace Tw
open PySem PySem.Spec PyProof.Rows L2 GxR Nw Dr Kp
open TL (tl tl_num numL numL_digits numL_len numL_ne numL_val numL_free ext_tl len_tl)
/-! ### words, and the numbers that they tell -/
def numT (n : Int) : Str := Str.ofString (toString n)
theorem tl_cps (x : Str) : x.cps.toList = tl x := rfl
theorem dig128 : ∀ c : Fin 128, Unicode.isDigit c.val = decide (48 ≤ c.val ∧ c.val ≤ 57) := by decide +kernel
/-- what is ASCII and figures alone -/
theorem figs {f : Str} (h1 : Txt.isascii f = true) (h2 : Txt.isdigit f = true) : NumText.AllDigits (tl f) ∧ tl f ≠ [] := by
  have h1 : f.cps.all (· < 128) = true := h1
  have h2 : (decide (f.length > 0) && f.cps.all Unicode.isDigit) = true := h2
  rw [Bool.and_eq_true] at h2
  obtain ⟨h3, h4⟩ := h2
  refine ⟨fun c hc => ?_, fun z => ?_⟩
  · have hc' : c ∈ f.cps := Array.mem_toList_iff.mp hc
    have a1 : c < 128 := of_decide_eq_true (Array.all_eq_true_iff_forall_mem.mp h1 c hc')
    have a2 := Array.all_eq_true_iff_forall_mem.mp h4 c hc'
    have := dig128 ⟨c, a1⟩
    rw [this] at a2
    exact of_decide_eq_true a2
  · have h3 := of_decide_eq_true h3
    rw [len_tl, z] at h3
    exact absurd h3 (by decide)
theorem all_figs {f : Str} (h : NumText.AllDigits (tl f)) (ne : tl f ≠ []) : Txt.isascii f = true ∧ Txt.isdigit f = true := by
  have key : ∀ c ∈ f.cps, 48 ≤ c ∧ c ≤ 57 := fun c hc => h c (Array.mem_toList_iff.mpr hc)
  refine ⟨Array.all_eq_true_iff_forall_mem.mpr fun c hc => decide_eq_true (by have := key c hc; omega), ?_⟩
  show (decide (f.length > 0) && f.cps.all Unicode.isDigit) = true
  rw [Bool.and_eq_true]
  refine ⟨decide_eq_true ?_, Array.all_eq_true_iff_forall_mem.mpr fun c hc => ?_⟩
  · rw [len_tl]
    exact List.length_pos_iff.mpr ne
  · have k := key c hc
    have := dig128 ⟨c, by omega⟩
    rw [this]
    exact decide_eq_true k
theorem rp_cases (w : Str) : (∃ cs, tl w = 45 :: cs ∧ tl (Txt.removeprefix w "-") = cs) ∨ ((∀ cs, tl w ≠ 45 :: cs) ∧ Txt.removeprefix w "-" = w) := by
  have e0 : tl "-" = [45] := by decide +kernel
  have l0 : Str.length "-" = 1 := by decide +kernel
  unfold Txt.removeprefix
  rw [StrLaws.subAt_eq, l0]
  show _ ∨ _
  cases hw : tl w with
  | nil =>
    refine .inr ⟨fun cs z => (nomatch z), ?_⟩
    have e : ((w.cps.toList.drop 0).take 1 == (Str.cps "-").toList) = false := by
      rw [tl_cps, hw]
      decide +kernel
    rw [e]
    rfl
  | cons c r =>
    by_cases z : c = 45
    · subst z
      refine .inl ⟨r, rfl, ?_⟩
      have e : ((w.cps.toList.drop 0).take 1 == (Str.cps "-").toList) = true := by
        rw [tl_cps, hw]
        exact beq_iff_eq.mpr e0.symm
      have lw : w.length = r.length + 1 := by rw [len_tl, hw]; rfl
      rw [e]
      show tl (if (w.length - 1 == w.length) = true then w else Builtin.Str.strSub w 1 w.length) = r
      rw [if_neg (by rw [lw, Nat.add_sub_cancel, beq_iff_eq]; omega), TL.tl_strSub_end, hw]
      rfl
    · refine .inr ⟨fun cs z' => z (List.cons.inj z').1, ?_⟩
      have e : ((w.cps.toList.drop 0).take 1 == (Str.cps "-").toList) = false := by
        rw [tl_cps, hw]
        exact beq_eq_false_iff_ne.mpr fun y => z (List.cons.inj (y.trans e0)).1
      rw [e]
      rfl
theorem numT_tl (n : Nat) : tl (numT n) = numL n := tl_num n
theorem val3 {l : List Nat} (h : NumText.AllDigits l) (l3 : l.length ≤ 3) : NumText.digitsVal l < 1000 := by
  match l, h, l3 with
  | [], _, _ => decide
  | [a], h, _ =>
    have h1 := h a (by simp)
    show 0 * 10 + (a - 48) < 1000
    omega
  | [a, b], h, _ =>
    have h1 := h a (by simp)
    have h2 := h b (by simp)
    show (0 * 10 + (a - 48)) * 10 + (b - 48) < 1000
    omega
  | [a, b, c], h, _ =>
    have h1 := h a (by simp)
    have h2 := h b (by simp)
    have h3 := h c (by simp)
    show ((0 * 10 + (a - 48)) * 10 + (b - 48)) * 10 + (c - 48) < 1000
    omega
  | a :: b :: c :: d :: r, _, l3 =>
    simp only [List.length_cons] at l3
    omega
theorem numT_get {n : Nat} (h : n < 1000) : Txt.removeprefix (numT n) "-" = numT n ∧ Txt.isascii (numT n) = true ∧ Txt.isdigit (numT n) = true ∧ (numT n).length ≤ 3 ∧ intText? (numT n) = some (n : Int) := by
  have e := numT_tl n
  have l3 := numL_len (n := n) (k := 3) (by decide) (by omega)
  have ad := numL_digits n
  have ne := numL_ne n
  rw [← e] at l3 ad ne
  obtain ⟨a1, a2⟩ := all_figs ad ne
  refine ⟨?_, a1, a2, by rw [len_tl]; exact l3, ?_⟩
  · rcases rp_cases (numT n) with ⟨cs, z, _⟩ | ⟨_, z⟩
    · have := ad 45 (by rw [z]; exact List.mem_cons_self)
      omega
    · exact z
  · exact TL.int_num (by rw [← e]; omega)
theorem rp_len (x : Str) : (Txt.removeprefix x "-").length ≤ x.length := by
  rcases rp_cases x with ⟨cs, z, zf⟩ | ⟨_, z⟩
  · rw [len_tl, len_tl, z, zf, List.length_cons]
    omega
  · rw [z]
    exact Nat.le_refl _
set_option exponentiation.threshold 2000 in
theorem lg0 {m : Nat} (hm : m < 1000) : ((m : Int)).natAbs.log2 < 1920 := by
  rw [Int.natAbs_natCast]
  by_cases z : m = 0
  · rw [z]
    decide
  · exact (Nat.log2_lt z).mpr (Nat.lt_of_lt_of_le (show m < 2 ^ 10 by omega) (Nat.pow_le_pow_right (by decide) (by decide)))
/-! what it comes to where it is no number from 0 to 999 -/
set_option exponentiation.threshold 2000 in
theorem num_neg {x f : Str} (ef : f = Txt.removeprefix x "-") (h1 : Txt.isascii f = true) (h2 : Txt.isdigit f = true) (h3 : f.length ≤ 3) (no : ∀ n : Nat, n < 1000 → x ≠ numT n) : ∃ i : Int, intText? x = some i ∧ x.length ≤ 4 ∧ i.natAbs.log2 < 1920 ∧ (numT i = x → i < 0) ∧ -1000 < i := by
  subst ef
  obtain ⟨ad, ne⟩ := figs h1 h2
  rw [len_tl] at h3
  have lg : ∀ m : Nat, m < 1000 → m.log2 < 1920 := fun m hm => by
    by_cases z : m = 0
    · rw [z]
      decide
    · exact (Nat.log2_lt z).mpr (Nat.lt_of_lt_of_le (show m < 2 ^ 10 by omega) (Nat.pow_le_pow_right (by decide) (by decide)))
  rcases rp_cases x with ⟨cs, z, zf⟩ | ⟨_, z⟩
  · rw [zf] at ad ne h3
    have lx : x.length ≤ 4 := by
      rw [len_tl, z, List.length_cons]
      omega
    have v := val3 ad h3
    refine ⟨_, PySem.intText_neg z ad ne (by omega), lx, by rw [Int.natAbs_neg, Int.natAbs_natCast]; exact lg _ v, fun e => ?_, by omega⟩
    by_cases z0 : NumText.digitsVal cs = 0
    · rw [z0] at e
      exact absurd e.symm (no 0 (by decide))
    · omega
  · rw [z] at ad ne h3
    have v := val3 ad h3
    refine ⟨_, PySem.intText_digits ad ne (by rw [len_tl]; omega), by rw [len_tl]; omega, by rw [Int.natAbs_natCast]; exact lg _ v, fun e => absurd e.symm (no _ v), by omega⟩
structure Zn (mg : Str → Option Value) : Prop where
  z_len : mg "len" = none
  z_int : mg "int" = none
  z_str : mg "str" = none
section
variable {P : Program} {w : World} {K : PySem.W.Frag} {mg : Str → Option Value} {base : Heap}
abbrev sNon : Stmt := topS 23
theorem scNon : FnScope ["word", "figures", "number"] ["word"] (defScope sNon) := ⟨rfl, rfl, rfl, by decide +kernel, rfl, by decide +kernel, by decide +kernel⟩
def spNon : Sp := fun vs H Q _ => ∃ x : Str, vs = [.str x] ∧ x.length ≤ 100000 ∧ (∀ n : Nat, n < 1000 → x = numT n → Q (.int n) H) ∧ ((∀ n : Nat, n < 1000 → x ≠ numT n) → Q .non H ∧ ∀ i : Int, i < 0 → Q (.int i) H)
theorem ok_non {f : Addr} {fd : FuncData} {k : Nat} {tk : Tok} (F : Fun K "number_or_none" "number_or_none" sNon f fd) (T : Zn mg) (M3 : mg "MOST_FIGURES" = some (.int 3 tk)) : FnOk P w K mg base CX0 (k + 1) f fd ["word"] spNon := by
  refine F.ok scNon (fun vs H Q E h => ?_) (fun cdv A outer s H vs Q E hr h => ?_)
  · obtain ⟨x, rfl, _⟩ := h
    rfl
  · obtain ⟨x, rfl, lx, q1, q2⟩ := h
    refine ⟨_, (Evl.pss_cut (ps_set (i := 1) scNon.nd rfl (.inl rfl) (pe_m1 PySem.F.slot_str_removeprefix PySem.F.type_str_removeprefix mt_removeprefix (pv 0) pe_str))
      (Evl.pss_cut (ps_if (PW.pt (pw_or (pt_not (pt_val (pe_m0 PySem.F.slot_str_isascii PySem.F.type_str_isascii mt_isascii (pv 1)))) (pw_or (pt_not (pt_val (pe_m0 PySem.F.slot_str_isdigit PySem.F.type_str_isdigit mt_isdigit (pv 1)))) (pw_or1 (pt_cmpR op_gt (pe_callB call_len_str (by rfl) T.z_len (by decide +kernel) (pa_cons (pv 1) pa_nil)) (pe_glob (v := .int 3) rfl M3 ⟨_, rfl⟩) (nomark _)))))) (pss_one (ps_ret pe_non)) pss_nil)
      (pss_cons (ps_set (i := 2) scNon.nd rfl (.inl rfl) (pe_callTy call_int_str (by rfl) T.z_int (by decide +kernel) (pa_cons (pv 0) pa_nil)))
      (pss_one (ps_ret (pe_ifExp (pt_cmpR op_eq (pe_callTy call_str_int (by rfl) T.z_str (by decide +kernel) (pa_cons (pv 2) pa_nil)) (pv 0) (nomark _)) (pv 2) pe_non)))))), ?_⟩
    refine Evl.q_cut (M := fun σ' H' => σ' = [some (.str x), some (.str (Txt.removeprefix x "-")), none] ∧ H' = H) ?_ ?_
    · exact ⟨_, rfl, ⟨_, rfl⟩, _, _, rfl, rfl, Nat.le_trans lx (by decide), rfl, rfl⟩
    rintro σ' G ⟨rfl, rfl⟩
    by_cases c : ∃ n : Nat, n < 1000 ∧ x = numT n
    · obtain ⟨n, hn, rfl⟩ := c
      obtain ⟨e1, e2, e3, e4, e5⟩ := numT_get hn
      have q := q1 n hn rfl
      rw [e1]
      refine Evl.q_cut (M := fun σ' H' => σ' = [some (.str (numT n)), some (.str (numT n)), none] ∧ H' = G) ?_ ?_
      · refine ⟨_, rfl, ⟨_, rfl⟩, _, rfl, rfl, trivial, _, rfl, ite2 (fun e => ?_) (fun _ => ?_)⟩
        · rw [e2] at e
          cases e
        refine ⟨_, rfl, ⟨_, rfl⟩, _, rfl, rfl, trivial, _, rfl, ite2 (fun e => ?_) (fun _ => ?_)⟩
        · rw [e3] at e
          cases e
        refine ⟨_, rfl, _, rfl, Nat.le_trans e4 (by decide), _, _, rfl, rfl, _, rfl, ite2 (fun e => ?_) (fun _ => ⟨rfl, rfl⟩)⟩
        have e : (3 : Int) < ((numT n).length : Nat) := of_decide_eq_true e
        omega
      rintro σ' H' ⟨rfl, rfl⟩
      refine ⟨_, rfl, _, _, rfl, e5, Nat.le_trans e4 (by decide), ?_⟩
      refine ⟨_, rfl, (n : Int), rfl, lg0 hn, _, rfl, rfl, _, rfl, ite2 (fun e => ⟨_, rfl, q⟩) (fun e => ?_)⟩
      exact absurd (decide_eq_true rfl) e
    · have no : ∀ n : Nat, n < 1000 → x ≠ numT n := fun n hn e => c ⟨n, hn, e⟩
      obtain ⟨qn, qi⟩ := q2 no
      by_cases b1 : Txt.isascii (Txt.removeprefix x "-") = true ∧ Txt.isdigit (Txt.removeprefix x "-") = true ∧ (Txt.removeprefix x "-").length ≤ 3
      · obtain ⟨e2, e3, e4⟩ := b1
        obtain ⟨i, e5, l4, lg, ei, _⟩ := num_neg rfl e2 e3 e4 no
        refine Evl.q_cut (M := fun σ' H' => σ' = [some (.str x), some (.str (Txt.removeprefix x "-")), none] ∧ H' = G) ?_ ?_
        · refine ⟨_, rfl, ⟨_, rfl⟩, _, rfl, rfl, trivial, _, rfl, ite2 (fun e => ?_) (fun _ => ?_)⟩
          · rw [e2] at e
            cases e
          refine ⟨_, rfl, ⟨_, rfl⟩, _, rfl, rfl, trivial, _, rfl, ite2 (fun e => ?_) (fun _ => ?_)⟩
          · rw [e3] at e
            cases e
          refine ⟨_, rfl, _, rfl, Nat.le_trans e4 (by decide), _, _, rfl, rfl, _, rfl, ite2 (fun e => ?_) (fun _ => ⟨rfl, rfl⟩)⟩
          have e : (3 : Int) < ((Txt.removeprefix x "-").length : Nat) := of_decide_eq_true e
          omega
        rintro σ' H' ⟨rfl, rfl⟩
        refine ⟨_, rfl, _, _, rfl, e5, Nat.le_trans l4 (by decide), ?_⟩
        refine ⟨_, rfl, i, rfl, lg, _, rfl, rfl, _, rfl, ite2 (fun e => ⟨_, rfl, qi i (ei ?_)⟩) (fun e => qn)⟩
        have e : decide (V.str (numT i) = V.str x) = true := e
        exact V.str.inj (of_decide_eq_true e)
      · refine Evl.q_cut (M := fun _ _ => False) ?_ fun _ _ z => z.elim
        refine ⟨_, rfl, ⟨_, rfl⟩, _, rfl, rfl, trivial, _, rfl, ite2 (fun e => qn) (fun e2 => ?_)⟩
        refine ⟨_, rfl, ⟨_, rfl⟩, _, rfl, rfl, trivial, _, rfl, ite2 (fun e => qn) (fun e3 => ?_)⟩
        refine ⟨_, rfl, _, rfl, ?_, _, _, rfl, rfl, _, rfl, ite2 (fun e => qn) (fun e4 => ?_)⟩
        · exact Nat.le_trans (rp_len x) (Nat.le_trans lx (by decide))
        · exfalso
          have e2 : Txt.isascii (Txt.removeprefix x "-") = true := by
            cases z : Txt.isascii (Txt.removeprefix x "-") with
            | true => rfl
            | false => exact absurd (by rw [z]; rfl) e2
          have e3 : Txt.isdigit (Txt.removeprefix x "-") = true := by
            cases z : Txt.isdigit (Txt.removeprefix x "-") with
            | true => rfl
            | false => exact absurd (by rw [z]; rfl) e3
          have e4 : ¬ (3 : Int) < ((Txt.removeprefix x "-").length : Nat) := fun z => e4 (decide_eq_true z)
          exact b1 ⟨e2, e3, by omega⟩
end
end Tw
namespace Tw
open PySem PySem.Spec PyProof.Rows L2 GxR Nw Dr Kp Ev1
open TL (tl tl_num numL numL_inj len_tl)
/-! ### how words are read -/
inductive Rw where
  | book (n : Nat)
  | cut (i j k : Nat)
def Rw.vs : Rw → List V
  | .book n => [.str "book", .int (n : Nat)]
  | .cut i j k => [.str "cut", .int (i : Nat), .int (j : Nat), .int (k : Nat)]
/-- what is read of a row -/
inductive Pt where
  | p0 | b0 | b1 (n : Nat) | c0 | c1 (i : Nat) | c2 (i j : Nat) | c3 (i j k : Nat)
def ptOf : Rw → Pt
  | .book n => .b1 n
  | .cut i j k => .c3 i j k
inductive Step (rows : List Rw) : Pt → Str → List Rw → Pt → Prop
  | book : Step rows .p0 "book" rows .b0
  | cut (h : 0 < rows.length) : Step rows .p0 "cut" rows .c0
  | num (n : Nat) (h : n ≤ 15) : Step rows .b0 (numT n) rows (.b1 n)
  | one (n : Nat) (h : n < rows.length) : Step rows .c0 (numT n) rows (.c1 n)
  | two (i n : Nat) (h : n < rows.length) : Step rows (.c1 i) (numT n) rows (.c2 i n)
  | by (i j n : Nat) (h1 : 1 ≤ n) (h2 : n ≤ 8) : Step rows (.c2 i j) (numT n) rows (.c3 i j n)
  | stroke (r : Rw) (h : rows.length < 199) : Step rows (ptOf r) "/" (rows ++ [r]) .p0
inductive Reach (ws : List Str) : Nat → List Rw → Pt → Prop
  | zero : Reach ws 0 [] .p0
  | succ {at' : Nat} {rows rows' : List Rw} {pt pt' : Pt} {x : Str} (h : Reach ws at' rows pt) (e : ws[at']? = some x) (s : Step rows pt x rows' pt') : Reach ws (at' + 1) rows' pt'
theorem numT_inj {m n : Nat} (h : numT (m : Int) = numT (n : Int)) : m = n := numL_inj (by rw [← numT_tl, ← numT_tl, h])
theorem numT_head {n : Nat} {x : Str} (h : numT (n : Int) = x) : ∀ c ∈ tl x, 48 ≤ c ∧ c ≤ 57 := by
  subst h
  rw [numT_tl]
  exact TL.numL_digits n
theorem tl_book : tl "book" = [98, 111, 111, 107] := by decide +kernel
theorem tl_cut : tl "cut" = [99, 117, 116] := by decide +kernel
theorem tl_str : tl "/" = [47] := by decide +kernel
theorem Step.one' {rows a b : List Rw} {pt p q : Pt} {x : Str} (h : Step rows pt x a p) (g : Step rows pt x b q) : a = b ∧ p = q := by
  generalize hx : x = y at g
  generalize hp : pt = pt' at g
  cases h with
  | book =>
    cases g with
    | book => exact ⟨rfl, rfl⟩
    | cut _ => exact absurd (tl_book.symm.trans ((congrArg tl hx).trans tl_cut)) (by decide)
    | stroke r _ => cases r <;> cases hp
    | _ => cases hp
  | cut _ =>
    cases g with
    | cut _ => exact ⟨rfl, rfl⟩
    | book => exact absurd (tl_cut.symm.trans ((congrArg tl hx).trans tl_book)) (by decide)
    | stroke r _ => cases r <;> cases hp
    | _ => cases hp
  | num n _ =>
    cases g with
    | num m _ =>
      have := numT_inj hx
      subst this
      exact ⟨rfl, rfl⟩
    | stroke r _ => cases r <;> cases hp
    | _ => cases hp
  | one n _ =>
    cases g with
    | one m _ =>
      have := numT_inj hx
      subst this
      exact ⟨rfl, rfl⟩
    | stroke r _ => cases r <;> cases hp
    | _ => cases hp
  | two i n _ =>
    cases g with
    | two i' m _ =>
      have := numT_inj hx
      subst this
      cases hp
      exact ⟨rfl, rfl⟩
    | stroke r _ => cases r <;> cases hp
    | _ => cases hp
  | «by» i j n _ _ =>
    cases g with
    | «by» i' j' m _ _ =>
      have := numT_inj hx
      subst this
      cases hp
      exact ⟨rfl, rfl⟩
    | stroke r _ => cases r <;> cases hp
    | _ => cases hp
  | stroke r _ =>
    cases r with
    | book n =>
      cases g with
      | stroke r' _ =>
        cases r' with
        | book m =>
          cases hp
          exact ⟨rfl, rfl⟩
        | cut a b c => cases hp
      | _ => cases hp
    | cut a b c =>
      cases g with
      | stroke r' _ =>
        cases r' with
        | book m => cases hp
        | cut a' b' c' =>
          cases hp
          exact ⟨rfl, rfl⟩
      | _ => cases hp
theorem Reach.le {ws : List Str} {n : Nat} {rows : List Rw} {pt : Pt} (h : Reach ws n rows pt) : n ≤ ws.length := by
  cases h with
  | zero => exact Nat.zero_le _
  | succ h e s =>
    have := (List.getElem?_eq_some_iff.mp e).1
    omega
theorem Reach.one {ws : List Str} : ∀ {n : Nat} {rows rows' : List Rw} {pt pt' : Pt}, Reach ws n rows pt → Reach ws n rows' pt' → rows = rows' ∧ pt = pt'
  | 0, _, _, _, _, .zero, .zero => ⟨rfl, rfl⟩
  | n + 1, _, _, _, _, .succ h e s, .succ h' e' s' => by
    obtain ⟨rfl, rfl⟩ := Reach.one h h'
    rw [e] at e'
    cases e'
    exact s.one' s'
/-- the rows that are told -/
def Told (ws : List Str) (rows : List Rw) : Prop := ∃ (rows0 : List Rw) (r : Rw), rows = rows0 ++ [r] ∧ Reach ws ws.length rows0 (ptOf r)
/-- the place at which it is refused -/
def Bad (ws : List Str) (e : Nat) : Prop := ∃ (rows : List Rw) (pt : Pt), Reach ws e rows pt ∧ ((∃ x, ws[e]? = some x ∧ ∀ rows' pt', ¬ Step rows pt x rows' pt') ∨ (e = ws.length ∧ ∀ r, pt ≠ ptOf r))
theorem ptOf_inj {r s : Rw} (h : ptOf r = ptOf s) : r = s := by
  cases r <;> cases s <;> cases h <;> rfl
theorem Told.one {ws : List Str} {a b : List Rw} (h : Told ws a) (g : Told ws b) : a = b := by
  obtain ⟨a0, r, rfl, h⟩ := h
  obtain ⟨b0, s, rfl, g⟩ := g
  obtain ⟨rfl, e⟩ := h.one g
  rw [ptOf_inj e]
theorem Reach.back {ws : List Str} : ∀ {n : Nat} {rows : List Rw} {pt : Pt}, Reach ws n rows pt → ∀ m, m < n → ∃ rows' pt' x r2 p2, Reach ws m rows' pt' ∧ ws[m]? = some x ∧ Step rows' pt' x r2 p2
  | 0, _, _, .zero, m, h => by omega
  | n + 1, _, _, .succ h e s, m, l => by
    by_cases z : m = n
    · subst z
      exact ⟨_, _, _, _, _, h, e, s⟩
    · exact Reach.back h m (by omega)
theorem Bad.told {ws : List Str} {a : List Rw} {e : Nat} (h : Told ws a) (g : Bad ws e) : False := by
  obtain ⟨a0, r, rfl, h⟩ := h
  obtain ⟨rows, pt, g, z⟩ := g
  rcases z with ⟨x, ex, no⟩ | ⟨ee, no⟩
  · have l := (List.getElem?_eq_some_iff.mp ex).1
    obtain ⟨r1, p1, y, r2, p2, h1, h2, h3⟩ := h.back e l
    obtain ⟨rfl, rfl⟩ := g.one h1
    rw [ex] at h2
    cases h2
    exact no _ _ h3
  · subst ee
    exact no r (g.one h).2
theorem Bad.one {ws : List Str} {d e : Nat} (h : Bad ws d) (g : Bad ws e) : d = e := by
  have key : ∀ {d e : Nat}, Bad ws d → Bad ws e → ¬ d < e := fun {d e} h g l => by
    obtain ⟨rows, pt, h, z⟩ := h
    obtain ⟨rows', pt', g, _⟩ := g
    obtain ⟨r1, p1, y, r2, p2, h1, h2, h3⟩ := g.back d l
    obtain ⟨rfl, rfl⟩ := h.one h1
    rcases z with ⟨x, ex, no⟩ | ⟨ee, no⟩
    · rw [ex] at h2
      cases h2
      exact no _ _ h3
    · have := g.le
      omega
  have := key h g
  have := key g h
  omega
/-! ### the class NoText -/
theorem made_R {K : PySem.W.Frag} {C : Addr} {y : V} {H1 : Hp} {E : XK} (T : OexC K C) (nf : PySem.W.findIn K (.ref C) "at" = some none) (h : ∀ dx H2, H1 dx = none → Same H1 H2 → H2 dx = some (.xd [(("at" : Str), y)]) → E (.ref C) (some dx) H2) :
    [y].length ≤ 1000 ∧ ∀ a, H1 a = none → spInit K (.ref a :: ([y] ++ [])) (upd H1 a (exo a C none)) (fun v H2 => v = .non ∧ ∃ (d : Addr) (fs : List (Str × V)), H2 a = some (exo a C (some d)) ∧ H2 d = some (exd d fs) ∧ H1 d = none ∧
      E (.ref C) (some d) (upd (del H2 a) d (.xd fs))) (fun _ _ _ => False) := by
  refine ⟨Nat.le_of_ble_eq_true rfl, fun a na => ⟨a, C, y, rfl, T, nf, upd_same, fun dx nd ne => ?_⟩⟩
  have n1 : H1 dx = none := by
    rw [upd_ne ne] at nd
    exact nd
  refine ⟨rfl, dx, [(("at" : Str), y)], upd_same, by rw [upd_ne ne, upd_same], n1, ?_⟩
  rw [del_new na ne, upd_upd]
  exact h dx _ n1 (same_new n1) upd_same
section
variable {P : Program} {w : World} {K : PySem.W.Frag} {mg : Str → Option Value} {base : Heap}
abbrev sIn1 : Stmt := inClass (topS 10) 0
theorem scI1 : FnScope ["self", "at"] ["self", "at"] (defScope sIn1) := ⟨rfl, rfl, rfl, by decide +kernel, rfl, by decide +kernel, by decide +kernel⟩
theorem ok_in1 {f : Addr} {fd : FuncData} {k : Nat} (F : Fun K "__init__" "NoText.__init__" sIn1 f fd) : FnOk P w K mg base CX0 (k + 1) f fd ["self", "at"] (spInit K) := by
  refine F.ok scI1 (fun vs H Q E h => ?_) (fun cdv A outer s H vs Q E hr h => ⟨_, pss_one (ps_ost (pv 0) (pv 1)), ?_⟩)
  · obtain ⟨a, C, y, rfl, _⟩ := h
    rfl
  · obtain ⟨a, C, y, rfl, T, nf, ha, q⟩ := h
    exact ⟨_, rfl, _, rfl, a, C, rfl, T, nf, .inl ⟨ha, fun dx nd ne => q dx nd ne⟩⟩
/-- what is known of the class NoText -/
structure NT (P : Program) (w : World) (K : PySem.W.Frag) (mg : Str → Option Value) (base : Heap) (C f1 : Addr) (fd1 : FuncData) : Prop where
  O : OexC K C
  nf : PySem.W.findIn K (.ref C) "at" = some none
  i : PySem.W.findIn K (.ref C) "__init__" = some (some (.ref f1))
  t : PySem.W.typeIn K (.ref f1) = some (.type "function")
  b : Binds K fd1 ["self", "at"] []
  G : FnOk P w K mg base CX0 1 f1 fd1 ["self", "at"] (spInit K)
  g : mg "NoText" = some (.ref C)
/-- refused at that place -/
def Rf (E : XK) (C : Addr) (H : Hp) (e : Nat) : Prop := ∀ dx H', Same H H' → H' dx = some (.xd [(("at" : Str), .int (e : Nat))]) → E (.ref C) (some dx) H'
def WsL (H : Hp) (L : Addr) (ws : List Str) : Prop := H L = some (.lst (ws.map V.str)) ∧ ws.length ≤ 100000 ∧ ∀ x ∈ ws, x.length ≤ 100000
theorem WsL.same {H H' : Hp} {L : Addr} {ws : List Str} (h : WsL H L ws) (s : Same H H') : WsL H' L ws := ⟨s _ _ h.1, h.2⟩
abbrev sWof : Stmt := topS 21
theorem scWof : FnScope ["text"] ["text"] (defScope sWof) := ⟨rfl, rfl, rfl, by decide +kernel, rfl, by decide +kernel, by decide +kernel⟩
def spWof : Sp := fun vs H Q _ => ∃ x : Str, vs = [.str x] ∧ x.length ≤ 50000 ∧ ∀ p H', H p = none → Same H H' → H' p = some (.lst ((Txt.split x " ").map V.str)) → Q (.ref p) H'
theorem ok_wof {f : Addr} {fd : FuncData} {k : Nat} (F : Fun K "words_of" "words_of" sWof f fd) : FnOk P w K mg base CX0 (k + 1) f fd ["text"] spWof := by
  refine F.ok scWof (fun vs H Q E h => ?_) (fun cdv A outer s H vs Q E hr h => ?_)
  · obtain ⟨x, rfl, _⟩ := h
    rfl
  · obtain ⟨x, rfl, lx, q⟩ := h
    refine ⟨_, (pss_one (ps_ret (pe_split (pv 0) pe_str))), ?_⟩
    exact ⟨_, rfl, ⟨_, rfl⟩, _, _, rfl, rfl, by decide +kernel, Nat.le_trans (Nat.add_le_add_right lx 2) (by decide), fun p np => q p _ np (same_new np) upd_same⟩
abbrev sWat : Stmt := topS 22
theorem scWat : FnScope ["words", "at"] ["words", "at"] (defScope sWat) := ⟨rfl, rfl, rfl, by decide +kernel, rfl, by decide +kernel, by decide +kernel⟩
def optV : Option Str → V
  | some x => .str x
  | none => .non
def spWat : Sp := fun vs H Q _ => ∃ (L : Addr) (ws : List Str) (n : Nat), vs = [.ref L, .int n] ∧ WsL H L ws ∧ Q (optV ws[n]?) H
theorem ok_wat {f : Addr} {fd : FuncData} {k : Nat} (F : Fun K "word_at" "word_at" sWat f fd) (T : Zn mg) : FnOk P w K mg base CX0 (k + 1) f fd ["words", "at"] spWat := by
  refine F.ok scWat (fun vs H Q E h => ?_) (fun cdv A outer s H vs Q E hr h => ?_)
  · obtain ⟨L, ws, n, rfl, _⟩ := h
    rfl
  · obtain ⟨L, ws, n, rfl, ⟨hL, l1, l2⟩, q⟩ := h
    refine ⟨_, (pss_one (ps_ret (pe_ifExp (pt_cmpR op_lt (pv 1) (pe_callB call_len_seq (by rfl) T.z_len (by decide +kernel) (pa_cons (pv 0) pa_nil)) (nomark _)) (pe_ix ix_list (pv 0) (pv 1) (fun _ _ => rfl)) pe_non))), ?_⟩
    refine ⟨_, rfl, _, rfl, L, _, rfl, .inl (.of hL), _, _, rfl, rfl, _, rfl, ite2 (fun e => ?_) (fun e => ?_)⟩
    · have e : (n : Int) < ((ws.map V.str).length : Nat) := of_decide_eq_true e
      rw [List.length_map] at e
      have hx := List.getElem?_eq_getElem (show n < ws.length by omega)
      rw [hx] at q
      exact ⟨_, rfl, _, rfl, L, _, _, .str ws[n], rfl, rfl, .of hL, at_of (j := n) rfl (by rw [List.getElem?_map, hx]; rfl), q⟩
    · have e : ¬ (n : Int) < ((ws.map V.str).length : Nat) := fun z => e (decide_eq_true z)
      rw [List.length_map] at e
      rw [List.getElem?_eq_none_iff.mpr (show ws.length ≤ n by omega)] at q
      exact q
abbrev sNfr : Stmt := topS 27
theorem scNfr : FnScope ["words", "at", "least", "most", "number"] ["words", "at", "least", "most"] (defScope sNfr) := ⟨rfl, rfl, rfl, by decide +kernel, rfl, by decide +kernel, by decide +kernel⟩
def spNfr (C : Addr) : Sp := fun vs H Q E => ∃ (L : Addr) (ws : List Str) (a : Nat) (lo hi : Nat), vs = [.ref L, .int a, .int lo, .int hi] ∧ WsL H L ws ∧ a ≤ ws.length ∧ hi < 1000 ∧
  (∀ (n : Nat) H', Same H H' → lo ≤ n → n ≤ hi → ws[a]? = some (numT n) → Q (.int n) H') ∧ ((∀ n : Nat, lo ≤ n → n ≤ hi → ws[a]? ≠ some (numT n)) → Rf E C H a)
theorem ok_nfr {f fN f1 C : Addr} {fd fdN fd1 : FuncData} (F : Fun K "number_from" "number_from" sNfr f fd) (T : Zn mg) (N : NT P w K mg base C f1 fd1)
    (FN : Fun K "number_or_none" "number_or_none" sNon fN fdN) (bN : Binds K fdN ["word"] []) (gN : mg "number_or_none" = some (.ref fN)) (GN : FnOk P w K mg base CX0 1 fN fdN ["word"] spNon) :
    Gx2.FnX P w K mg base (L2.CX P w) 3 f fd ["words", "at", "least", "most"] (spNfr C) := by
  refine Gx2.okX F scNfr (fun vs H Q E h => ?_) (fun cdv A outer s H vs Q E gd0 hr h => ?_)
  · obtain ⟨L, ws, a, lo, hi, rfl, _⟩ := h
    rfl
  · obtain ⟨L, ws, a, lo, hi, rfl, ⟨hL, l1, l2⟩, la, h9, q1, q2⟩ := h
    have hr1 : Room 1 _ := hr.mono (by omega)
    have hr2 : Room 2 _ := hr.mono (by omega)
    refine ⟨_, (Evl.pss_cut (ps_if (pt_cmpR op_eq (pv 1) (pe_callB call_len_seq (by rfl) T.z_len (by decide +kernel) (pa_cons (pv 0) pa_nil)) (nomark _)) (pss_one (ps_raise rfl (takes_of rfl rfl rfl rfl) (pmk_oex N.O N.i N.t N.G hr2 N.b .nil pass0 (by rfl) N.g (pa_cons (pv 1) pa_nil)))) pss_nil)
      (Evl.pss_cut (ps_set (i := 4) scNfr.nd rfl (.inl rfl) (pe_call GN hr1 (by rfl) gN FN.kp bN .nil pass0 (pa_cons (pe_ix ix_list (pv 0) (pv 1) (fun _ _ => rfl)) pa_nil)))
      (Evl.pss_cut (ps_if (PW.pt (pw_or (pt_cmpR op_isN (pv 4) pe_non (nomark _)) (pw_or1 (pt_not (pt_chain op_le op_le (pv 2) (pv 4) (pv 3)))))) (pss_one (ps_raise rfl (takes_of rfl rfl rfl rfl) (pmk_oex N.O N.i N.t N.G hr2 N.b .nil pass0 (by rfl) N.g (pa_cons (pv 1) pa_nil)))) pss_nil)
      (pss_one (ps_ret (pv 4)))))), ?_⟩
    refine Evl.q_cut (M := fun σ' G => σ' = [some (.ref L), some (.int a), some (.int lo), some (.int hi), none] ∧ H = G ∧ a < ws.length) ?_ ?_
    · refine ⟨_, rfl, _, rfl, L, _, rfl, .inl (.of hL), rfl, _, rfl, ite2 (fun e => ?_) (fun e => ?_)⟩
      · have e : V.int (a : Nat) = V.int ((ws.map V.str).length : Nat) := of_decide_eq_true e
        have e := V.int.inj e
        rw [List.length_map] at e
        have r := q2 fun n _ _ z => by
          rw [List.getElem?_eq_none_iff.mpr (show ws.length ≤ a by omega)] at z
          cases z
        exact ⟨_, rfl, made_R N.O N.nf fun dx H2 _ s2 e2 => r dx H2 s2 e2⟩
      · have e : ¬ V.int (a : Nat) = V.int ((ws.map V.str).length : Nat) := fun z => e (decide_eq_true z)
        rw [List.length_map] at e
        refine ⟨rfl, rfl, ?_⟩
        rcases Nat.lt_or_ge a ws.length with z | z
        · exact z
        · exact absurd (by rw [show a = ws.length by omega]) e
    rintro σ' G ⟨rfl, rfl, lt⟩
    have hx := List.getElem?_eq_getElem lt
    generalize ws[a]'lt = x at hx
    have lx := l2 x (List.mem_of_getElem? hx)
    refine Evl.q_cut (M := fun σ' G => ∃ v : V, σ' = [some (.ref L), some (.int a), some (.int lo), some (.int hi), some v] ∧ H = G ∧ ((∃ n : Nat, v = .int n ∧ x = numT n) ∨ ((∀ n : Nat, n < 1000 → x ≠ numT n) ∧ (v = .non ∨ ∃ i : Int, i < 0 ∧ v = .int i)))) ?_ ?_
    · exact ⟨_, rfl, _, rfl, L, _, _, .str x, rfl, rfl, .of hL, at_of (j := a) rfl (by rw [List.getElem?_map, hx]; rfl), x, rfl, lx, fun n hn e => ⟨_, rfl, rfl, .inl ⟨n, rfl, e⟩⟩, fun no => ⟨⟨_, rfl, rfl, .inr ⟨no, .inl rfl⟩⟩, fun i hi => ⟨_, rfl, rfl, .inr ⟨no, .inr ⟨i, hi, rfl⟩⟩⟩⟩⟩
    rintro σ' G ⟨v, rfl, rfl, hv⟩
    have raise : (∀ n : Nat, lo ≤ n → n ≤ hi → ws[a]? ≠ some (numT n)) → tMkO C (spInit K) [] (tCons (tVar 1) tNil) [some (.ref L), some (.int a), some (.int lo), some (.int hi), some v] H fun cls d H' => E cls d H' := fun z =>
      ⟨_, rfl, made_R N.O N.nf fun dx H2 _ s2 e2 => q2 z dx H2 s2 e2⟩
    rcases hv with ⟨n, rfl, ex⟩ | ⟨no, hv⟩
    · subst ex
      refine Evl.q_cut (M := fun σ' G => σ' = [some (.ref L), some (.int a), some (.int lo), some (.int hi), some (.int n)] ∧ H = G ∧ lo ≤ n ∧ n ≤ hi) ?_ ?_
      · have nn : ¬ (lo ≤ n ∧ n ≤ hi) → ∀ m : Nat, lo ≤ m → m ≤ hi → ws[a]? ≠ some (numT m) := fun z m b c e => by
          rw [hx] at e
          rw [numT_inj (Option.some.inj e)] at z
          exact z ⟨b, c⟩
        refine ⟨_, rfl, rfl, _, rfl, ite2 (fun e => nomatch (of_decide_eq_true e : V.int (n : Int) = V.non)) (fun _ => ?_)⟩
        refine ⟨_, rfl, _, rfl, _, _, rfl, rfl, _, rfl, ite2 (fun e => ?_) (fun e => ?_)⟩
        · have e : (lo : Int) ≤ n := of_decide_eq_true e
          refine ⟨_, rfl, _, _, rfl, rfl, _, rfl, ite2 (fun e2 => raise (nn fun z => ?_)) (fun e2 => ⟨rfl, rfl, by omega, ?_⟩)⟩
          · rw [decide_eq_true (show (n : Int) ≤ hi by omega)] at e2
            cases e2
          · have := Classical.byContradiction fun z : ¬ n ≤ hi => e2 (by rw [decide_eq_false (show ¬ (n : Int) ≤ hi by omega)]; rfl)
            exact this
        · have e : ¬ (lo : Int) ≤ n := fun z => e (decide_eq_true z)
          exact ⟨_, rfl, ite2 (fun _ => raise (nn fun z => by omega)) (fun z => absurd rfl z)⟩
      rintro σ' G ⟨rfl, rfl, b1, b2⟩
      exact ⟨_, rfl, q1 n H (Same.refl _) b1 b2 hx⟩
    · have nn : ∀ n : Nat, lo ≤ n → n ≤ hi → ws[a]? ≠ some (numT n) := fun n _ b e => by
        rw [hx] at e
        exact no n (by omega) (Option.some.inj e)
      refine Evl.q_cut (M := fun _ _ => False) ?_ fun _ _ z => z.elim
      rcases hv with rfl | ⟨i, hi0, rfl⟩
      · exact ⟨_, rfl, rfl, _, rfl, ite2 (fun e => raise nn) (fun e => absurd rfl e)⟩
      · refine ⟨_, rfl, rfl, _, rfl, ite2 (fun e => nomatch (of_decide_eq_true e : V.int i = V.non)) (fun _ => ?_)⟩
        refine ⟨_, rfl, _, rfl, _, _, rfl, rfl, _, rfl, ite2 (fun e => ?_) (fun e => ?_)⟩
        · have e : (lo : Int) ≤ i := of_decide_eq_true e
          omega
        · exact ⟨_, rfl, ite2 (fun _ => raise nn) (fun z => absurd rfl z)⟩
abbrev sBst : Stmt := topS 25
theorem scBst : FnScope ["words", "at", "many", "most"] ["words", "at", "many", "most"] (defScope sBst) := ⟨rfl, rfl, rfl, by decide +kernel, rfl, by decide +kernel, by decide +kernel⟩
def spBst (C : Addr) : Sp := fun vs H Q E => ∃ (L : Addr) (ws : List Str) (a m mo : Nat), vs = [.ref L, .int a, .int m, .int mo] ∧ WsL H L ws ∧ (ws[a]? = some ("/" : Str) → m < mo → Q (.int ((a + 1 : Nat) : Int)) H) ∧ (¬ (ws[a]? = some ("/" : Str) ∧ m < mo) → Rf E C H a)
theorem ok_bst {f fA f1 C : Addr} {fd fdA fd1 : FuncData} {tk : Tok} (F : Fun K "behind_stroke" "behind_stroke" sBst f fd) (N : NT P w K mg base C f1 fd1) (MS : mg "STROKE" = some (.str "/" tk))
    (FA : Fun K "word_at" "word_at" sWat fA fdA) (bA : Binds K fdA ["words", "at"] []) (gA : mg "word_at" = some (.ref fA)) (GA : FnOk P w K mg base CX0 1 fA fdA ["words", "at"] spWat) :
    Gx2.FnX P w K mg base (L2.CX P w) 3 f fd ["words", "at", "many", "most"] (spBst C) := by
  refine Gx2.okX F scBst (fun vs H Q E h => ?_) (fun cdv A outer s H vs Q E gd0 hr h => ?_)
  · obtain ⟨L, ws, a, m, mo, rfl, _⟩ := h
    rfl
  · obtain ⟨L, ws, a, m, mo, rfl, hw, q1, q2⟩ := h
    have hr1 : Room 1 _ := hr.mono (by omega)
    have hr2 : Room 2 _ := hr.mono (by omega)
    refine ⟨_, (Evl.pss_cut (ps_if (PW.pt (pw_or (pt_cmpR op_ne (pe_call GA hr1 (by rfl) gA FA.kp bA .nil pass0 (pa_cons (pv 0) (pa_cons (pv 1) pa_nil))) (pe_glob (v := .str "/") rfl MS ⟨_, rfl⟩) (nomark _)) (pw_or1 (pt_cmpR op_ge (pv 2) (pv 3) (nomark _))))) (pss_one (ps_raise rfl (takes_of rfl rfl rfl rfl) (pmk_oex N.O N.i N.t N.G hr2 N.b .nil pass0 (by rfl) N.g (pa_cons (pv 1) pa_nil)))) pss_nil)
      (pss_one (ps_ret (pe_op op_add (pv 1) pe_int)))), ?_⟩
    have raise : ¬ (ws[a]? = some ("/" : Str) ∧ m < mo) → tMkO C (spInit K) [] (tCons (tVar 1) tNil) [some (.ref L), some (.int a), some (.int m), some (.int mo)] H fun cls d H' => E cls d H' := fun z =>
      ⟨_, rfl, made_R N.O N.nf fun dx H2 _ s2 e2 => q2 z dx H2 s2 e2⟩
    refine Evl.q_cut (M := fun σ' G => σ' = [some (.ref L), some (.int a), some (.int m), some (.int mo)] ∧ H = G ∧ ws[a]? = some ("/" : Str) ∧ m < mo) ?_ ?_
    · refine ⟨_, rfl, _, rfl, L, ws, a, rfl, hw, ?_⟩
      cases hx : ws[a]? with
      | none => exact ⟨rfl, _, rfl, ite2 (fun _ => raise fun z => by rw [hx] at z; cases z.1) (fun e => absurd rfl e)⟩
      | some x =>
        refine ⟨rfl, _, rfl, ite2 (fun e => raise fun z => ?_) (fun e => ?_)⟩
        · rw [hx] at z
          rw [Option.some.inj z.1] at e
          exact absurd (show optV (some (Str.ofString "/")) = V.str (Str.ofString "/") from rfl) (by simpa using e)
        · have ex : x = ("/" : Str) := by
            refine Classical.byContradiction fun z => e ?_
            show (!decide (V.str x = V.str "/")) = true
            rw [decide_eq_false fun y => z (V.str.inj y)]
            rfl
          subst ex
          refine ⟨_, rfl, _, rfl, _, _, rfl, rfl, _, rfl, ite2 (fun e => raise fun z => ?_) (fun e => ⟨rfl, rfl, rfl, ?_⟩)⟩
          · have e : (mo : Int) ≤ m := of_decide_eq_true e
            omega
          · have e : ¬ (mo : Int) ≤ m := fun z => e (decide_eq_true z)
            omega
    rintro σ' G ⟨rfl, rfl, e1, e2⟩
    exact ⟨_, rfl, _, _, rfl, rfl, q1 e1 e2⟩
theorem step_p0 {rows a : List Rw} {x : Str} {p : Pt} (h : Step rows .p0 x a p) : x = "book" ∨ (x = "cut" ∧ 0 < rows.length) := by
  generalize hp : Pt.p0 = q at h
  cases h with
  | book => exact .inl rfl
  | cut h => exact .inr ⟨rfl, h⟩
  | stroke r _ => cases r <;> cases hp
  | _ => cases hp
theorem step_b0 {rows a : List Rw} {x : Str} {p : Pt} (h : Step rows .b0 x a p) : ∃ n : Nat, n ≤ 15 ∧ x = numT n := by
  generalize hp : Pt.b0 = q at h
  cases h with
  | num n h => exact ⟨n, h, rfl⟩
  | stroke r _ => cases r <;> cases hp
  | _ => cases hp
theorem step_c0 {rows a : List Rw} {x : Str} {p : Pt} (h : Step rows .c0 x a p) : ∃ n : Nat, n < rows.length ∧ x = numT n := by
  generalize hp : Pt.c0 = q at h
  cases h with
  | one n h => exact ⟨n, h, rfl⟩
  | stroke r _ => cases r <;> cases hp
  | _ => cases hp
theorem step_c1 {rows a : List Rw} {x : Str} {p : Pt} {i : Nat} (h : Step rows (.c1 i) x a p) : ∃ n : Nat, n < rows.length ∧ x = numT n := by
  generalize hp : Pt.c1 i = q at h
  cases h with
  | two i' n h => exact ⟨n, h, rfl⟩
  | stroke r _ => cases r <;> cases hp
  | _ => cases hp
theorem step_c2 {rows a : List Rw} {x : Str} {p : Pt} {i j : Nat} (h : Step rows (.c2 i j) x a p) : ∃ n : Nat, 1 ≤ n ∧ n ≤ 8 ∧ x = numT n := by
  generalize hp : Pt.c2 i j = q at h
  cases h with
  | «by» i' j' n h1 h2 => exact ⟨n, h1, h2, rfl⟩
  | stroke r _ => cases r <;> cases hp
  | _ => cases hp
theorem step_r {rows a : List Rw} {x : Str} {p : Pt} {r : Rw} (h : Step rows (ptOf r) x a p) : x = "/" ∧ rows.length < 199 := by
  generalize hp : ptOf r = q at h
  cases h with
  | stroke r' h => exact ⟨rfl, h⟩
  | _ => cases r <;> cases hp
theorem bad_at {ws : List Str} {n : Nat} {rows : List Rw} {pt : Pt} (h : Reach ws n rows pt) (no : ∀ x, ws[n]? = some x → ∀ rows' pt', ¬ Step rows pt x rows' pt') (np : ∀ r, pt ≠ ptOf r) : Bad ws n := by
  refine ⟨rows, pt, h, ?_⟩
  cases hx : ws[n]? with
  | none =>
    have := List.getElem?_eq_none_iff.mp hx
    have := h.le
    exact .inr ⟨by omega, np⟩
  | some x => exact .inl ⟨x, rfl, no x hx⟩
theorem eq_w {o : Option Str} {x : Str} : (decide (optV o = V.str x) = true) ↔ o = some x := by
  cases o with
  | none => exact ⟨fun e => (nomatch (of_decide_eq_true e : V.non = V.str x)), fun e => (nomatch e)⟩
  | some y => exact ⟨fun e => by rw [V.str.inj (of_decide_eq_true e : V.str y = V.str x)], fun e => by rw [Option.some.inj e]; exact decide_eq_true rfl⟩
theorem scal_w {o : Option Str} {x : Str} : scal (optV o) (V.str x) = true := by cases o <;> rfl
abbrev sRfr : Stmt := topS 28
theorem scRfr : FnScope ["words", "at", "ahead", "word", "one", "other"] ["words", "at", "ahead"] (defScope sRfr) := ⟨rfl, rfl, rfl, by decide +kernel, rfl, by decide +kernel, by decide +kernel⟩
def spRfr (C : Addr) : Sp := fun vs H Q E => ∃ (L : Addr) (ws : List Str) (a : Nat) (rows : List Rw), vs = [.ref L, .int a, .int (rows.length : Nat)] ∧ WsL H L ws ∧ rows.length ≤ 200 ∧ Reach ws a rows .p0 ∧
  (∀ (r : Rw) (p t : Addr) (b : Nat) H', Same H H' → a < b → Reach ws b rows (ptOf r) → H' t = some (.tup [.ref p, .int b]) → H' p = some (.tup r.vs) → Q (.ref t) H') ∧ ∀ e H', Same H H' → Bad ws e → Rf E C H' e
theorem ok_rfr {f fA fF f1 C : Addr} {fd fdA fdF fd1 : FuncData} {tk tk' : Tok} (F : Fun K "row_from" "row_from" sRfr f fd) (N : NT P w K mg base C f1 fd1) (M16 : mg "MOST_CLAIMS" = some (.int 16 tk)) (M8 : mg "MOST_THINGS" = some (.int 8 tk'))
    (FA : Fun K "word_at" "word_at" sWat fA fdA) (bA : Binds K fdA ["words", "at"] []) (gA : mg "word_at" = some (.ref fA)) (GA : FnOk P w K mg base CX0 1 fA fdA ["words", "at"] spWat)
    (FF : Fun K "number_from" "number_from" sNfr fF fdF) (bF : Binds K fdF ["words", "at", "least", "most"] []) (gF : mg "number_from" = some (.ref fF)) (GF : Gx2.FnX P w K mg base (L2.CX P w) 3 fF fdF ["words", "at", "least", "most"] (spNfr C)) :
    Gx2.FnX P w K mg base (L2.CX P w) 4 f fd ["words", "at", "ahead"] (spRfr C) := by
  refine Gx2.okX F scRfr (fun vs H Q E h => ?_) (fun cdv A outer s H vs Q E gd0 hr h => ?_)
  · obtain ⟨L, ws, a, rows, rfl, _⟩ := h
    rfl
  · obtain ⟨L, ws, a, rows, rfl, hw, l200, R, q1, q2⟩ := h
    have gd : (A.deeper (envOfC "row_from" (defScope sRfr) s.heap.objs.size f cdv)).guards = some [] := gd0
    have hr1 : Room 1 _ := hr.mono (by omega)
    have hr2 : Room 2 _ := hr.mono (by omega)
    have hr3 : Room 3 _ := hr.mono (by omega)
    refine ⟨_, (Evl.pss_cut (ps_set (i := 3) scRfr.nd rfl (.inl rfl) (pe_call GA hr1 (by rfl) gA FA.kp bA .nil pass0 (pa_cons (pv 0) (pa_cons (pv 1) pa_nil))))
      (Evl.pss_cut (ps_if (pt_cmpR op_eq (pv 3) pe_str (nomark _)) (pss_one (ps_ret (pe_tupN (pa_cons (pe_tupN (pa_cons pe_str (pa_cons (Gx2.pe_callX GF gd hr3 (by rfl) gF FF.kp bF .nil (passes_call (takes_of rfl rfl rfl rfl) (fun _ _ _ _ h => h)) (pa_cons (pv 0) (pa_cons (pe_op op_add (pv 1) pe_int) (pa_cons pe_int (pa_cons (pe_op op_sub (pe_glob (v := .int 16) rfl M16 ⟨_, rfl⟩) pe_int) pa_nil))))) pa_nil))) (pa_cons (pe_op op_add (pv 1) pe_int) pa_nil))))) pss_nil)
      (Evl.pss_cut (ps_if (PW.pt (pw_and (pt_cmpR op_eq (pv 3) pe_str (nomark _)) (pw_and1 (pt_cmpR op_gt (pv 2) pe_int (nomark _))))) (pss_cons (ps_set (i := 4) scRfr.nd rfl (.inl rfl) (Gx2.pe_callX GF gd hr3 (by rfl) gF FF.kp bF .nil (passes_call (takes_of rfl rfl rfl rfl) (fun _ _ _ _ h => h)) (pa_cons (pv 0) (pa_cons (pe_op op_add (pv 1) pe_int) (pa_cons pe_int (pa_cons (pe_op op_sub (pv 2) pe_int) pa_nil))))))
      (pss_cons (ps_set (i := 5) scRfr.nd rfl (.inl rfl) (Gx2.pe_callX GF gd hr3 (by rfl) gF FF.kp bF .nil (passes_call (takes_of rfl rfl rfl rfl) (fun _ _ _ _ h => h)) (pa_cons (pv 0) (pa_cons (pe_op op_add (pv 1) pe_int) (pa_cons pe_int (pa_cons (pe_op op_sub (pv 2) pe_int) pa_nil))))))
      (pss_one (ps_ret (pe_tupN (pa_cons (pe_tupN (pa_cons pe_str (pa_cons (pv 4) (pa_cons (pv 5) (pa_cons (Gx2.pe_callX GF gd hr3 (by rfl) gF FF.kp bF .nil (passes_call (takes_of rfl rfl rfl rfl) (fun _ _ _ _ h => h)) (pa_cons (pv 0) (pa_cons (pe_op op_add (pv 1) pe_int) (pa_cons pe_int (pa_cons (pe_glob (v := .int 8) rfl M8 ⟨_, rfl⟩) pa_nil))))) pa_nil))))) (pa_cons (pe_op op_add (pv 1) pe_int) pa_nil))))))) pss_nil)
      (pss_one (ps_raise rfl (takes_of rfl rfl rfl rfl) (pmk_oex N.O N.i N.t N.G hr2 N.b .nil pass0 (by rfl) N.g (pa_cons (pv 1) pa_nil))))))), ?_⟩
    refine Evl.q_cut (M := fun σ' G => σ' = [some (.ref L), some (.int a), some (.int (rows.length : Nat)), some (optV ws[a]?), none, none] ∧ H = G) ?_ ?_
    · exact ⟨_, rfl, _, rfl, L, ws, a, rfl, hw, rfl, rfl⟩
    rintro σ' G ⟨rfl, rfl⟩
    -- a claim of the book
    refine Evl.q_cut (M := fun σ' G => σ' = [some (.ref L), some (.int a), some (.int (rows.length : Nat)), some (optV ws[a]?), none, none] ∧ H = G ∧ ws[a]? ≠ some ("book" : Str)) ?_ ?_
    · refine ⟨_, rfl, scal_w, _, rfl, ite2 (fun e => ?_) (fun e => ⟨rfl, rfl, fun z => e (eq_w.mpr z)⟩)⟩
      have R1 := R.succ (eq_w.mp e) .book
      refine ⟨_, rfl, _, rfl, _, _, rfl, rfl, _, _, rfl, rfl, L, ws, a + 1, 0, 15, rfl, hw, R1.le, by decide, fun n H1 s1 _ n15 hn => ?_, fun no => ?_⟩
      · refine ⟨by show 2 ≤ sizeLine; decide, fun p H2 np s2 hp _ => ⟨_, rfl, _, _, rfl, rfl, by show 2 ≤ sizeLine; decide, fun t H3 nt s3 ht _ => ?_⟩⟩
        exact q1 (.book n) p t (a + 2) H3 (s1.trans (s2.trans s3)) (by omega) (R1.succ hn (.num n n15)) ht (s3 _ _ hp)
      · refine q2 (a + 1) H (Same.refl _) (bad_at R1 (fun x hx r p st => ?_) fun r z => by cases r <;> cases z)
        obtain ⟨n, n15, rfl⟩ := step_b0 st
        exact no n (Nat.zero_le _) n15 hx
    rintro σ' G ⟨rfl, rfl, nb⟩
    -- a cut
    refine Evl.q_cut (M := fun σ' G => σ' = [some (.ref L), some (.int a), some (.int (rows.length : Nat)), some (optV ws[a]?), none, none] ∧ H = G ∧ ¬ (ws[a]? = some ("cut" : Str) ∧ 0 < rows.length)) ?_ ?_
    · refine ⟨_, rfl, scal_w, _, rfl, ite2 (fun e => ?_) (fun e => ⟨rfl, rfl, fun z => e (eq_w.mpr z.1)⟩)⟩
      refine ⟨_, rfl, _, _, rfl, rfl, _, rfl, ite2 (fun e2 => ?_) (fun e2 => ⟨rfl, rfl, fun z => e2 (decide_eq_true (by have := z.2; omega))⟩)⟩
      have e2 : ((rows.length : Nat) : Int) > 0 := of_decide_eq_true e2
      have l0 : 0 < rows.length := by omega
      have R1 := R.succ (eq_w.mp e) (.cut l0)
      have ea : ((rows.length : Nat) : Int) - 1 = ((rows.length - 1 : Nat) : Int) := by omega
      refine ⟨_, rfl, _, rfl, _, _, rfl, rfl, _, rfl, _, _, rfl, rfl, L, ws, a + 1, 0, rows.length - 1, ?_, hw, R1.le, by omega, fun i H1 s1 _ li hi => ?_, fun no => ?_⟩
      · show [V.ref L, V.int ((a : Int) + 1), V.int 0, V.int (((rows.length : Nat) : Int) - 1)] = _
        rw [ea]
        rfl
      · have R2 := R1.succ hi (.one i (by omega))
        refine ⟨_, rfl, _, rfl, _, _, rfl, rfl, _, rfl, _, _, rfl, rfl, L, ws, a + 2, 0, rows.length - 1, ?_, hw.same s1, R2.le, by omega, fun j H2 s2 _ lj hj => ?_, fun no => ?_⟩
        · show [V.ref L, V.int ((a : Int) + 2), V.int 0, V.int (((rows.length : Nat) : Int) - 1)] = _
          rw [ea]
          rfl
        · have R3 := R2.succ hj (.two i j (by omega))
          refine ⟨_, rfl, _, rfl, _, rfl, _, rfl, _, _, rfl, rfl, L, ws, a + 3, 1, 8, rfl, (hw.same s1).same s2, R3.le, by decide, fun k H3 s3 k1 k8 hk => ?_, fun no => ?_⟩
          · refine ⟨by show 4 ≤ sizeLine; decide, fun p H4 np s4 hp _ => ⟨_, rfl, _, _, rfl, rfl, by show 2 ≤ sizeLine; decide, fun t H5 nt s5 ht _ => ?_⟩⟩
            exact q1 (.cut i j k) p t (a + 4) H5 (s1.trans (s2.trans (s3.trans (s4.trans s5)))) (by omega) (R3.succ hk (.by i j k k1 k8)) ht (s5 _ _ hp)
          · refine q2 (a + 3) H2 (s1.trans s2) (bad_at R3 (fun x hx r p st => ?_) fun r z => by cases r <;> cases z)
            obtain ⟨n, n1, n8, rfl⟩ := step_c2 st
            exact no n n1 n8 hx
        · refine q2 (a + 2) H1 s1 (bad_at R2 (fun x hx r p st => ?_) fun r z => by cases r <;> cases z)
          obtain ⟨n, ln, rfl⟩ := step_c1 st
          exact no n (Nat.zero_le _) (by omega) hx
      · refine q2 (a + 1) H (Same.refl _) (bad_at R1 (fun x hx r p st => ?_) fun r z => by cases r <;> cases z)
        obtain ⟨n, ln, rfl⟩ := step_c0 st
        exact no n (Nat.zero_le _) (by omega) hx
    rintro σ' G ⟨rfl, rfl, nc⟩
    have bad := q2 a H (Same.refl _) (bad_at R (fun x hx r p st => by
      rcases step_p0 st with z | ⟨z, l⟩
      · exact nb (by rw [hx, z])
      · exact nc ⟨by rw [hx, z], l⟩) fun r z => by cases r <;> cases z)
    exact ⟨_, rfl, made_R N.O N.nf fun dx H2 _ s2 e2 => bad dx H2 s2 e2⟩
def mA (n : Nat) : List (Option V) → Nat
  | _ :: some (.int i) :: _ => n - i.toNat
  | _ => 0
abbrev sLfr : Stmt := topS 29
theorem scLfr : FnScope ["words", "at", "row", "rows"] ["words", "at"] (defScope sLfr) := ⟨rfl, rfl, rfl, by decide +kernel, rfl, by decide +kernel, by decide +kernel⟩
def RowAt (H : Hp) (v : V) (r : Rw) : Prop := ∃ p, v = .ref p ∧ H p = some (.tup r.vs)
theorem RowAt.same {H H' : Hp} {v : V} {r : Rw} (h : RowAt H v r) (s : Same H H') : RowAt H' v r := by
  obtain ⟨p, e, h⟩ := h
  exact ⟨p, e, s _ _ h⟩
theorem RowAt.wr {H : Hp} {D : Addr} {ys : List V} {o : HO} {v : V} {r : Rw} (h : RowAt H v r) (hD : H D = some (.lst ys)) : RowAt (upd H D o) v r := by
  obtain ⟨p, e, h⟩ := h
  exact ⟨p, e, by rw [upd_ne (fun z => by rw [z, hD] at h; cases h)]; exact h⟩
/-- items told one by one -/
def All2 {α β : Type} (R : α → β → Prop) (xs : List α) (ys : List β) : Prop := xs.length = ys.length ∧ ∀ (i : Nat) (x : α) (y : β), xs[i]? = some x → ys[i]? = some y → R x y
theorem All2.imp {α β : Type} {R S : α → β → Prop} {xs : List α} {ys : List β} (h : All2 R xs ys) (f : ∀ x y, R x y → S x y) : All2 S xs ys := ⟨h.1, fun i x y h1 h2 => f x y (h.2 i x y h1 h2)⟩
theorem All2.nil {α β : Type} {R : α → β → Prop} : All2 R ([] : List α) ([] : List β) := ⟨rfl, fun i x y h => by cases h⟩
theorem All2.snoc {α β : Type} {R : α → β → Prop} {xs : List α} {ys : List β} {x : α} {y : β} (h : All2 R xs ys) (r : R x y) : All2 R (xs ++ [x]) (ys ++ [y]) := by
  refine ⟨by rw [List.length_append, List.length_append, h.1]; rfl, fun i x' y' h1 h2 => ?_⟩
  by_cases hi : i < xs.length
  · rw [List.getElem?_append_left hi] at h1
    rw [List.getElem?_append_left (by rw [← h.1]; exact hi)] at h2
    exact h.2 i x' y' h1 h2
  · have e : i = xs.length := by
      have := (List.getElem?_eq_some_iff.mp h1).1
      rw [List.length_append, List.length_singleton] at this
      omega
    subst e
    rw [List.getElem?_append_right (Nat.le_refl _), Nat.sub_self] at h1
    rw [List.getElem?_append_right (by rw [h.1]; exact Nat.le_refl _), show xs.length - ys.length = 0 by rw [h.1]; exact Nat.sub_self _] at h2
    cases h1
    cases h2
    exact r
theorem All2.cat {α β : Type} {R : α → β → Prop} {xs us : List α} {ys ws : List β} (h : All2 R xs ys) (g : All2 R us ws) : All2 R (xs ++ us) (ys ++ ws) := by
  refine ⟨by rw [List.length_append, List.length_append, h.1, g.1], fun i x y h1 h2 => ?_⟩
  by_cases hi : i < xs.length
  · rw [List.getElem?_append_left hi] at h1
    rw [List.getElem?_append_left (by rw [← h.1]; exact hi)] at h2
    exact h.2 i x y h1 h2
  · rw [List.getElem?_append_right (by omega)] at h1
    rw [List.getElem?_append_right (by rw [← h.1]; omega), ← h.1] at h2
    exact g.2 _ x y h1 h2
theorem All2.take {α β : Type} {R : α → β → Prop} {xs : List α} {ys : List β} (h : All2 R xs ys) (n : Nat) : All2 R (xs.take n) (ys.take n) := by
  refine ⟨by rw [List.length_take, List.length_take, h.1], fun i x y h1 h2 => ?_⟩
  rw [List.getElem?_take] at h1 h2
  by_cases l : i < n
  · rw [if_pos l] at h1 h2
    exact h.2 i x y h1 h2
  · rw [if_neg l] at h1
    cases h1
theorem All2.at {α β : Type} {R : α → β → Prop} {xs : List α} {ys : List β} (h : All2 R xs ys) {i : Nat} {x : α} (e : xs[i]? = some x) : ∃ y, ys[i]? = some y ∧ R x y := by
  have l := (List.getElem?_eq_some_iff.mp e).1
  have l2 : i < ys.length := by rw [← h.1]; exact l
  exact ⟨ys[i], List.getElem?_eq_getElem l2, h.2 i x _ e (List.getElem?_eq_getElem l2)⟩
theorem All2.atR {α β : Type} {R : α → β → Prop} {xs : List α} {ys : List β} (h : All2 R xs ys) {i : Nat} {y : β} (e : ys[i]? = some y) : ∃ x, xs[i]? = some x ∧ R x y := by
  have l := (List.getElem?_eq_some_iff.mp e).1
  have l2 : i < xs.length := by rw [h.1]; exact l
  exact ⟨xs[i], List.getElem?_eq_getElem l2, h.2 i _ y (List.getElem?_eq_getElem l2) e⟩
theorem same_wr {H H1 : Hp} {D : Addr} {o : HO} (s : Same H H1) (n : H D = none) : Same H (upd H1 D o) := fun b x e => by
  rw [upd_ne (ne_of_none e n)]
  exact s b x e
def RowsL (H : Hp) (R : Addr) (rows : List Rw) : Prop := ∃ vs, H R = some (.lst vs) ∧ All2 (RowAt H) vs rows
def spLfr (C : Addr) : Sp := fun vs H Q E => ∃ (L : Addr) (ws : List Str), vs = [.ref L, .int 0] ∧ WsL H L ws ∧ (∀ (R : Addr) (rows : List Rw) H', H R = none → Same H H' → Told ws rows → rows.length ≤ 200 → RowsL H' R rows → Q (.ref R) H') ∧ ∀ e H', Same H H' → Bad ws e → Rf E C H' e
theorem ok_lfr {f fB fR C : Addr} {fd fdB fdR : FuncData} {tk : Tok} (F : Fun K "ladder_from" "ladder_from" sLfr f fd) (T : Zn mg) (M200 : mg "MOST_ROWS" = some (.int 200 tk))
    (FB : Fun K "behind_stroke" "behind_stroke" sBst fB fdB) (bB : Binds K fdB ["words", "at", "many", "most"] []) (gB : mg "behind_stroke" = some (.ref fB)) (GB : Gx2.FnX P w K mg base (L2.CX P w) 3 fB fdB ["words", "at", "many", "most"] (spBst C))
    (FR : Fun K "row_from" "row_from" sRfr fR fdR) (bR : Binds K fdR ["words", "at", "ahead"] []) (gR : mg "row_from" = some (.ref fR)) (GR : Gx2.FnX P w K mg base (L2.CX P w) 4 fR fdR ["words", "at", "ahead"] (spRfr C)) :
    Gx2.FnX P w K mg base (L2.CX P w) 5 f fd ["words", "at"] (spLfr C) := by
  refine Gx2.okX F scLfr (fun vs H Q E h => ?_) (fun cdv A outer s H vs Q E gd0 hr h => ?_)
  · obtain ⟨L, ws, rfl, _⟩ := h
    rfl
  · obtain ⟨L, ws, rfl, hw, q1, q2⟩ := h
    have gd : (A.deeper (envOfC "ladder_from" (defScope sLfr) s.heap.objs.size f cdv)).guards = some [] := gd0
    have hr3 : Room 3 _ := hr.mono (by omega)
    have hr4 : Room 4 _ := hr.mono (by omega)
    refine ⟨_, (Evl.pss_cut (ps_asg (Gx2.pe_callX GR gd hr4 (by rfl) gR FR.kp bR .nil (passes_call (takes_of rfl rfl rfl rfl) (fun _ _ _ _ h => h)) (pa_cons (pv 0) (pa_cons (pv 1) (pa_cons pe_int pa_nil)))) (pg_tup rfl (pgs_cons (pg_name (i := 2) scLfr.nd rfl (.inl rfl)) (pgs_cons (pg_name (i := 1) scLfr.nd rfl (.inl rfl)) pgs_nil))))
      (Evl.pss_cut (ps_set (i := 3) scLfr.nd rfl (.inl rfl) (pe_lstN (pa_cons (pv 2) pa_nil)))
      (Evl.pss_cut (ps_while (passes_of rfl) (pt_cmpR op_lt (pv 1) (pe_callB call_len_seq (by rfl) T.z_len (by decide +kernel) (pa_cons (pv 0) pa_nil)) (nomark _)) (Evl.pss_cut (ps_asg (Gx2.pe_callX GR gd hr4 (by rfl) gR FR.kp bR .nil (passes_call (takes_of rfl rfl rfl rfl) (fun _ _ _ _ h => h)) (pa_cons (pv 0) (pa_cons (Gx2.pe_callX GB gd hr3 (by rfl) gB FB.kp bB .nil (passes_call (takes_of rfl rfl rfl rfl) (fun _ _ _ _ h => h)) (pa_cons (pv 0) (pa_cons (pv 1) (pa_cons (pe_callB call_len_seq (by rfl) T.z_len (by decide +kernel) (pa_cons (pv 3) pa_nil)) (pa_cons (pe_glob (v := .int 200) rfl M200 ⟨_, rfl⟩) pa_nil))))) (pa_cons (pe_callB call_len_seq (by rfl) T.z_len (by decide +kernel) (pa_cons (pv 3) pa_nil)) pa_nil)))) (pg_tup rfl (pgs_cons (pg_name (i := 2) scLfr.nd rfl (.inl rfl)) (pgs_cons (pg_name (i := 1) scLfr.nd rfl (.inl rfl)) pgs_nil))))
      (pss_one (ps_expr (pe_bm PySem.F.plainAttrs_list PySem.F.slot_list_append PySem.F.type_list_append mt_append (pv 3) (pa_cons (pv 2) pa_nil))))))
      (pss_one (ps_ret (pv 3)))))), ?_⟩
    refine Evl.q_cut (M := fun σ' H' => ∃ (b : Nat) (p : Addr) (r : Rw), σ' = [some (.ref L), some (.int b), some (.ref p), none] ∧ Same H H' ∧ Reach ws b [] (ptOf r) ∧ H' p = some (.tup r.vs)) ?_ ?_
    · refine ⟨_, rfl, _, rfl, L, ws, 0, [], rfl, hw, Nat.zero_le _, .zero, fun r p t b H1 s1 _ R1 ht hp => ?_, fun e H1 s1 z => q2 e H1 s1 z⟩
      exact ⟨t, _, rfl, .of ht, rfl, _, _, rfl, _, _, rfl, rfl, b, p, r, rfl, s1, R1, hp⟩
    rintro σ' H1 ⟨b, p, r, rfl, s1, R1, hp⟩
    refine Evl.q_cut (M := fun σ' H' => ∃ R : Addr, σ' = [some (.ref L), some (.int b), some (.ref p), some (.ref R)] ∧ H1 R = none ∧ Same H H' ∧ RowsL H' R [r]) ?_ ?_
    · refine ⟨_, rfl, by show 1 ≤ sizeLine; decide, fun R H2 nR s2 hR _ => ⟨R, rfl, nR, s1.trans s2, _, hR, ?_⟩⟩
      exact All2.snoc (xs := []) (ys := []) .nil ⟨p, rfl, s2 _ _ hp⟩
    rintro σ' H2 ⟨R, rfl, nR1, s2, hR2⟩
    have nR := s1.free nR1
    refine Evl.q_cut (M := fun σ' H' => ∃ (y1 y2 : Option V) (rows : List Rw), σ' = [some (.ref L), y1, y2, some (.ref R)] ∧ Same H H' ∧ Told ws rows ∧ rows.length ≤ 200 ∧ RowsL H' R rows) ?_ ?_
    · refine while_by (fun σ H' => ∃ (b : Nat) (p : Addr) (rows0 : List Rw) (r : Rw), σ = [some (.ref L), some (.int b), some (.ref p), some (.ref R)] ∧ Same H H' ∧ Reach ws b rows0 (ptOf r) ∧ RowsL H' R (rows0 ++ [r]) ∧ rows0.length < 200) (fun σ _ => mA ws.length σ) ?_ ?_ ?_
      · exact ⟨b, p, [], r, rfl, s2, R1, hR2, by decide⟩
      · clear hR2 s2 H2 R1 hp s1 nR1 H1
        rintro σ H2 ⟨b, p, rows0, r, rfl, s2, R1, ⟨vs, hR, aR⟩, l200⟩
        have hw2 := hw.same s2
        have lv := aR.1
        rw [List.length_append, List.length_singleton] at lv
        have lb := R1.le
        refine ⟨_, rfl, _, rfl, L, _, rfl, .inl (.of hw2.1), _, _, rfl, rfl, _, rfl, ite2 (fun e => ?_) (fun e => ?_)⟩
        · have e : (b : Int) < ((ws.map V.str).length : Nat) := of_decide_eq_true e
          rw [List.length_map] at e
          have hx := List.getElem?_eq_getElem (show b < ws.length by omega)
          generalize ws[b]'(by omega) = x at hx
          refine Evl.q_cut (M := fun σ' H' => ∃ (b' : Nat) (p' : Addr) (r' : Rw), σ' = [some (.ref L), some (.int b'), some (.ref p'), some (.ref R)] ∧ Same H2 H' ∧ b < b' ∧ Reach ws b' (rows0 ++ [r]) (ptOf r') ∧ H' p' = some (.tup r'.vs) ∧ rows0.length < 199) ?_ ?_
          · refine ⟨_, rfl, _, rfl, _, rfl, _, rfl, R, _, rfl, .inl (.of hR), L, ws, b, rows0.length + 1, 200, ?_, hw2, fun e1 e2 => ?_, fun no => ?_⟩
            · show [V.ref L, V.int b, V.int (vs.length : Nat), V.int 200] = _
              rw [lv]
              rfl
            · have R2 := R1.succ e1 (.stroke r (by omega))
              refine ⟨_, rfl, R, _, rfl, .inl (.of hR), L, ws, b + 1, rows0 ++ [r], ?_, hw2, by rw [List.length_append, List.length_singleton]; omega, R2, fun r' p' t b' H3 s3 lt R3 ht hp' => ?_, fun e H3 s3 z => q2 e H3 (s2.trans s3) z⟩
              · show [V.ref L, V.int ((b + 1 : Nat) : Int), V.int (vs.length : Nat)] = _
                rw [lv, List.length_append, List.length_singleton]
              · exact ⟨t, _, rfl, .of ht, rfl, _, _, rfl, _, _, rfl, rfl, b', p', r', rfl, s3, by omega, R3, hp', by omega⟩
            · refine q2 b H2 s2 ⟨rows0, ptOf r, R1, .inl ⟨x, hx, fun a' p2 st => ?_⟩⟩
              obtain ⟨rfl, l⟩ := step_r st
              exact no ⟨hx, by omega⟩
          rintro σ' H3 ⟨b', p', r', rfl, s3, lt, R3, hp', l199⟩
          have hR3 := s3 _ _ hR
          refine ⟨_, rfl, .inl ⟨rfl, _, .of hR3⟩, _, rfl, R, _, _, rfl, rfl, hR3, small1000 (by omega), ?_⟩
          refine ⟨⟨b', p', rows0 ++ [r], r', rfl, same_wr (s2.trans s3) nR, R3, ⟨_, upd_same, All2.snoc (aR.imp fun _ _ h => (h.same s3).wr hR3) (RowAt.wr ⟨p', rfl, hp'⟩ hR3)⟩, by rw [List.length_append, List.length_singleton]; omega⟩, ?_⟩
          show ws.length - (b' : Int).toNat < ws.length - (b : Int).toNat
          omega
        · have e : ¬ (b : Int) < ((ws.map V.str).length : Nat) := fun z => e (decide_eq_true z)
          rw [List.length_map] at e
          obtain rfl : b = ws.length := by omega
          exact ⟨_, _, rows0 ++ [r], rfl, s2, ⟨rows0, r, rfl, R1⟩, by rw [List.length_append, List.length_singleton]; omega, vs, hR, aR⟩
      · rintro σ H0 Q1 Q2 hq ⟨v, e, v2, e2, l, xs, e3, sq, i, j, e5, e6, b, e7, z⟩
        exact ⟨v, e, v2, e2, l, xs, e3, sq, i, j, e5, e6, b, e7, hq _ _ z⟩
    rintro σ' H3 ⟨y1, y2, rows, rfl, s3, td, l200, hR3⟩
    exact ⟨_, rfl, q1 R rows H3 nR s3 td l200 hR3⟩
theorem spl_len : ∀ (l acc : List Nat), (TL.spl [32] 0 acc l).length ≤ l.length + 1 ∧ ∀ p ∈ TL.spl [32] 0 acc l, p.length ≤ acc.length + l.length
  | [], acc => by
    rw [TL.spl_nil]
    exact ⟨Nat.le_refl _, fun p hp => by rw [List.mem_singleton.mp hp]; exact Nat.le_refl _⟩
  | c :: r, acc => by
    cases h : TL.pre [32] (c :: r) with
    | true =>
      rw [TL.spl_hit h]
      obtain ⟨h1, h2⟩ := spl_len r []
      refine ⟨?_, fun p hp => ?_⟩
      · show (TL.spl [32] 0 [] r).length + 1 ≤ r.length + 1 + 1
        omega
      · rcases List.mem_cons.mp hp with z | z
        · rw [z]
          exact Nat.le_add_right _ _
        · have := h2 p z
          rw [List.length_nil] at this
          rw [List.length_cons]
          omega
    | false =>
      rw [TL.spl_miss h]
      obtain ⟨h1, h2⟩ := spl_len r (acc ++ [c])
      refine ⟨by rw [List.length_cons]; omega, fun p hp => ?_⟩
      have := h2 p hp
      rw [List.length_append, List.length_singleton] at this
      rw [List.length_cons]
      omega
theorem split_len (x : Str) : (Txt.split x " ").length ≤ x.length + 1 ∧ ∀ y ∈ Txt.split x " ", y.length ≤ x.length := by
  have e0 : tl " " = [32] := by decide +kernel
  have e := TL.split_spl x " " (by rw [e0]; decide) (TL.kind_ok (by decide +kernel))
  rw [e0] at e
  obtain ⟨h1, h2⟩ := spl_len (tl x) []
  rw [← e] at h1 h2
  refine ⟨?_, fun y hy => ?_⟩
  · rw [List.length_map] at h1
    rw [len_tl]
    exact h1
  · have := h2 (tl y) (List.mem_map_of_mem hy)
    rw [List.length_nil, Nat.zero_add] at this
    rw [len_tl, len_tl]
    exact this
abbrev sRla : Stmt := topS 31
theorem scRla : FnScope ["text"] ["text"] (defScope sRla) := ⟨rfl, rfl, rfl, by decide +kernel, rfl, by decide +kernel, by decide +kernel⟩
def spRla (C : Addr) : Sp := fun vs H Q E => ∃ (x : Str), vs = [.str x] ∧ x.length ≤ 50000 ∧ (∀ (R : Addr) (rows : List Rw) H', H R = none → Same H H' → Told (Txt.split x " ") rows → rows.length ≤ 200 → RowsL H' R rows → Q (.ref R) H') ∧ ∀ e H', Same H H' → Bad (Txt.split x " ") e → Rf E C H' e
theorem ok_rla {f fW fL C : Addr} {fd fdW fdL : FuncData} (F : Fun K "read_ladder" "read_ladder" sRla f fd)
    (FW : Fun K "words_of" "words_of" sWof fW fdW) (bW : Binds K fdW ["text"] []) (gW : mg "words_of" = some (.ref fW)) (GW : FnOk P w K mg base CX0 1 fW fdW ["text"] spWof)
    (FL : Fun K "ladder_from" "ladder_from" sLfr fL fdL) (bL : Binds K fdL ["words", "at"] []) (gL : mg "ladder_from" = some (.ref fL)) (GL : Gx2.FnX P w K mg base (L2.CX P w) 5 fL fdL ["words", "at"] (spLfr C)) :
    Gx2.FnX P w K mg base (L2.CX P w) 6 f fd ["text"] (spRla C) := by
  refine Gx2.okX F scRla (fun vs H Q E h => ?_) (fun cdv A outer s H vs Q E gd0 hr h => ?_)
  · obtain ⟨x, rfl, _⟩ := h
    rfl
  · obtain ⟨x, rfl, lx, q1, q2⟩ := h
    have gd : (A.deeper (envOfC "read_ladder" (defScope sRla) s.heap.objs.size f cdv)).guards = some [] := gd0
    have hr1 : Room 1 _ := hr.mono (by omega)
    have hr5 : Room 5 _ := hr.mono (by omega)
    refine ⟨_, (pss_one (ps_ret (Gx2.pe_callX GL gd hr5 (by rfl) gL FL.kp bL .nil (passes_call (takes_of rfl rfl rfl rfl) (fun _ _ _ _ h => h)) (pa_cons (pe_call GW hr1 (by rfl) gW FW.kp bW .nil pass0 (pa_cons (pv 0) pa_nil)) (pa_cons pe_int pa_nil))))), ?_⟩
    refine ⟨_, rfl, x, rfl, lx, fun p H1 np s1 hp => ?_⟩
    refine ⟨p, Txt.split x " ", rfl, ⟨hp, ?_, ?_⟩, fun R rows H2 nR s2 td l2 hR => q1 R rows H2 (s1.free nR) (s1.trans s2) td l2 hR, fun e H2 s2 z => q2 e H2 (s1.trans s2) z⟩
    · have := (split_len x).1
      omega
    · intro y hy
      have := (split_len x).2 y hy
      omega
end
end Tw
namespace Rk
open PySem PySem.Spec PyProof.Rows L2 Nw Ev1 Gx2
/-! ### a call of a value that an expression tells; a caught error kept as a value; count of truths -/
theorem takes0 {X : Cx} : Takes X (fun _ _ _ _ => False) := fun _ _ x => by
  obtain ⟨_, _, _, _, _, _, _, _, _, _, _, _, _, _, _, _, z⟩ := x
  exact z.elim
section
variable {X : Cx} {CX : CXT} {k : Nat} {f : Addr} {fd : FuncData} {ps : List Str} {sp : Sp} {E : L2.St → XK}
theorem runS {pins : List (Addr × Obj)} {σ : L2.St} {H : Hp} {s : Shared} {Q : VK} {us : List Value} {vs : List V} (F : FnX X.prog X.w X.K X.mg X.base CX k f fd ps sp) (gd : X.A.guards = some []) (room : Room k X.A) (bind : Binds X.K fd ps []) (pass : PassesAt CX X σ (E σ))
    (I : Inv X pins σ H s) (rel : Vals vs us) (ask : sp vs H Q (E σ)) : wpAny (model X.prog X.w) X.A (call (.ref f) us) (EP X pins σ Q) X.xe s := by
  have ll : us.length = ps.length := rel.length.symm.trans (F.len _ _ _ _ ask)
  have b := bind s us I.kIn (by rw [List.append_nil]; exact ll)
  rw [List.append_nil] at b
  refine wpAny_call (codeAny_mono (F.run X.A X.stack s H ⟨us, []⟩ us vs Q (E σ) gd room I.env0 b rel ask) fun r s' z => ?_)
  match r, z with
  | .error e, z => exact pass pins H s e s' I z
  | .ok (.ret u), z => exact I.after z
  | .ok .next, z => exact z.elim
  | .ok .brk, z => exact z.elim
  | .ok .cont, z => exact z.elim
/-- g(e, ..), g an expression that tells the def f -/
def tCallV (f : Addr) (tf : TE) (sp : Sp) (E : L2.St → XK) (t : TA) : TE := fun σ H Q => tf σ H fun v H1 => v = .ref f ∧ t σ H1 fun vs H2 => sp vs H2 Q (E σ)
theorem pe_callV {fe e : Expr} {es : List Expr} {tf : TE} {t : TA} {pos : Pos} (F : FnX X.prog X.w X.K X.mg X.base CX k f fd ps sp) (gd : X.A.guards = some []) (room : Room k X.A) (kp : PySem.W.keepIn X.K (.ref f) = true) (bind : Binds X.K fd ps []) (pass : ∀ σ, PassesAt CX X σ (E σ)) (hf : PE X fe tf)
    (ha : PA X (e :: es) t) (hc : eval (.Call fe (e :: es) [] pos) X.env = (do callWith pos (← eval fe X.env) [] (backTo pos (starEach (e :: es) X.env)) (backToKw pos (keywordEach [] X.env))) := by rfl)
    (he : starEach (e :: es) X.env = (false, eval e X.env) :: starEach es X.env := by rfl) (hpl : (backTo pos (starEach es X.env)).any (·.1) = false := by rfl) :
    PE X (.Call fe (e :: es) [] pos) (tCallV f tf sp E t) := by
  refine ⟨fun pins s σ H Q I h => ?_⟩
  rw [hc]
  refine wpAny_bind (thn (hf.run pins s σ H _ I h) fun u s1 ⟨v, H1, I1, r1, e1, q1⟩ => ?_)
  subst e1
  cases r1
  exact PySem.W.callWith_K (h₀ := X.base) I1.ok.mod.kin kp (thn (ha.run pos pins s1 σ H1 _ I1 q1) fun us s2 ⟨vs, H2, I2, r, q⟩ => ⟨I2.kIn, runS F gd room bind (pass σ) I2 r q⟩) he hpl
end
section
variable {X : Cx} {pins : List (Addr × Obj)} {σ : L2.St} {H : Hp} {s : Shared} {a : Addr} {oe : Obj} {cls : Value} {d : Option Addr}
/-- an exception that stands in the heap comes to be known -/
theorem track {vs : Array Value} (I : Inv X pins σ H s) (ha : s.heap.get? a = some oe) (hz : Zc cls d oe) (hd : oe.data = .fields vs) (na : H a = none) (nL : a ≠ X.env.locals) (n0 : X.s_0.heap.get? a = none) (np : ∀ p ∈ X.pn ++ pins, p.1 ≠ a) :
    Inv X pins σ (upd H a (ExV cls d a)) s := by
  have new : ObjOk X.prog X.w (upd H a (ExV cls d a)) s.heap a (ExV cls d a) := ⟨⟨oe, vs, ha, hz, hd⟩, ⟨oe, ha⟩, fun h1 h2 ⟨o, v, y, r⟩ i => ⟨o, v, i o y, r⟩⟩
  have b := I.base
  refine ⟨I.ok, I.os, I.bare, ⟨b.keep, b.slot, fun x o e n m => ?_, b.there, fun x xs e => ?_, fun x o u e => ?_, fun x ps e => ?_⟩, I.loc, I.cell, ?_, fun x c e => ?_, fun p hp => ?_, I.hok.laidN (fun _ _ z => z) na new, I.len⟩
  · rw [upd_ne (fun z => by rw [z, n0] at e; cases e)]
    exact b.free x o e n m
  · rw [upd_ne (ne_of_none (b.tups x xs e) na)]
    exact b.tups x xs e
  · rw [upd_ne (ne_of_none (b.frzs x o u e) na)]
    exact b.frzs x o u e
  · obtain ⟨more, z⟩ := b.tbls x ps e
    exact ⟨more, by rw [upd_ne (ne_of_none z na)]; exact z⟩
  · rw [upd_ne (Ne.symm nL)]
    exact I.free
  · obtain ⟨w, z⟩ := I.cell x c e
    rw [upd_ne (fun y => ?_)]
    · exact I.freeC x c e
    · rw [y] at z
      obtain ⟨o, z1, z2⟩ := z
      rw [ha] at z1
      cases z1
      simp_all
  · obtain ⟨e, n, ne, nf, c⟩ := I.pin p hp
    exact ⟨e, by rw [upd_ne (np p hp)]; exact n, ne, nf, c⟩
end
/-- what «except x as n: suite» wishes of an exception of the body, where the suite ends and the exception is known behind it -/
def wKeep (K : PySem.W.Frag) (c : Value) (i : Nat) (ts : Addr → Value → Option Addr → TS) (Wout : WX) (D : Ends) : WX := fun cls d σ H =>
  ∃ b, PySem.W.exmOne K cls c = some b ∧ (b = true → ∀ a, H a = none → ts a cls d { nx := fun σ' H' => H' a = none → D.nx (σ'.set i none) (upd H' a (ExV cls d a)), rt := fun _ _ => False, bk := fun _ _ => False, ct := fun _ _ => False } (σ.set i (some (.ref a))) H) ∧
    (b = false → Wout cls d σ H)
section
variable {X : Cx} {x n : Str} {c : Value} {i : Nat} {body suite : List Stmt} {b₀ : Stmt} {np pos pos' : Pos} {tb : WX → TS} {ts : Addr → Value → Option Addr → TS} {Wout : WX}
theorem ps_try_keep (hs : X.stack = X.env :: X.outer) (hf : X.env.frame = some X.env.locals) (hex : X.ex = []) (hN : X.N.Nodup) (hi : X.N[i]? = some n) (hln : X.env.kindOf n = some .local) (hc : Names X x c) (tk : Takes X Wout)
    (hb : ∀ (W : WX) (pn : List (Addr × Obj)) (xe : Value → Shared → Prop), Takes (X.tr pn xe) W → PassesOwn (model X.prog X.w) X.A X.env xe → PSs (X.tr pn xe) body (tb W))
    (hsu : ∀ (a : Addr) (oe : Obj) (cls : Value) (d : Option Addr) (pn : List (Addr × Obj)), Zc cls d oe → (∃ vs, oe.data = .fields vs) → PSs (X.suite a ((a, oe) :: pn)) (b₀ :: suite) (ts a cls d)) :
    PS X (.Try body [.ExceptHandler (some (.Name x np)) (some n) (b₀ :: suite) pos'] [] [] pos) (fun D σ H => tb (wKeep X.K c i ts Wout D) D σ H) := by
  refine ⟨fun pins s σ H D I h => ?_⟩
  have ok := I.ok
  have hfr : X.A.frames = some (X.env :: X.outer) := by rw [ok.frames, hs]
  have hloc : Loc X.env.scope n := .inl hln
  refine wpAny_Try_except ?_
  refine wpAny_mono ((hb (wKeep X.K c i ts Wout D) (X.pn ++ pins) (fun e s₁ => wpAny (model X.prog X.w) X.A (noteFrame e X.env) (fun _ s₂ => wpAny (model X.prog X.w) X.A (setFlight e none) (fun _ s₃ =>
    wpAny (model X.prog X.w) X.A (handleBy e X.env [.ExceptHandler (some (.Name x np)) (some n) (b₀ :: suite) pos']) (SP X pins D) X.xe s₃) X.xe s₂) X.xe s₁) (fun u s' xx => ?_) PassesOwn.looking).run [] s σ H D (I.toTry _) h) (fun f s1 hsp => ?_) (fun e s1 he => he)
  · obtain ⟨a, B, sI, pins', σ', H', cls, d, rfl, J', nb, up, sky, na, os, ag, b, hb1, hyes, hno⟩ := xx
    have J : Inv X pins σ' H' sI := J'.ofTry ok
    have sky' : Sky B (X.env :: X.outer) a (Zc cls d) X.env.locals s'.heap := by rw [← hs]; exact sky
    have Ba : B.get? a = none := by
      rcases sky with z | z | z
      · exact z.2.1
      · exact z.2.1
      · exact z.2.1
    show wpAny (model X.prog X.w) X.A (noteFrame (.ref a) X.env) _ _ _
    refine Sky.land Zc.steady hfr hf sky' fun h3 fl3 up3 => ?_
    have J3 : Inv X pins σ' H' { s' with heap := h3 } := J.landed nb fl3.1 (up.trans up3) os ag
    obtain ⟨oe3, vs3, he3, hz3, hd3⟩ := fl3.there
    have notFr : ∀ {h : Heap} {o : Obj} {vs : Array Value}, h.FunFrames B (X.env :: X.outer) → h.get? a = some o → o.data = .fields vs → a ∉ frs (X.env :: X.outer) := fun {h o vs} ff e dd hm => by
      obtain ⟨_, o', e', hnf⟩ := ff.mem hm
      rw [e] at e'; cases e'
      exact hnf _ dd
    have nfr := notFr fl3.2.2.1 he3 hd3
    have nL : a ≠ X.env.locals := fun z => nfr (List.mem_filterMap.mpr ⟨X.env, List.mem_cons_self, by rw [hf, z]⟩)
    have nF : a ∉ X.fs := fun hm => by
      obtain ⟨e, he, q⟩ := List.mem_filterMap.mp hm
      exact nfr (List.mem_filterMap.mpr ⟨e, List.mem_cons_of_mem _ he, q⟩)
    have n0 : X.s_0.heap.get? a = none := by
      cases z : X.s_0.heap.get? a with
      | none => rfl
      | some o =>
        obtain ⟨o', z2⟩ := J.base.there a o z (by rw [hex]; simp)
        rw [nb a o' z2 (by show a ∉ frs X.stack; rw [hs]; exact nfr)] at Ba
        cases Ba
    have npin : ∀ p ∈ X.pn ++ pins, p.1 ≠ a := fun p hp z => by
      have y := (J.pin p hp).1
      rw [z] at y
      rw [nb a _ y (by show a ∉ frs X.stack; rw [hs]; exact nfr)] at Ba
      cases Ba
    have S3 := J3.suite he3 hd3 na nL nF
    refine wpAny_handleBy_cons (codeAny_handlers_test ?_) (by intro q; cases q)
    have LT : PySem.W.Looks (model X.prog X.w) h3 (typeOf (.ref a)) cls := fun A Q E s k q => wpAny_typeOf_ref (k _ _ he3) (by rw [hz3.1]; exact q)
    have LM := PySem.W.exm_one (M := model X.prog X.w) (J3.kIn) LT hb1
    have test : ∀ {Q : Value → Shared → Prop} {E : Value → Shared → Prop}, Q c { s' with heap := h3 } → wpAny (model X.prog X.w) (X.A.mark (some (.ref a))) (eval (.Name x np) X.env) Q E { s' with heap := h3 } := fun {Q E} q => by
      obtain ⟨hg, hdbg, hm | ⟨hm, hv, hnn⟩⟩ := hc
      · exact ld_glob (X := X.suite a ((a, oe3) :: (X.pn ++ pins))) S3 hg hm q hdbg
      · exact ld_blt (X := X.suite a ((a, oe3) :: (X.pn ++ pins))) S3 hg hm hv q hnn hdbg
    refine test (LM.here ?_)
    cases b with
    | true =>
      refine codeAny_handlers_suite_as ?_
      refine HandSPX.lands_againZ fl3 fun h4 fl4 up4 => ?_
      have J4 : Inv X pins σ' H' { s' with heap := h4 } := J.landed nb fl4.1 ((up.trans up3).trans up4) os ag
      obtain ⟨oe4, vs4, he4, hz4, hd4⟩ := fl4.there
      have S4 := J4.suite he4 hd4 na nL nF
      refine store_ok (X := X.suite a ((a, oe4) :: (X.pn ++ pins))) (v := .ref a) S4 hN hi hloc rfl (fun s5 S5 => ?_) (.inr hln)
      refine wpAny_mono ((hsu a oe4 cls d (X.pn ++ pins) hz4 ⟨_, hd4⟩).run [] s5 _ H' _ S5 (hyes rfl a na)) (fun f s6 hsp => ?_) (fun _ _ z => False.elim z)
      cases f with
      | next =>
        obtain ⟨σ6, H6, S6, q6⟩ := hsp
        obtain ⟨p1, p2, _⟩ := S6.pin (a, oe4) (List.mem_append_left _ List.mem_cons_self)
        have J6 : Inv X pins σ6 H6 s6 := S6.unsuite ok
        have J7 : Inv X pins σ6 (upd H6 a (ExV cls d a)) s6 := track J6 p1 hz4 hd4 p2 nL n0 npin
        exact gone_ok J7 hN hi hln fun s7 J8 => ⟨_, _, J8, q6 p2⟩
      | brk =>
        obtain ⟨σ6, H6, S6, q6⟩ := hsp
        exact q6.elim
      | cont =>
        obtain ⟨σ6, H6, S6, q6⟩ := hsp
        exact q6.elim
      | ret u =>
        obtain ⟨v6, σ6, H6, S6, r6, q6⟩ := hsp
        exact q6.elim
    | false =>
      show wpAny _ X.A (handleBy (.ref a) X.env []) _ _ _
      refine wpAny_handleBy_nil ?_
      obtain ⟨k1, k2, k3, oe, vs, T, oT, ts', he, hz, hd, h1, hr⟩ := id fl3
      unfold PySem.passOn
      refine wpAny_bind (wpAny_field he hd h1 ?_)
      rw [if_neg (show ¬ ((Value.ref T == Value.none) = true) from by simp)]
      have fin : wpAny (model X.prog X.w) X.A (setFlight (.ref a) X.env.frame) (fun _ s4 => wpAny (model X.prog X.w) X.A (throw (.ref a) : Sem Flow) (SP X pins D) X.xe s4) X.xe { s' with heap := h3 } := by
        rw [hf]
        refine HandSPX.setFlight_upZ fl3 fun h4 hh4 up4 => wpAny_throw (tk _ _ ?_)
        exact ⟨a, B, sI, pins, σ', H', cls, d, rfl, J, nb, (up.trans up3).trans up4, .inr (.inr (by rw [hs]; exact hh4)), na, os, ag, hno rfl⟩
      first
        | exact wpAny_bind (wpAny_pure (wpAny_bind fin))
        | exact wpAny_bind fin
  · cases f with
    | next =>
      obtain ⟨σ', H', J', q⟩ := hsp
      exact wpAny_execs_nil ⟨σ', H', J'.ofTry ok, q⟩
    | brk =>
      obtain ⟨σ', H', J', q⟩ := hsp
      exact ⟨σ', H', J'.ofTry ok, q⟩
    | cont =>
      obtain ⟨σ', H', J', q⟩ := hsp
      exact ⟨σ', H', J'.ofTry ok, q⟩
    | ret u =>
      obtain ⟨v, σ', H', J', r, q⟩ := hsp
      exact ⟨v, σ', H', J'.ofTry ok, r, q⟩
end
/-- at a a caught exception of the class D -/
def ExW (H : Hp) (a D : Addr) : Prop := H a = some (ExV (.ref D) none a) ∨ ∃ y, ExF H a D y
theorem ExW.same {H H' : Hp} {a D : Addr} (h : ExW H a D) (s : Same H H') : ExW H' a D := by
  rcases h with h | ⟨y, h⟩
  · exact .inl (s _ _ h)
  · exact .inr ⟨y, h.same s⟩
theorem ExW.inst {X : Cx} {pins : List (Addr × Obj)} {σ : L2.St} {H : Hp} {s : Shared} {a D : Addr} (I : Inv X pins σ H s) (h : ExW H a D) : ∃ ox od, PySem.W.InstAt s.heap a ox D od := by
  rcases h with h | ⟨y, h⟩
  · have z1 : ObjOk X.prog X.w H s.heap a (.ext fun h => ∃ (oe : Obj) (vs : Array Value), h.get? a = some oe ∧ Zc (.ref D) none oe ∧ oe.data = .fields vs) := I.hok a _ h
    obtain ⟨⟨oe, vs, ha, ⟨hc, hd⟩, hv⟩, _⟩ := z1
    exact ⟨oe, none, ⟨ha, hc, notCls_of hv, by rw [hd]; exact trivial⟩⟩
  · obtain ⟨ox, od, _, J, _⟩ := h.inst I
    exact ⟨ox, some od, J⟩
/-- isinstance(e, c) of a caught exception -/
def rIsW (K : PySem.W.Frag) : List V → Hp → VK → Prop := fun xs H Q => ∃ (a D : Addr) (c : V) (cv : Value) (b : Bool), xs = [.ref a, c] ∧ ExW H a D ∧ ExcC K D ∧ (∀ u, RelV c u → u = cv) ∧ PySem.W.kitOne K (.ref D) cv = some b ∧ Q (.bl b) H
theorem call_isW {X : Cx} : CallR X (.builtin "isinstance") (rIsW X.K) := by
  intro pins s σ H xs us Q I r h
  obtain ⟨a, D, c, cv, b, rfl, hE, C, hcv, e, q⟩ := h
  cases r with
  | cons rx rr =>
    cases rr with
    | cons rt rr =>
      cases rr
      cases rx
      have ec := hcv _ rt
      subst ec
      obtain ⟨ox, od, J⟩ := hE.inst I
      have cl : (PySem.W.clsIn X.K D).isSome = true := by
        obtain ⟨cd, hc, _⟩ := PySem.W.any_some C.hd
        rw [hc]
        rfl
      exact PySem.W.kia_one (PySem.W.kitx_exc cl C.hg C.hk C.hs C.ha C.hn C.ht C.hm) I.kIn J e (fun z => nomatch z) fun tk => ⟨.bl b, H, I.kept (t' := tk) fun _ _ z => z, rfl, q⟩
theorem count_vals {y : V} : ∀ {ys : List V} {us : List Value}, Vals ys us → ys.all flatV = true → us.countP (eqU y) = ys.countP fun z => eqV z y
  | [], _, .nil, _ => rfl
  | z :: r, u :: us, .cons r1 t, f => by
    rw [List.all_cons, Bool.and_eq_true] at f
    rw [List.countP_cons, List.countP_cons, count_vals t f.2, eqU_of r1 f.1]
/-- xs.count(y), flat items -/
def rCountV (K : PySem.W.Frag) : V → List V → Hp → VK → Prop := fun x xs H Q => ∃ (p : Addr) (ys : List V) (y : V), x = .ref p ∧ xs = [y] ∧ SqL K H p ys ∧ flatV y = true ∧ ys.all flatV = true ∧ Q (.int ((ys.countP fun z => eqV z y : Nat) : Int)) H
theorem mt_countV {X : Cx} : MtR X "list.count" (rCountV X.K) := by
  intro pins s σ H x xs v us Q I rx rxs h
  obtain ⟨p, ys, y, rfl, rfl, hs, fy, fys, q⟩ := h
  cases rx
  obtain ⟨u, rfl, ru⟩ := rxs.one
  obtain ⟨its, rv, ⟨⟨cls, dd, data, sl⟩, n, ho, hc, hdn, hd⟩, hlen⟩ := I.list hs
  simp only at hc hd
  subst hc hd
  refine call_meets PySem.F.slot_list_count ⟨_, ho, rfl⟩ PySem.F.entry_list_count (PySem.F.args_list_count_2 _ _)
    (SeqAt.list_countAt p its.toArray n dd sl u (eqU y)) ⟨ho, fun z hz => mem_eqAt ru fy rv fys z (by simpa using hz), ?_⟩
  have ec : its.toArray.toList.countP (eqU y) = ys.countP fun z => eqV z y := count_vals rv fys
  refine ⟨.int ((ys.countP fun z => eqV z y : Nat) : Int), H, I.tok _, ⟨s.toks, ?_⟩, q⟩
  show Value.int ((its.toArray.toList.countP (eqU y) : Nat) : Int) s.toks = _
  rw [ec]
end Rk
namespace Rpa
open PySem PySem.Spec PyProof.Rows L2
/-- repr of anything by its data, where nothing is being shown -/
theorem cr_reprA {X : Cx} (hg : X.A.guards = some []) (hu : X.A.units + 70 < cLine) : CallR X (.builtin "repr") (fun xs H Q => ∃ (x : V) (d : PyData), xs = [x] ∧ Dp X.K H x d ∧ d.showable = true ∧ d.hasDict = false ∧ d.depth ≤ 64 ∧ d.shown.length ≤ sizeLine ∧ Q (.str d.shown) H) := by
  intro pins s σ H xs us Q I r h
  obtain ⟨x, d, rfl, hd, hs, hn, dp, sz, q⟩ := h
  obtain ⟨u, rfl, hu'⟩ := vals1 r
  cases id hd with
  | non =>
    obtain rfl : u = .none := hu'
    exact PySem.P.repr_of_none ⟨.str _, H, I.tok _, ⟨_, rfl⟩, q⟩
  | bl b =>
    obtain rfl : u = .bool b := hu'
    exact PySem.P.repr_of_bool ⟨.str _, H, I.tok _, ⟨_, rfl⟩, q⟩
  | int i =>
    obtain ⟨t, rfl⟩ := hu'
    exact PySem.P.repr_of_int (by simpa [PyData.showable] using hs) ⟨.str _, H, I.tok _, ⟨_, rfl⟩, q⟩
  | str z =>
    obtain ⟨t, rfl⟩ := hu'
    exact PySem.P.repr_of_str ⟨.str _, H, I.tok _, ⟨_, rfl⟩, q⟩ sz
  | lst _ _ =>
    rename_i a _ _ _ _
    obtain rfl : u = .ref a := hu'
    obtain ⟨as, r1⟩ := Dp.reads I _ (.ref a) (.ref a) hd rfl
    exact repr_of_reads' r1 hs (PyData.noDict_hsm hn) hg (by omega) (fun _ _ e => e) (fun h' u tk k => ⟨.str _, H, I.turnedL (ch := []) (fun b o _ e => k b o e) (fun b hb => absurd hb (by simp)), ⟨_, rfl⟩, q⟩) sz
  | tup _ _ =>
    rename_i a _ _ _ _
    obtain rfl : u = .ref a := hu'
    obtain ⟨as, r1⟩ := Dp.reads I _ (.ref a) (.ref a) hd rfl
    exact repr_of_reads' r1 hs (PyData.noDict_hsm hn) hg (by omega) (fun _ _ e => e) (fun h' u tk k => ⟨.str _, H, I.turnedL (ch := []) (fun b o _ e => k b o e) (fun b hb => absurd hb (by simp)), ⟨_, rfl⟩, q⟩) sz
end Rpa
namespace Od
open PySem PySem.Spec PyProof.Rows L2 GxR Nw Dr Kp
/-! ### anything: values by their data; no list among them is one of f -/
mutual
inductive OdV (f : Addr → Prop) (H : Hp) : V → PyData → Prop
  | non : OdV f H .non .none
  | bl (b : Bool) : OdV f H (.bl b) (.bool b)
  | int (i : Int) : OdV f H (.int i) (.int i)
  | str (x : Str) : OdV f H (.str x) (.str x)
  | lst {a : Addr} {xs : List V} {ds : List PyData} : H a = some (.lst xs) → ¬ f a → OdAll f H xs ds → OdV f H (.ref a) (.list ds)
  | tup {a : Addr} {xs : List V} {ds : List PyData} : H a = some (.tup xs) → OdAll f H xs ds → OdV f H (.ref a) (.tuple ds)
inductive OdAll (f : Addr → Prop) (H : Hp) : List V → List PyData → Prop
  | nil : OdAll f H [] []
  | cons {v : V} {vs : List V} {d : PyData} {ds : List PyData} : OdV f H v d → OdAll f H vs ds → OdAll f H (v :: vs) (d :: ds)
end
variable {f : Addr → Prop} {H H' : Hp}
mutual
theorem OdV.dp {K : PySem.W.Frag} : ∀ {d : PyData} {v : V}, OdV f H v d → Dp K H v d
  | .none, _, h => by cases h; exact .non
  | .bool _, _, h => by cases h; exact .bl _
  | .int _, _, h => by cases h; exact .int _
  | .str _, _, h => by cases h; exact .str _
  | .list ds, _, h => by cases h with | lst h1 _ h2 => exact .lst (.of h1) (OdAll.dp h2)
  | .tuple ds, _, h => by cases h with | tup h1 h2 => exact .tup (.of h1) (OdAll.dp h2)
  | .dict _, _, h => by cases h
theorem OdAll.dp {K : PySem.W.Frag} : ∀ {ds : List PyData} {vs : List V}, OdAll f H vs ds → DpAll K H vs ds
  | [], _, h => by cases h; exact .nil
  | d :: ds, _, h => by cases h with | cons h1 h2 => exact .cons (OdV.dp h1) (OdAll.dp h2)
end
mutual
theorem OdV.ke (k : Ke f H H') : ∀ {d : PyData} {v : V}, OdV f H v d → OdV f H' v d
  | .none, _, h => by cases h; exact .non
  | .bool _, _, h => by cases h; exact .bl _
  | .int _, _, h => by cases h; exact .int _
  | .str _, _, h => by cases h; exact .str _
  | .list ds, _, h => by cases h with | lst h1 n h2 => exact .lst (k.lst h1 n) n (OdAll.ke k h2)
  | .tuple ds, _, h => by cases h with | tup h1 h2 => exact .tup (k.tups _ _ h1) (OdAll.ke k h2)
  | .dict _, _, h => by cases h
theorem OdAll.ke (k : Ke f H H') : ∀ {ds : List PyData} {vs : List V}, OdAll f H vs ds → OdAll f H' vs ds
  | [], _, h => by cases h; exact .nil
  | d :: ds, _, h => by cases h with | cons h1 h2 => exact .cons (OdV.ke k h1) (OdAll.ke k h2)
end
theorem OdAll.len : ∀ {vs : List V} {ds : List PyData}, OdAll f H vs ds → vs.length = ds.length
  | [], _, h => by cases h; rfl
  | v :: vs, _, h => by cases h with | cons h1 h2 => rw [List.length_cons, List.length_cons, OdAll.len h2]
theorem OdAll.at : ∀ {vs : List V} {ds : List PyData} {i : Nat} {v : V}, OdAll f H vs ds → vs[i]? = some v → ∃ d, ds[i]? = some d ∧ OdV f H v d
  | [], _, _, _, _, e => by simp at e
  | v :: vs, _, 0, _, h, e => by
    cases h with
    | cons h1 h2 =>
      cases e
      exact ⟨_, rfl, h1⟩
  | v :: vs, _, i + 1, _, h, e => by
    cases h with
    | cons h1 h2 => exact OdAll.at (vs := vs) (i := i) h2 (by simpa using e)
theorem OdAll.cat : ∀ {vs us : List V} {ds es : List PyData}, OdAll f H vs ds → OdAll f H us es → OdAll f H (vs ++ us) (ds ++ es)
  | [], _, _, _, h, g => by cases h; exact g
  | v :: vs, _, _, _, h, g => by cases h with | cons h1 h2 => exact .cons h1 (OdAll.cat h2 g)
theorem OdAll.one {v : V} {d : PyData} (h : OdV f H v d) : OdAll f H [v] [d] := .cons h .nil
theorem OdAll.take : ∀ {vs : List V} {ds : List PyData} (n : Nat), OdAll f H vs ds → OdAll f H (vs.take n) (ds.take n)
  | _, _, 0, _ => by rw [List.take_zero, List.take_zero]; exact .nil
  | [], _, n + 1, h => by cases h; exact .nil
  | v :: vs, _, n + 1, h => by cases h with | cons h1 h2 => exact .cons h1 (OdAll.take n h2)
theorem OdAll.drop : ∀ {vs : List V} {ds : List PyData} (n : Nat), OdAll f H vs ds → OdAll f H (vs.drop n) (ds.drop n)
  | _, _, 0, h => by rw [List.drop_zero, List.drop_zero]; exact h
  | [], _, n + 1, h => by cases h; exact .nil
  | v :: vs, _, n + 1, h => by cases h with | cons h1 h2 => exact OdAll.drop n h2
theorem OdAll.rev : ∀ {vs : List V} {ds : List PyData}, OdAll f H vs ds → OdAll f H vs.reverse ds.reverse
  | [], _, h => by cases h; exact .nil
  | v :: vs, _, h => by
    cases h with
    | cons h1 h2 =>
      rw [List.reverse_cons, List.reverse_cons]
      exact (OdAll.rev h2).cat (.one h1)
theorem od_ints : ∀ ns : List Int, OdAll f H (ns.map V.int) (ns.map PyData.int)
  | [] => .nil
  | n :: r => .cons (.int n) (od_ints r)
/-! ### what anything is -/
def tyD : PyData → String
  | .none => "NoneType" | .bool _ => "bool" | .int _ => "int" | .str _ => "str" | .list _ => "list" | .tuple _ => "tuple" | .dict _ => "dict"
theorem OdV.ty {K : PySem.W.Frag} {d : PyData} {v : V} (h : OdV f H v d) : TyX K H v (.type (tyD d)) := by
  cases h with
  | non => exact .base .non
  | bl b => exact .base (.bl b)
  | int i => exact .base (.int i)
  | str x => exact .base (.str x)
  | lst h1 _ _ => exact .base (.lst h1)
  | tup h1 _ => exact .base (.tup h1)
def whD : PyData → Bool
  | .int _ => true
  | _ => false
def tuD : PyData → Bool
  | .tuple _ => true
  | _ => false
def numD : PyData → Int → Bool
  | .int n, m => decide (0 ≤ n) && decide (n < m)
  | _, _ => false
/-! ### small data, to be shown -/
structure Sm (B : Nat) (d : PyData) : Prop where
  sh : d.showable = true
  nd : d.hasDict = false
  dp : d.depth ≤ 6
  sz : d.shown.length ≤ B
structure SmAll (B : Nat) (ds : List PyData) : Prop where
  sh : PyData.showableAll ds = true
  nd : PyData.hasDictAll ds = false
  dp : PyData.depthAll ds ≤ 5
  sz : ∀ x ∈ PyData.shownAll ds, x.length ≤ B
theorem SmAll.nil {B : Nat} : SmAll B [] := ⟨rfl, rfl, by decide, fun _ h => nomatch h⟩
theorem SmAll.cons {B : Nat} {d : PyData} {ds : List PyData} (h : Sm B d) (h5 : d.depth ≤ 5) (t : SmAll B ds) : SmAll B (d :: ds) := by
  refine ⟨?_, ?_, ?_, fun x hx => ?_⟩
  · show (PyData.showable d && PyData.showableAll ds) = true
    rw [h.sh, t.sh]
    rfl
  · show (PyData.hasDict d || PyData.hasDictAll ds) = false
    rw [h.nd, t.nd]
    rfl
  · exact Nat.max_le.mpr ⟨h5, t.dp⟩
  · rcases List.mem_cons.mp hx with e | e
    · rw [e]
      exact h.sz
    · exact t.sz x e
theorem shownAll_len : ∀ ds : List PyData, (PyData.shownAll ds).length = ds.length
  | [] => rfl
  | _ :: r => congrArg (· + 1) (shownAll_len r)
theorem sum_le {B : Nat} : ∀ {l : List Nat}, (∀ x ∈ l, x ≤ B) → l.sum ≤ B * l.length
  | [], _ => Nat.zero_le _
  | x :: r, h => by
    have h1 := h x List.mem_cons_self
    have h2 := sum_le (l := r) fun y hy => h y (List.mem_cons_of_mem _ hy)
    rw [List.sum_cons, List.length_cons, Nat.mul_add]
    omega
theorem SmAll.sum {B : Nat} {ds : List PyData} (h : SmAll B ds) : ((PyData.shownAll ds).map (·.length)).sum ≤ B * ds.length := by
  have := sum_le (B := B) (l := (PyData.shownAll ds).map (·.length)) fun x hx => by
    obtain ⟨y, hy, rfl⟩ := List.mem_map.mp hx
    exact h.sz y hy
  rw [List.length_map, shownAll_len] at this
  exact this
theorem SmAll.list {B n B' : Nat} {ds : List PyData} (h : SmAll B ds) (l : ds.length ≤ n) (hb : B * n + 2 * n + 3 ≤ B') : Sm B' (.list ds) := by
  have e := listText_len_le (PyData.shownAll ds)
  have s := h.sum
  rw [shownAll_len] at e
  have m : B * ds.length ≤ B * n := Nat.mul_le_mul_left _ l
  exact ⟨h.sh, h.nd, by show PyData.depthAll ds + 1 ≤ 6; have := h.dp; omega, by show (listText (PyData.shownAll ds)).length ≤ B'; omega⟩
theorem SmAll.tuple {B n B' : Nat} {ds : List PyData} (h : SmAll B ds) (l : ds.length ≤ n) (hb : B * n + 2 * n + 3 ≤ B') : Sm B' (.tuple ds) := by
  have e := tupleText_len_le (PyData.shownAll ds)
  have s := h.sum
  rw [shownAll_len] at e
  have m : B * ds.length ≤ B * n := Nat.mul_le_mul_left _ l
  exact ⟨h.sh, h.nd, by show PyData.depthAll ds + 1 ≤ 6; have := h.dp; omega, by show (tupleText (PyData.shownAll ds)).length ≤ B'; omega⟩
theorem SmAll.cat {B : Nat} : ∀ {ds es : List PyData}, SmAll B ds → SmAll B es → SmAll B (ds ++ es)
  | [], _, _, g => g
  | d :: r, es, h, g => by
    have hs := h.sh
    have hn := h.nd
    have hd := h.dp
    have hz := h.sz
    have hs' : (PyData.showable d && PyData.showableAll r) = true := hs
    have hn' : (PyData.hasDict d || PyData.hasDictAll r) = false := hn
    rw [Bool.and_eq_true] at hs'
    rw [Bool.or_eq_false_iff] at hn'
    have hd' : Nat.max (PyData.depth d) (PyData.depthAll r) ≤ 5 := hd
    have z := Nat.max_le.mp hd'
    have hr : SmAll B r := ⟨hs'.2, hn'.2, z.2, fun x hx => hz x (List.mem_cons_of_mem _ hx)⟩
    exact SmAll.cons ⟨hs'.1, hn'.1, by omega, hz _ List.mem_cons_self⟩ z.1 (SmAll.cat hr g)
theorem SmAll.of {B : Nat} : ∀ {ds : List PyData}, (∀ d ∈ ds, Sm B d ∧ d.depth ≤ 5) → SmAll B ds
  | [], _ => .nil
  | d :: r, h => SmAll.cons (h d List.mem_cons_self).1 (h d List.mem_cons_self).2 (SmAll.of fun x hx => h x (List.mem_cons_of_mem _ hx))
theorem SmAll.mem {B : Nat} : ∀ {ds : List PyData}, SmAll B ds → ∀ d ∈ ds, Sm B d ∧ d.depth ≤ 5
  | [], _, d, hd => nomatch hd
  | e :: r, h, d, hd => by
    have hs' : (PyData.showable e && PyData.showableAll r) = true := h.sh
    have hn' : (PyData.hasDict e || PyData.hasDictAll r) = false := h.nd
    rw [Bool.and_eq_true] at hs'
    rw [Bool.or_eq_false_iff] at hn'
    have hd' : Nat.max (PyData.depth e) (PyData.depthAll r) ≤ 5 := h.dp
    have z := Nat.max_le.mp hd'
    rcases List.mem_cons.mp hd with u | u
    · rw [u]
      exact ⟨⟨hs'.1, hn'.1, by omega, h.sz _ List.mem_cons_self⟩, z.1⟩
    · exact SmAll.mem (ds := r) ⟨hs'.2, hn'.2, z.2, fun x hx => h.sz x (List.mem_cons_of_mem _ hx)⟩ d u
theorem Sm.mono {B B' : Nat} {d : PyData} (h : Sm B d) (l : B ≤ B') : Sm B' d := ⟨h.sh, h.nd, h.dp, Nat.le_trans h.sz l⟩
theorem small_ints : ∀ n : Fin 130, PyData.showable (.int ((n.val : Int) - 60)) = true ∧ (PyData.shown (.int ((n.val : Int) - 60))).length ≤ 3 := by decide +kernel
theorem sm_int {n : Int} (h0 : -60 ≤ n) (h1 : n < 70) : Sm 3 (.int n) := by
  have := small_ints ⟨(n + 60).toNat, by omega⟩
  rw [show (((n + 60).toNat : Nat) : Int) - 60 = n by omega] at this
  exact ⟨this.1, rfl, by show 0 ≤ 6; decide, this.2⟩
theorem OdV.un {g : Addr → Prop} (h : ∀ a, g a → f a) : ∀ {d : PyData} {v : V}, OdV f H v d → OdV g H v d := fun {d v} => OdV.rec (motive_1 := fun v d _ => OdV g H v d) (motive_2 := fun vs ds _ => OdAll g H vs ds) .non .bl .int .str (fun h1 n _ ih => .lst h1 (fun z => n (h _ z)) ih) (fun h1 _ ih => .tup h1 ih) .nil (fun _ _ i1 i2 => .cons i1 i2)
theorem OdAll.un {g : Addr → Prop} (h : ∀ a, g a → f a) : ∀ {ds : List PyData} {vs : List V}, OdAll f H vs ds → OdAll g H vs ds
  | [], _, x => by cases x; exact .nil
  | _ :: _, _, x => by cases x with | cons h1 h2 => exact .cons (OdV.un h h1) (OdAll.un h h2)
end Od
namespace Tw
open PySem PySem.Spec PyProof.Rows L2 GxR Nw Dr Kp Ev1 Rk Od
open TL (tl len_tl)
/-! ### texts that are drawn -/
structure Zd (mg : Str → Option Value) : Prop where
  z_len : mg "len" = none
  z_str : mg "str" = none
def RwN : Rw → Prop
  | .book n => n ≤ 300
  | .cut i j k => i ≤ 300 ∧ j ≤ 300 ∧ k ≤ 300
section
variable {P : Program} {w : World} {K : PySem.W.Frag} {mg : Str → Option Value} {base : Heap}
theorem RowAt.ke {F : Addr → Prop} {H H' : Hp} {v : V} {r : Rw} (h : RowAt H v r) (k : Ke F H H') : RowAt H' v r := by
  obtain ⟨p, e, h⟩ := h
  exact ⟨p, e, k.tups _ _ h⟩
def mL (R : Addr) (m : Nat) : Hp → Nat := fun H => match H R with
  | some (.lst xs) => m - xs.length
  | _ => 0
theorem mL_lst {R : Addr} {m : Nat} {H : Hp} {xs : List V} (h : H R = some (.lst xs)) : mL R m H = m - xs.length := by
  unfold mL
  rw [h]
abbrev sDro : Stmt := topS 44
theorem scDro : FnScope ["pen", "many", "rows", "row", "one"] ["pen", "many"] (defScope sDro) := ⟨rfl, rfl, rfl, by decide +kernel, rfl, by decide +kernel, by decide +kernel⟩
def spDro : Sp := fun vs H Q _ => ∃ (f c : Addr) (m : Nat) (B : Nat), vs = [.ref f, .int m] ∧ 1 ≤ m ∧ m ≤ 201 ∧ Feed H f c B ∧ B ≤ 2 ^ 27 ∧
  ∀ (R : Addr) (rows : List Rw) H', Feed H' f c (B + 2000) → Ke (· = f) H H' → R ≠ f → RowsL H' R rows → (∀ r ∈ rows, RwN r) → rows.length ≤ 201 → Q (.ref R) H'
theorem ok_dro {f fD : Addr} {fd fdD : FuncData} {k : Nat} (F : Fun K "_law_e_drawn_rows" "_law_e_drawn_rows" sDro f fd) (T : Zd mg)
    (FD : Fun K "_law_e_take" "_law_e_take" sDrw fD fdD) (bD : Binds K fdD ["pen", "many"] []) (gD : mg "_law_e_take" = some (.ref fD)) (GD : FnOk P w K mg base CX0 2 fD fdD ["pen", "many"] spDrw) :
    FnOk P w K mg base CX0 (k + 3) f fd ["pen", "many"] spDro := by
  refine F.ok scDro (fun vs H Q E h => ?_) (fun cdv A outer s H vs Q E hr h => ?_)
  · obtain ⟨f, c, m, B, rfl, _⟩ := h
    rfl
  · obtain ⟨f, c, m, B, rfl, m1, m2, hF, hB, q⟩ := h
    have hr2 : Room 2 _ := hr.mono (by omega)
    refine ⟨_, (Evl.pss_cut (ps_set (i := 2) scDro.nd rfl (.inl rfl) (pe_lstN (pa_cons (pe_tupN (pa_cons pe_str (pa_cons (pe_call GD hr2 (by rfl) gD FD.kp bD .nil pass0 (pa_cons (pv 0) (pa_cons pe_int pa_nil))) pa_nil))) pa_nil)))
      (Evl.pss_cut (ps_while PassesOwn.never (pt_cmpR op_lt (pe_callB call_len_seq (by rfl) T.z_len (by decide +kernel) (pa_cons (pv 2) pa_nil)) (pv 1) (nomark _)) (Evl.pss_cut (ps_set (i := 3) scDro.nd rfl (.inl rfl) (pe_tupN (pa_cons pe_str (pa_cons (pe_ix ix_list (pe_lstN (pa_cons pe_int (pa_cons pe_int (pa_cons (pe_call GD hr2 (by rfl) gD FD.kp bD .nil pass0 (pa_cons (pv 0) (pa_cons pe_int pa_nil))) pa_nil)))) (pe_call GD hr2 (by rfl) gD FD.kp bD .nil pass0 (pa_cons (pv 0) (pa_cons pe_int pa_nil))) (fun _ _ => rfl)) pa_nil))))
      (Evl.pss_cut (ps_if (pt_cmpR op_gt (pe_call GD hr2 (by rfl) gD FD.kp bD .nil pass0 (pa_cons (pv 0) (pa_cons pe_int pa_nil))) pe_int (nomark _)) (Evl.pss_cut (ps_set (i := 4) scDro.nd rfl (.inl rfl) (pe_ix ix_list (pe_lstN (pa_cons (pe_op op_sub (pe_callB call_len_seq (by rfl) T.z_len (by decide +kernel) (pa_cons (pv 2) pa_nil)) pe_int) (pa_cons (pe_call GD hr2 (by rfl) gD FD.kp bD .nil pass0 (pa_cons (pv 0) (pa_cons (pe_callB call_len_seq (by rfl) T.z_len (by decide +kernel) (pa_cons (pv 2) pa_nil)) pa_nil))) pa_nil))) (pe_call GD hr2 (by rfl) gD FD.kp bD .nil pass0 (pa_cons (pv 0) (pa_cons pe_int pa_nil))) (fun _ _ => rfl)))
      (pss_one (ps_set (i := 3) scDro.nd rfl (.inl rfl) (pe_tupN (pa_cons pe_str (pa_cons (pv 4) (pa_cons (pe_call GD hr2 (by rfl) gD FD.kp bD .nil pass0 (pa_cons (pv 0) (pa_cons (pe_callB call_len_seq (by rfl) T.z_len (by decide +kernel) (pa_cons (pv 2) pa_nil)) pa_nil))) (pa_cons (pe_op op_add pe_int (pe_call GD hr2 (by rfl) gD FD.kp bD .nil pass0 (pa_cons (pv 0) (pa_cons pe_int pa_nil)))) pa_nil)))))))) pss_nil)
      (pss_one (ps_expr (pe_bm PySem.F.plainAttrs_list PySem.F.slot_list_append PySem.F.type_list_append mt_append (pv 2) (pa_cons (pv 3) pa_nil)))))))
      (pss_one (ps_ret (pv 2))))), ?_⟩
    refine Evl.q_cut (M := fun σ' H' => ∃ (R : Addr) (r : Rw), σ' = [some (.ref f), some (.int m), some (.ref R), none, none] ∧ Feed H' f c (B + 1) ∧ Ke (· = f) H H' ∧ R ≠ f ∧ R ≠ c ∧ Frs H R ∧ RowsL H' R [r] ∧ RwN r) ?_ ?_
    · refine ⟨_, rfl, f, c, 16, B, rfl, by decide, by decide, hF, by omega, fun d H1 d0 d1 F1 k1 => ?_⟩
      obtain ⟨n, rfl⟩ : ∃ n : Nat, d = (n : Int) := ⟨d.toNat, by omega⟩
      refine ⟨by show 2 ≤ sizeLine; decide, fun p H2 np s2 hp _ => ⟨by show 1 ≤ sizeLine; decide, fun R H3 nR s3 hR _ => ?_⟩⟩
      have F2 := F1.same s2
      exact ⟨R, .book n, rfl, F2.same s3, k1.trans (.same (s2.trans s3)), F2.nf nR, F2.nc nR, .ke (k1.trans (.same s2)) F2 (.of nR), ⟨_, hR, All2.snoc (xs := []) (ys := []) .nil ⟨p, rfl, s3 _ _ hp⟩⟩, show n ≤ 300 by omega⟩
    rintro σ' H1 ⟨R, r, rfl, F1, k1, nRf, nRc, frR, hR1, b1⟩
    refine Evl.q_cut (M := fun σ' H' => ∃ (y3 y4 : Option V) (rows : List Rw), σ' = [some (.ref f), some (.int m), some (.ref R), y3, y4] ∧ Feed H' f c (B + 1 + 8 * rows.length) ∧ Ke (· = f) H H' ∧ RowsL H' R rows ∧ (∀ r ∈ rows, RwN r) ∧ 1 ≤ rows.length ∧ rows.length ≤ m) ?_ ?_
    · refine while_by (fun σ H' => ∃ (y3 y4 : Option V) (rows : List Rw), σ = [some (.ref f), some (.int m), some (.ref R), y3, y4] ∧ Feed H' f c (B + 1 + 8 * rows.length) ∧ Ke (· = f) H H' ∧ RowsL H' R rows ∧ (∀ r ∈ rows, RwN r) ∧ 1 ≤ rows.length ∧ rows.length ≤ m) (fun _ H' => mL R m H') ?_ ?_ ?_
      · exact ⟨none, none, [r], rfl, F1.mono (by omega), k1, hR1, fun x hx => by rw [List.mem_singleton.mp hx]; exact b1, Nat.le_refl _, m1⟩
      · clear hR1 b1 k1 F1 H1
        rintro σ H1 ⟨y3, y4, rows, rfl, F1, k1, ⟨vs, hR, aR⟩, ba, l1, lm⟩
        have lr := aR.1
        refine ⟨_, rfl, R, _, rfl, .inl (.of hR), _, rfl, _, _, rfl, rfl, _, rfl, ite2 (fun e => ?_) (fun e => ?_)⟩
        · have e : ((vs.length : Nat) : Int) < m := of_decide_eq_true e
          -- a claim of the book
          refine Evl.q_cut (M := fun σ' H' => ∃ (p : Addr) (r : Rw), σ' = [some (.ref f), some (.int m), some (.ref R), some (.ref p), y4] ∧ Feed H' f c (B + 1 + 8 * rows.length + 2) ∧ Ke (· = f) H1 H' ∧ H' p = some (.tup r.vs) ∧ RwN r) ?_ ?_
          · refine ⟨_, rfl, f, c, 16, _, rfl, by decide, by decide, F1, by omega, fun d H2 d0 d1 F2 k2 => ?_⟩
            refine ⟨by show 3 ≤ sizeLine; decide, fun Lk H3 nL s3 hL _ => ⟨_, rfl, f, c, 3, _, rfl, by decide, by decide, F2.same s3, by omega, fun d' H4 d0' d1' F4 k4 => ?_⟩⟩
            obtain ⟨n, rfl⟩ : ∃ n : Nat, d = (n : Int) := ⟨d.toNat, by omega⟩
            have hL4 := k4.lst hL ((F2.nf nL))
            have key : ∃ (j : Nat) (a : Nat), d' = (j : Int) ∧ [V.int 0, V.int 15, V.int n][j]? = some (.int (a : Nat)) ∧ a ≤ 300 := by
              rcases (by omega : d' = 0 ∨ d' = 1 ∨ d' = 2) with rfl | rfl | rfl
              · exact ⟨0, 0, rfl, rfl, by decide⟩
              · exact ⟨1, 15, rfl, rfl, by decide⟩
              · exact ⟨2, n, rfl, rfl, by omega⟩
            obtain ⟨j, a, rfl, ea, la⟩ := key
            refine ⟨Lk, _, _, _, rfl, rfl, .of hL4, at_of (j := j) rfl ea, by show 2 ≤ sizeLine; decide, fun p H5 np s5 hp _ => ?_⟩
            exact ⟨p, .book a, rfl, F4.same s5, k2.trans ((Ke.same s3).trans (k4.trans (.same s5))), hp, la⟩
          rintro σ' H2 ⟨p, r, rfl, F2, k2, hp, br⟩
          have hR2 := k2.lst hR nRf
          -- a cut
          refine Evl.q_cut (M := fun σ' H' => ∃ (p : Addr) (y4 : Option V) (r : Rw), σ' = [some (.ref f), some (.int m), some (.ref R), some (.ref p), y4] ∧ Feed H' f c (B + 1 + 8 * rows.length + 7) ∧ Ke (· = f) H1 H' ∧ H' p = some (.tup r.vs) ∧ RwN r) ?_ ?_
          · refine ⟨_, rfl, f, c, 3, _, rfl, by decide, by decide, F2, by omega, fun d H3 d0 d1 F3 k3 => ?_⟩
            refine ⟨_, _, rfl, rfl, _, rfl, ite2 (fun e1 => ?_) (fun e1 => ?_)⟩
            · have hR3 := k3.lst hR2 nRf
              refine Evl.q_cut (M := fun σ' H' => ∃ (a : Nat), σ' = [some (.ref f), some (.int m), some (.ref R), some (.ref p), some (.int a)] ∧ Feed H' f c (B + 1 + 8 * rows.length + 5) ∧ Ke (· = f) H3 H' ∧ a ≤ 300) ?_ ?_
              · refine ⟨_, rfl, R, _, rfl, .inl (.of hR3), _, _, rfl, rfl, _, rfl, _, rfl, R, _, rfl, .inl (.of hR3), f, c, _, _, rfl, by omega, by omega, F3, by omega, fun d' H4 d0' d1' F4 k4 => ?_⟩
                refine ⟨by show 2 ≤ sizeLine; decide, fun Lk H5 nL s5 hL _ => ⟨_, rfl, f, c, 2, _, rfl, by decide, by decide, F4.same s5, by omega, fun d2 H6 d20 d21 F6 k6 => ?_⟩⟩
                have hL6 := k6.lst hL ((F4.nf nL))
                obtain ⟨n, rfl⟩ : ∃ n : Nat, d' = (n : Int) := ⟨d'.toNat, by omega⟩
                have key : ∃ (j : Nat) (a : Nat), d2 = (j : Int) ∧ [V.int (((vs.length : Nat) : Int) - 1), V.int n][j]? = some (.int (a : Nat)) ∧ a ≤ 300 := by
                  rcases (by omega : d2 = 0 ∨ d2 = 1) with rfl | rfl
                  · exact ⟨0, vs.length - 1, rfl, by show some (V.int _) = _; rw [show ((vs.length : Nat) : Int) - 1 = ((vs.length - 1 : Nat) : Int) by omega], by omega⟩
                  · exact ⟨1, n, rfl, rfl, by omega⟩
                obtain ⟨j, a, rfl, ea, la⟩ := key
                exact ⟨Lk, _, _, _, rfl, rfl, .of hL6, at_of (j := j) rfl ea, a, rfl, F6, k4.trans ((Ke.same s5).trans k6), la⟩
              rintro σ' H4 ⟨a, rfl, F4, k4, la⟩
              have hR4 := k4.lst hR3 nRf
              refine ⟨_, rfl, _, rfl, _, rfl, R, _, rfl, .inl (.of hR4), f, c, _, _, rfl, by omega, by omega, F4, by omega, fun d' H5 d0' d1' F5 k5 => ?_⟩
              refine ⟨_, rfl, f, c, 8, _, rfl, by decide, by decide, F5, by omega, fun d2 H6 d20 d21 F6 k6 => ?_⟩
              obtain ⟨b, rfl⟩ : ∃ n : Nat, d' = (n : Int) := ⟨d'.toNat, by omega⟩
              obtain ⟨g, rfl⟩ : ∃ n : Nat, d2 = (n : Int) := ⟨d2.toNat, by omega⟩
              refine ⟨_, _, rfl, rfl, by show 4 ≤ sizeLine; decide, fun p2 H7 np s7 hp2 _ => ?_⟩
              refine ⟨p2, _, .cut a b (1 + g), rfl, F6.same s7, k2.trans (k3.trans (k4.trans (k5.trans (k6.trans (.same s7))))), ?_, ⟨la, by omega, by omega⟩⟩
              rw [hp2]
              show some (HO.tup [V.str "cut", V.int a, V.int b, V.int (1 + (g : Int))]) = some (HO.tup [V.str "cut", V.int a, V.int b, V.int ((1 + g : Nat) : Int)])
              rw [show (1 : Int) + (g : Int) = ((1 + g : Nat) : Int) by omega]
            · exact ⟨p, y4, r, rfl, F3.mono (by omega), k2.trans k3, k3.tups _ _ hp, br⟩
          clear hR2 br hp k2 F2 H2 r p y4
          rintro σ' H2 ⟨p, y4, r, rfl, F2, k2, hp, br⟩
          have hR2 := k2.lst hR nRf
          refine ⟨_, rfl, .inl ⟨rfl, _, .of hR2⟩, _, rfl, R, _, _, rfl, rfl, hR2, small1000 (by omega), ?_⟩
          refine ⟨⟨_, _, rows ++ [r], rfl, (F2.upd nRf nRc).mono (by rw [List.length_append, List.length_singleton]; omega), (k1.trans k2).write frR hR2, ⟨_, upd_same, All2.snoc (aR.imp fun _ _ h => (h.ke k2).wr hR2) (RowAt.wr ⟨p, rfl, hp⟩ hR2)⟩, fun x hx => ?_, by rw [List.length_append, List.length_singleton]; omega, by rw [List.length_append, List.length_singleton]; omega⟩, ?_⟩
          · rcases List.mem_append.mp hx with z | z
            · exact ba x z
            · rw [List.mem_singleton.mp z]
              exact br
          · rw [mL_lst upd_same, mL_lst hR, List.length_append, List.length_singleton]
            omega
        · exact ⟨y3, y4, rows, rfl, F1, k1, ⟨vs, hR, aR⟩, ba, l1, lm⟩
      · rintro σ H0 Q1 Q2 hq ⟨v, e, p, ys, e1, e2, w, e3, i, j, e5, e6, b, e7, z⟩
        exact ⟨v, e, p, ys, e1, e2, w, e3, i, j, e5, e6, b, e7, hq _ _ z⟩
    clear hR1 b1 k1 F1 H1
    rintro σ' H1 ⟨y3, y4, rows, rfl, F1, k1, hR, ba, l1, lm⟩
    exact ⟨_, rfl, q R rows H1 (F1.mono (by omega)) k1 nRf hR ba (by omega)⟩
end
end Tw
namespace Tw
open PySem PySem.Spec PyProof.Rows L2 GxR Nw Dr Kp
open TL (tl tl_num numL numL_digits numL_len numL_ne numL_val numL_free ext_tl len_tl)
/-! ### numbers told by words, those below 0 too (k81, k80) -/
theorem numT_neg (n : Nat) : tl (numT (-((n + 1 : Nat) : Int))) = 45 :: numL (n + 1) := by
  unfold numT
  rw [TL.tl_ofString]
  show (("-" ++ Nat.repr (n + 1) : String)).toList.map Char.toNat = _
  rw [String.toList_append, List.map_append, Nat.toList_repr]
  rfl
theorem negT_get {n : Nat} (h : n < 999) : ∃ f : Str, Txt.removeprefix (numT (-((n + 1 : Nat) : Int))) "-" = f ∧ Txt.isascii f = true ∧ Txt.isdigit f = true ∧ f.length ≤ 3 ∧ intText? (numT (-((n + 1 : Nat) : Int))) = some (-((n + 1 : Nat) : Int)) ∧ (numT (-((n + 1 : Nat) : Int))).length ≤ 4 := by
  have e := numT_neg n
  have l3 := numL_len (n := n + 1) (k := 3) (by decide) (by omega)
  have ad := numL_digits (n + 1)
  have ne := numL_ne (n + 1)
  refine ⟨_, rfl, ?_⟩
  rcases rp_cases (numT (-((n + 1 : Nat) : Int))) with ⟨cs, z, zf⟩ | ⟨z, _⟩
  · obtain rfl : cs = numL (n + 1) := (List.cons.inj (z.symm.trans e)).2
    obtain ⟨a1, a2⟩ := all_figs (by rw [zf]; exact ad) (by rw [zf]; exact ne)
    refine ⟨a1, a2, by rw [len_tl, zf]; exact l3, ?_, by rw [len_tl, e, List.length_cons]; omega⟩
    rw [PySem.intText_neg e ad ne (by rw [len_tl, e, List.length_cons]; omega), numL_val]
  · exact absurd e (z _)
/-- exactly: the number that a word tells, or None -/
def spNoz : Sp := fun vs H Q _ => ∃ x : Str, vs = [.str x] ∧ x.length ≤ 100000 ∧ (∀ i : Int, -1000 < i → i < 1000 → x = numT i → Q (.int i) H) ∧ ((∀ i : Int, -1000 < i → i < 1000 → x ≠ numT i) → Q .non H)
section
variable {P : Program} {w : World} {K : PySem.W.Frag} {mg : Str → Option Value} {base : Heap}
theorem ok_noz {f : Addr} {fd : FuncData} {k : Nat} {tk : Tok} (F : Fun K "number_or_none" "number_or_none" sNon f fd) (T : Zn mg) (M3 : mg "MOST_FIGURES" = some (.int 3 tk)) : FnOk P w K mg base CX0 (k + 1) f fd ["word"] spNoz := by
  refine F.ok scNon (fun vs H Q E h => ?_) (fun cdv A outer s H vs Q E hr h => ?_)
  · obtain ⟨x, rfl, _⟩ := h
    rfl
  · obtain ⟨x, rfl, lx, q1, q2⟩ := h
    refine ⟨_, (Evl.pss_cut (ps_set (i := 1) scNon.nd rfl (.inl rfl) (pe_m1 PySem.F.slot_str_removeprefix PySem.F.type_str_removeprefix mt_removeprefix (pv 0) pe_str))
      (Evl.pss_cut (ps_if (PW.pt (pw_or (pt_not (pt_val (pe_m0 PySem.F.slot_str_isascii PySem.F.type_str_isascii mt_isascii (pv 1)))) (pw_or (pt_not (pt_val (pe_m0 PySem.F.slot_str_isdigit PySem.F.type_str_isdigit mt_isdigit (pv 1)))) (pw_or1 (pt_cmpR op_gt (pe_callB call_len_str (by rfl) T.z_len (by decide +kernel) (pa_cons (pv 1) pa_nil)) (pe_glob (v := .int 3) rfl M3 ⟨_, rfl⟩) (nomark _)))))) (pss_one (ps_ret pe_non)) pss_nil)
      (pss_cons (ps_set (i := 2) scNon.nd rfl (.inl rfl) (pe_callTy call_int_str (by rfl) T.z_int (by decide +kernel) (pa_cons (pv 0) pa_nil)))
      (pss_one (ps_ret (pe_ifExp (pt_cmpR op_eq (pe_callTy call_str_int (by rfl) T.z_str (by decide +kernel) (pa_cons (pv 2) pa_nil)) (pv 0) (nomark _)) (pv 2) pe_non)))))), ?_⟩
    refine Evl.q_cut (M := fun σ' H' => σ' = [some (.str x), some (.str (Txt.removeprefix x "-")), none] ∧ H' = H) ?_ ?_
    · exact ⟨_, rfl, ⟨_, rfl⟩, _, _, rfl, rfl, Nat.le_trans lx (by decide), rfl, rfl⟩
    rintro σ' G ⟨rfl, rfl⟩
    by_cases c : ∃ n : Nat, n < 1000 ∧ x = numT n
    · obtain ⟨n, hn, rfl⟩ := c
      obtain ⟨e1, e2, e3, e4, e5⟩ := numT_get hn
      have q := q1 (n : Int) (by omega) (by omega) rfl
      rw [e1]
      refine Evl.q_cut (M := fun σ' H' => σ' = [some (.str (numT n)), some (.str (numT n)), none] ∧ H' = G) ?_ ?_
      · refine ⟨_, rfl, ⟨_, rfl⟩, _, rfl, rfl, trivial, _, rfl, ite2 (fun e => ?_) (fun _ => ?_)⟩
        · rw [e2] at e
          cases e
        refine ⟨_, rfl, ⟨_, rfl⟩, _, rfl, rfl, trivial, _, rfl, ite2 (fun e => ?_) (fun _ => ?_)⟩
        · rw [e3] at e
          cases e
        refine ⟨_, rfl, _, rfl, Nat.le_trans e4 (by decide), _, _, rfl, rfl, _, rfl, ite2 (fun e => ?_) (fun _ => ⟨rfl, rfl⟩)⟩
        have e : (3 : Int) < ((numT n).length : Nat) := of_decide_eq_true e
        omega
      rintro σ' H' ⟨rfl, rfl⟩
      refine ⟨_, rfl, _, _, rfl, e5, Nat.le_trans e4 (by decide), ?_⟩
      refine ⟨_, rfl, (n : Int), rfl, lg0 hn, _, rfl, rfl, _, rfl, ite2 (fun e => ⟨_, rfl, q⟩) (fun e => ?_)⟩
      exact absurd (decide_eq_true rfl) e
    · have no : ∀ n : Nat, n < 1000 → x ≠ numT n := fun n hn e => c ⟨n, hn, e⟩
      by_cases cn : ∃ n : Nat, n < 999 ∧ x = numT (-((n + 1 : Nat) : Int))
      · obtain ⟨n, hn, rfl⟩ := cn
        obtain ⟨g, e1, e2, e3, e4, e5, e6⟩ := negT_get hn
        have q := q1 (-((n + 1 : Nat) : Int)) (by omega) (by omega) rfl
        rw [e1]
        refine Evl.q_cut (M := fun σ' H' => σ' = [some (.str (numT (-((n + 1 : Nat) : Int)))), some (.str g), none] ∧ H' = G) ?_ ?_
        · refine ⟨_, rfl, ⟨_, rfl⟩, _, rfl, rfl, trivial, _, rfl, ite2 (fun e => ?_) (fun _ => ?_)⟩
          · rw [e2] at e
            cases e
          refine ⟨_, rfl, ⟨_, rfl⟩, _, rfl, rfl, trivial, _, rfl, ite2 (fun e => ?_) (fun _ => ?_)⟩
          · rw [e3] at e
            cases e
          refine ⟨_, rfl, _, rfl, Nat.le_trans e4 (by decide), _, _, rfl, rfl, _, rfl, ite2 (fun e => ?_) (fun _ => ⟨rfl, rfl⟩)⟩
          have e : (3 : Int) < ((Str.length g : Nat) : Int) := of_decide_eq_true e
          omega
        rintro σ' H' ⟨rfl, rfl⟩
        refine ⟨_, rfl, _, _, rfl, e5, Nat.le_trans e6 (by decide), ?_⟩
        refine ⟨_, rfl, (-((n + 1 : Nat) : Int)), rfl, by rw [Int.natAbs_neg]; exact lg0 (by omega), _, rfl, rfl, _, rfl, ite2 (fun e => ⟨_, rfl, q⟩) (fun e => ?_)⟩
        exact absurd (decide_eq_true rfl) e
      have qn := q2 fun i i1 i2 e => by
        rcases Int.lt_or_le i 0 with l | l
        · exact cn ⟨(-i).toNat - 1, by omega, by rw [show (-(((-i).toNat - 1 + 1 : Nat) : Int)) = i by omega]; exact e⟩
        · exact no i.toNat (by omega) (by rw [show ((i.toNat : Nat) : Int) = i by omega]; exact e)
      by_cases b1 : Txt.isascii (Txt.removeprefix x "-") = true ∧ Txt.isdigit (Txt.removeprefix x "-") = true ∧ (Txt.removeprefix x "-").length ≤ 3
      · obtain ⟨e2, e3, e4⟩ := b1
        obtain ⟨i, e5, l4, lg, ei, ib⟩ := num_neg rfl e2 e3 e4 no
        refine Evl.q_cut (M := fun σ' H' => σ' = [some (.str x), some (.str (Txt.removeprefix x "-")), none] ∧ H' = G) ?_ ?_
        · refine ⟨_, rfl, ⟨_, rfl⟩, _, rfl, rfl, trivial, _, rfl, ite2 (fun e => ?_) (fun _ => ?_)⟩
          · rw [e2] at e
            cases e
          refine ⟨_, rfl, ⟨_, rfl⟩, _, rfl, rfl, trivial, _, rfl, ite2 (fun e => ?_) (fun _ => ?_)⟩
          · rw [e3] at e
            cases e
          refine ⟨_, rfl, _, rfl, Nat.le_trans e4 (by decide), _, _, rfl, rfl, _, rfl, ite2 (fun e => ?_) (fun _ => ⟨rfl, rfl⟩)⟩
          have e : (3 : Int) < ((Txt.removeprefix x "-").length : Nat) := of_decide_eq_true e
          omega
        rintro σ' H' ⟨rfl, rfl⟩
        refine ⟨_, rfl, _, _, rfl, e5, Nat.le_trans l4 (by decide), ?_⟩
        refine ⟨_, rfl, i, rfl, lg, _, rfl, rfl, _, rfl, ite2 (fun e => ?_) (fun e => qn)⟩
        have e : decide (V.str (numT i) = V.str x) = true := e
        have e := V.str.inj (of_decide_eq_true e)
        have l := ei e
        exact absurd ⟨(-i).toNat - 1, by omega, by rw [show (-(((-i).toNat - 1 + 1 : Nat) : Int)) = i by omega]; exact e.symm⟩ cn
      · refine Evl.q_cut (M := fun _ _ => False) ?_ fun _ _ z => z.elim
        refine ⟨_, rfl, ⟨_, rfl⟩, _, rfl, rfl, trivial, _, rfl, ite2 (fun e => qn) (fun e2 => ?_)⟩
        refine ⟨_, rfl, ⟨_, rfl⟩, _, rfl, rfl, trivial, _, rfl, ite2 (fun e => qn) (fun e3 => ?_)⟩
        refine ⟨_, rfl, _, rfl, ?_, _, _, rfl, rfl, _, rfl, ite2 (fun e => qn) (fun e4 => ?_)⟩
        · exact Nat.le_trans (rp_len x) (Nat.le_trans lx (by decide))
        · exfalso
          have e2 : Txt.isascii (Txt.removeprefix x "-") = true := by
            cases z : Txt.isascii (Txt.removeprefix x "-") with
            | true => rfl
            | false => exact absurd (by rw [z]; rfl) e2
          have e3 : Txt.isdigit (Txt.removeprefix x "-") = true := by
            cases z : Txt.isdigit (Txt.removeprefix x "-") with
            | true => rfl
            | false => exact absurd (by rw [z]; rfl) e3
          have e4 : ¬ (3 : Int) < ((Txt.removeprefix x "-").length : Nat) := fun z => e4 (decide_eq_true z)
          exact b1 ⟨e2, e3, by omega⟩
end
end Tw
namespace Tc
open PySem PySem.Spec PyProof.Rows L2 GxR Nw Dr Kp Tw
open TL (tl)
/-! ### how the words of a book are read (k81, k80) -/
def InR (i : Int) : Prop := -8 ≤ i ∧ i ≤ 8 ∧ i ≠ 0
theorem int_of_numT {i : Int} (h : -999 ≤ i ∧ i ≤ 999) : intText? (numT i) = some i := by
  rcases Int.lt_or_le i 0 with l | l
  · obtain ⟨n, hn, e⟩ : ∃ n : Nat, n < 999 ∧ i = -((n + 1 : Nat) : Int) := ⟨(-i).toNat - 1, by omega, by omega⟩
    obtain ⟨_, _, _, _, _, h5, _⟩ := negT_get hn
    rw [e]
    exact h5
  · obtain ⟨n, rfl⟩ : ∃ n : Nat, i = n := ⟨i.toNat, by omega⟩
    exact (numT_get (by omega)).2.2.2.2
theorem numZ_inj {i j : Int} (hi : -999 ≤ i ∧ i ≤ 999) (hj : -999 ≤ j ∧ j ≤ 999) (e : numT i = numT j) : i = j := by
  have h := int_of_numT hi
  rw [e, int_of_numT hj] at h
  exact (Option.some.inj h).symm
theorem InR.b {i : Int} (h : InR i) : -999 ≤ i ∧ i ≤ 999 := ⟨by have := h.1; omega, by have := h.2.1; omega⟩
theorem numZ_head {i : Int} (h : -999 ≤ i ∧ i ≤ 999) : ∃ c r, tl (numT i) = c :: r ∧ (c = 45 ∨ (48 ≤ c ∧ c ≤ 57)) := by
  rcases Int.lt_or_le i 0 with l | l
  · obtain ⟨n, rfl⟩ : ∃ n : Nat, i = -((n + 1 : Nat) : Int) := ⟨(-i).toNat - 1, by omega⟩
    exact ⟨_, _, numT_neg n, .inl rfl⟩
  · obtain ⟨n, rfl⟩ : ∃ n : Nat, i = n := ⟨i.toNat, by omega⟩
    have ne := TL.numL_ne n
    rw [← numT_tl] at ne
    cases e : tl (numT (n : Int)) with
    | nil => exact absurd e ne
    | cons c r => exact ⟨c, r, rfl, .inr (numT_head rfl c (by rw [e]; exact List.mem_cons_self))⟩
theorem tl_none : tl "none" = [110, 111, 110, 101] := by decide +kernel
theorem num_none {i : Int} (h : InR i) : numT i ≠ "none" := fun e => by
  obtain ⟨c, r, e1, e2⟩ := numZ_head h.b
  rw [e, tl_none] at e1
  have := (List.cons.inj e1).1
  omega
theorem num_str {i : Int} (h : InR i) : numT i ≠ "/" := fun e => by
  obtain ⟨c, r, e1, e2⟩ := numZ_head h.b
  rw [e, tl_str] at e1
  have := (List.cons.inj e1).1
  omega
/-- the says that are read: none yet, the word none, some -/
inductive Cs where
  | no | nil | som (l : List Int)
inductive Cstep (cls : List (List Int)) : Cs → Str → List (List Int) → Cs → Prop
  | none : Cstep cls .no "none" cls .nil
  | first (i : Int) (h : InR i) : Cstep cls .no (numT i) cls (.som [i])
  | stroke0 (h : cls.length < 15) : Cstep cls .nil "/" (cls ++ [[]]) .no
  | stroke (l : List Int) (h : cls.length < 15) : Cstep cls (.som l) "/" (cls ++ [l]) .no
  | next (l : List Int) (i : Int) (h : InR i) (hl : ∀ j ∈ l, j < i) (ho : -i ∉ l) : Cstep cls (.som l) (numT i) cls (.som (l ++ [i]))
theorem Cstep.one {cls a b : List (List Int)} {s p q : Cs} {x : Str} (h : Cstep cls s x a p) (g : Cstep cls s x b q) : a = b ∧ p = q := by
  generalize hx : x = y at g
  cases h with
  | none =>
    cases g with
    | none => exact ⟨rfl, rfl⟩
    | first i h => exact absurd hx.symm (num_none h)
  | first i h =>
    cases g with
    | none => exact absurd hx (num_none h)
    | first j h' =>
      have := numZ_inj h.b h'.b hx
      subst this
      exact ⟨rfl, rfl⟩
  | stroke0 _ => cases g with | stroke0 _ => exact ⟨rfl, rfl⟩
  | stroke l _ =>
    cases g with
    | stroke _ _ => exact ⟨rfl, rfl⟩
    | next _ i h _ _ => exact absurd hx.symm (num_str h)
  | next l i h _ _ =>
    cases g with
    | stroke _ _ => exact absurd hx (num_str h)
    | next _ j h' _ _ =>
      have := numZ_inj h.b h'.b hx
      subst this
      exact ⟨rfl, rfl⟩
inductive Creach (ws : List Str) : Nat → List (List Int) → Cs → Prop
  | zero : Creach ws 0 [] .no
  | succ {n : Nat} {cls cls' : List (List Int)} {s s' : Cs} {x : Str} (h : Creach ws n cls s) (e : ws[n]? = some x) (st : Cstep cls s x cls' s') : Creach ws (n + 1) cls' s'
theorem Creach.le {ws : List Str} {n : Nat} {cls : List (List Int)} {s : Cs} (h : Creach ws n cls s) : n ≤ ws.length := by
  cases h with
  | zero => exact Nat.zero_le _
  | succ h e s =>
    have := (List.getElem?_eq_some_iff.mp e).1
    omega
theorem Creach.one {ws : List Str} : ∀ {n : Nat} {a b : List (List Int)} {s t : Cs}, Creach ws n a s → Creach ws n b t → a = b ∧ s = t
  | 0, _, _, _, _, .zero, .zero => ⟨rfl, rfl⟩
  | n + 1, _, _, _, _, .succ h e s, .succ h' e' s' => by
    obtain ⟨rfl, rfl⟩ := Creach.one h h'
    rw [e] at e'
    cases e'
    exact s.one s'
theorem Creach.back {ws : List Str} : ∀ {n : Nat} {cls : List (List Int)} {s : Cs}, Creach ws n cls s → ∀ m, m < n → ∃ c t x c2 t2, Creach ws m c t ∧ ws[m]? = some x ∧ Cstep c t x c2 t2
  | 0, _, _, .zero, m, h => by omega
  | n + 1, _, _, .succ h e s, m, l => by
    by_cases z : m = n
    · subst z
      exact ⟨_, _, _, _, _, h, e, s⟩
    · exact Creach.back h m (by omega)
/-- the last claim, where there is one -/
def csL : Cs → Option (List Int)
  | .no => none
  | .nil => some []
  | .som l => some l
def Ctold (ws : List Str) (cls : List (List Int)) : Prop := ∃ cls0 s l, csL s = some l ∧ cls = cls0 ++ [l] ∧ Creach ws ws.length cls0 s
def Cbad (ws : List Str) (e : Nat) : Prop := ∃ cls s, Creach ws e cls s ∧ ((∃ x, ws[e]? = some x ∧ ∀ c t, ¬ Cstep cls s x c t) ∨ (e = ws.length ∧ s = .no))
theorem Ctold.one {ws : List Str} {a b : List (List Int)} (h : Ctold ws a) (g : Ctold ws b) : a = b := by
  obtain ⟨a0, s, l, e1, rfl, h⟩ := h
  obtain ⟨b0, t, m, e2, rfl, g⟩ := g
  obtain ⟨rfl, rfl⟩ := h.one g
  rw [e1] at e2
  rw [Option.some.inj e2]
theorem Cbad.told {ws : List Str} {a : List (List Int)} {e : Nat} (h : Ctold ws a) (g : Cbad ws e) : False := by
  obtain ⟨a0, s, l, e1, rfl, h⟩ := h
  obtain ⟨cls, t, g, z⟩ := g
  rcases z with ⟨x, ex, no⟩ | ⟨ee, rfl⟩
  · have lt := (List.getElem?_eq_some_iff.mp ex).1
    obtain ⟨c1, t1, y, c2, t2, h1, h2, h3⟩ := h.back e lt
    obtain ⟨rfl, rfl⟩ := g.one h1
    rw [ex] at h2
    cases h2
    exact no _ _ h3
  · subst ee
    obtain ⟨_, rfl⟩ := g.one h
    cases e1
theorem Cbad.one {ws : List Str} {d e : Nat} (h : Cbad ws d) (g : Cbad ws e) : d = e := by
  have key : ∀ {d e : Nat}, Cbad ws d → Cbad ws e → ¬ d < e := fun {d e} h g l => by
    obtain ⟨cls, s, h, z⟩ := h
    obtain ⟨cls', s', g, _⟩ := g
    obtain ⟨c1, t1, y, c2, t2, h1, h2, h3⟩ := g.back d l
    obtain ⟨rfl, rfl⟩ := h.one h1
    rcases z with ⟨x, ex, no⟩ | ⟨ee, _⟩
    · rw [ex] at h2
      cases h2
      exact no _ _ h3
    · have := g.le
      omega
  have := key h g
  have := key g h
  omega
end Tc
namespace Se
open PySem PySem.Spec PyProof.Rows L2 GxR Nw Dr Kp
/-- a def of the text whose code object stands at c -/
structure FunC (K : PySem.W.Frag) (x qual : Str) (st : Stmt) (f c : Addr) (fd : FuncData) : Prop where
  ex : ∃ (oc : Value) (od : Option Addr) (kV doc pm : Value) (an : Option Addr) (ct : Value) (osl : Array (Option Value)), fd = PySem.W.fnOf x qual (defArgs st) (defBody st) (defScope st) .none kV doc pm an (.ref c) ct ∧ K.lookup f = some ⟨oc, od, .func fd, osl⟩ ∧ PySem.W.codeIn K (.ref c) qual = true
  kp : PySem.W.keepIn K (.ref f) = true
section
variable {P : Program} {w : World} {K : PySem.W.Frag} {mg : Str → Option Value} {base : Heap}
theorem FunC.fn {x qual : Str} {st : Stmt} {f c : Addr} {fd : FuncData} (F : FunC K x qual st f c fd) : Fun K x qual st f fd := by
  obtain ⟨oc, od, kV, doc, pm, an, ct, osl, e, l, cd⟩ := F.ex
  exact ⟨⟨oc, od, kV, doc, pm, an, .ref c, ct, osl, e, l, cd⟩, F.kp⟩
theorem FunC.ok {x qual : Str} {st : Stmt} {f c : Addr} {fd : FuncData} {N ps : List Str} {k : Nat} {sp : Sp} (F : FunC K x qual st f c fd) (S : FnScope N ps (defScope st)) (len : ∀ vs H Q E, sp vs H Q E → vs.length = ps.length)
    (body : ∀ (A : Around) (outer : List Env) (s : Shared) (H : Hp) (vs : List V) (Q : VK) (E : XK), Room k (A.deeper (envOfC qual (defScope st) s.heap.objs.size f (.ref c))) → sp vs H Q E →
      ∃ t, PSs (cxOf CX0 P w K mg base N qual (defScope st) f (.ref c) A outer s H E).nox (defBody st) t ∧ t { nx := fun _ H' => Q .non H', rt := Q } (start N vs) H) : FnOk P w K mg base CX0 (k + 1) f fd ps sp := by
  obtain ⟨oc, od, kV, doc, pm, an, ct, osl, rfl, lk, hcd⟩ := F.ex
  refine fn_of lk hcd S len fun A outer s H vs Q E hr hsp => ?_
  obtain ⟨t, h, q⟩ := body A outer s H vs Q E hr hsp
  exact ⟨t, h.nox, q⟩
end
end Se
namespace Sl
open PySem PySem.Spec PyProof.Rows L2
theorem filter_take {α : Type} {f : α → Bool} {l : List α} {i : Nat} {x : α} (h : l[i]? = some x) : (l.take (i + 1)).filter f = (l.take i).filter f ++ (if f x = true then [x] else []) := by
  rw [List.take_add_one, h, List.filter_append]
  congr 1
  show List.filter f [x] = _
  cases e : f x with
  | true => rw [List.filter_cons_of_pos e]; rfl
  | false => rw [List.filter_cons_of_neg (by rw [e]; decide)]; rfl
theorem filter_all {α : Type} (f : α → Bool) (l : List α) : decide (V.int ((l.filter (fun x => !f x)).length : Int) = V.int 0) = l.all f := by
  cases e : l.all f with
  | true =>
    have z : l.filter (fun x => !f x) = [] := List.filter_eq_nil_iff.mpr fun x hx h => by
      have := List.all_eq_true.mp e x hx
      rw [this] at h
      cases h
    rw [z]
    rfl
  | false =>
    obtain ⟨x, hx, h⟩ := List.all_eq_false.mp e
    have := List.length_pos_of_mem (List.mem_filter (p := fun x => !f x).mpr ⟨hx, (by cases g : f x with | true => exact absurd g h | false => rfl : (!f x) = true)⟩)
    exact decide_eq_false fun z => by
      have := V.int.inj z
      omega
end Sl
namespace Kc
open PySem PySem.Spec PyProof.Rows L2 GxR Nw Dr Kp Se Od
/-! ### is_claim, is_book: of anything -/
theorem at_int {ks : List Int} {i : Nat} {x : V} (hx : (ks.map V.int)[i]? = some x) : ∃ z, ks[i]? = some z ∧ x = V.int z := by
  rw [List.getElem?_map] at hx
  cases e : ks[i]? with
  | none =>
    rw [e] at hx
    cases hx
  | some z =>
    rw [e] at hx
    exact ⟨z, rfl, (Option.some.inj hx).symm⟩
theorem ints_flat (cs : List Int) : (cs.map V.int).all flatV = true := by
  rw [List.all_eq_true]
  intro v hv
  obtain ⟨z, _, rfl⟩ := List.mem_map.mp hv
  rfl
theorem pg_tupB {X : Cx} {K : PySem.W.Frag} {es : List Expr} {k : Nat} {t : TGs} {n : Nat} {pos : Pos} (hK : X.K = K) (hc : X.calm = true) (h : PGs X es t) (hn : (assignEach es X.env).length = n := by rfl) (hst : (assignEach es X.env).findIdx? (·.1) = none := by rfl) : PG X (.Tuple es k pos) (gTup K n t) := by
  subst hK
  exact pg_tup hc h hn hst
def sayD : PyData → Bool
  | .int n => decide (-8 ≤ n) && decide (n ≤ 8) && decide (n ≠ 0)
  | _ => false
structure Cl0 (ns : List Int) : Prop where
  up : ns.Pairwise (· < ·)
  says : ∀ k ∈ ns, k ≠ 0 ∧ -8 ≤ k ∧ k ≤ 8
  opp : ∀ k ∈ ns, -k ∉ ns
def ClD (d : PyData) : Prop := ∃ ns : List Int, d = .tuple (ns.map PyData.int) ∧ Cl0 ns
def BkD (d : PyData) : Prop := ∃ ds : List PyData, d = .tuple ds ∧ 1 ≤ ds.length ∧ ds.length ≤ 16 ∧ ∀ e ∈ ds, ClD e
theorem say_of {d : PyData} (h : sayD d = true) : ∃ n : Int, d = .int n ∧ n ≠ 0 ∧ -8 ≤ n ∧ n ≤ 8 := by
  cases d with
  | int n =>
    simp only [sayD, Bool.and_eq_true, decide_eq_true_eq] at h
    exact ⟨n, rfl, h.2, h.1.1, h.1.2⟩
  | _ => cases h
theorem say_int {n : Int} (h : n ≠ 0 ∧ -8 ≤ n ∧ n ≤ 8) : sayD (.int n) = true := by
  simp only [sayD, Bool.and_eq_true, decide_eq_true_eq]
  exact ⟨⟨h.2.1, h.2.2⟩, h.1⟩
theorem says_of : ∀ {ds : List PyData}, (∀ d ∈ ds, sayD d = true) → ∃ ns : List Int, ds = ns.map PyData.int ∧ ∀ k ∈ ns, k ≠ 0 ∧ -8 ≤ k ∧ k ≤ 8
  | [], _ => ⟨[], rfl, fun k h => nomatch h⟩
  | d :: r, h => by
    obtain ⟨n, rfl, hn⟩ := say_of (h d List.mem_cons_self)
    obtain ⟨ns, e, hs⟩ := says_of (ds := r) fun x hx => h x (List.mem_cons_of_mem _ hx)
    refine ⟨n :: ns, by rw [e]; rfl, fun k hk => ?_⟩
    rcases List.mem_cons.mp hk with z | z
    · rw [z]
      exact hn
    · exact hs k z
theorem int_inj : ∀ {l m : List Int}, l.map PyData.int = m.map PyData.int → l = m
  | [], [], _ => rfl
  | [], _ :: _, h => by cases h
  | _ :: _, [], h => by cases h
  | a :: l, b :: m, h => by
    obtain ⟨h1, h2⟩ := List.cons.inj h
    rw [PyData.int.inj h1, int_inj h2]
theorem od_is {f : Addr → Prop} {H : Hp} : ∀ {vs : List V} {ns : List Int}, OdAll f H vs (ns.map PyData.int) → vs = ns.map V.int
  | [], [], _ => rfl
  | [], _ :: _, h => by cases h
  | _ :: _, [], h => by cases h
  | v :: vs, n :: ns, h => by
    cases h with
    | cons h1 h2 =>
      cases h1
      rw [od_is h2]
      rfl
theorem no_say {ds : List PyData} {d : PyData} (hd : d ∈ ds) (h : sayD d = false) : ¬ ClD (.tuple ds) := fun ⟨ns, e, c⟩ => by
  rw [PyData.tuple.inj e] at hd
  obtain ⟨n, hn, rfl⟩ := List.mem_map.mp hd
  rw [say_int (c.says n hn)] at h
  cases h
theorem up_of : ∀ {ns : List Int}, (∀ (j : Nat) (x y : Int), ns[j]? = some x → (ns.drop 1)[j]? = some y → x < y) → ns.Pairwise (· < ·)
  | [], _ => .nil
  | [a], _ => .cons (fun _ h => nomatch h) .nil
  | a :: b :: r, h => by
    have ih := up_of (ns := b :: r) fun j x y hx hy => h (j + 1) x y (by simpa using hx) (by simpa using hy)
    have hab : a < b := h 0 a b rfl rfl
    refine .cons (fun c hc => ?_) ih
    rcases List.mem_cons.mp hc with z | z
    · rw [z]
      exact hab
    · exact Int.lt_trans hab (List.rel_of_pairwise_cons ih z)
theorem up_at {ns : List Int} (h : ns.Pairwise (· < ·)) {i : Nat} {x y : Int} (hx : ns[i]? = some x) (hy : (ns.drop 1)[i]? = some y) : x < y := by
  rw [List.getElem?_drop] at hy
  obtain ⟨l1, e1⟩ := List.getElem?_eq_some_iff.mp hx
  obtain ⟨l2, e2⟩ := List.getElem?_eq_some_iff.mp hy
  rw [← e1, ← e2]
  exact List.pairwise_iff_getElem.mp h i (1 + i) l1 l2 (by omega)
theorem cut_tail (ns : List Int) : cutV (ns.map V.int) (some 1) none = (ns.drop 1).map V.int := by
  unfold cutV
  have e : (1 : Int) = ((1 : Nat) : Int) := rfl
  rw [HT.sIx_none, e, HT.sIx_nat, ← List.map_drop]
  cases ns with
  | nil => rfl
  | cons x r =>
    rw [Nat.min_eq_left (by simp)]
    exact List.take_of_length_le (by simp)
theorem in_ints (k : Int) : ∀ cs : List Int, inV (.int k) (cs.map V.int) = true ↔ k ∈ cs
  | [] => by
    constructor
    · intro h
      cases h
    · intro h
      cases h
  | c :: r => by
    have ih := in_ints k r
    show (eqV (.int c) (.int k) || inV (.int k) (r.map V.int)) = true ↔ _
    rw [Bool.or_eq_true, ih, List.mem_cons]
    have e : eqV (.int c) (.int k) = true ↔ k = c := by
      show (c == k) = true ↔ k = c
      rw [beq_iff_eq]
      exact eq_comm
    rw [e]
structure Zi (mg : Str → Option Value) : Prop where
  z_all : mg "all" = none
  z_any : mg "any" = none
  z_zip : mg "zip" = none
  z_isinstance : mg "isinstance" = none
  z_tuple : mg "tuple" = none
  z_int : mg "int" = none
  z_bool : mg "bool" = none
  z_len : mg "len" = none
section
variable {P : Program} {w : World} {K : PySem.W.Frag} {mg : Str → Option Value} {base : Heap}
abbrev sWhp : Stmt := topS 3
theorem scWhp : FnScope ["thing"] ["thing"] (defScope sWhp) := ⟨rfl, rfl, rfl, by decide +kernel, rfl, by decide +kernel, by decide +kernel⟩
/-- is_whole(thing): of anything -/
def spWhG : Sp := fun vs H Q _ => ∃ (f0 : Addr → Prop) (v : V) (d : PyData), vs = [v] ∧ OdV f0 H v d ∧ Q (.bl (whD d)) H
theorem ok_whp {f : Addr} {fd : FuncData} {k : Nat} (F : Fun K "is_whole" "is_whole" sWhp f fd) (T : Zi mg) : FnOk P w K mg base CX0 (k + 1) f fd ["thing"] spWhG := by
  refine F.ok scWhp (fun vs H Q E h => ?_) (fun cdv A outer s H vs Q E hr h => ?_)
  · obtain ⟨f0, v, d, rfl, _⟩ := h
    rfl
  · obtain ⟨f0, v, d, rfl, hv, q⟩ := h
    refine ⟨_, (pss_one (ps_ret (pe_and (pe_callB call_isi (by rfl) T.z_isinstance (by decide +kernel) (pa_cons (pv 0) (pa_cons (pe_bltn (v := .ty "int") (u := .type "int") (by rfl) T.z_int (by decide +kernel) rfl) pa_nil))) (pe_one (pe_not (pe_callB call_isi (by rfl) T.z_isinstance (by decide +kernel) (pa_cons (pv 0) (pa_cons (pe_bltn (v := .ty "bool") (u := .type "bool") (by rfl) T.z_bool (by decide +kernel) rfl) pa_nil)))))))), ?_⟩
    have t := hv.ty (K := K)
    cases d with
    | int n => exact ⟨_, rfl, v, .ty "int", .type "int", .type "int", true, rfl, .ty _, t, kit_ty (by decide +kernel), _, rfl, _, rfl, v, .ty "bool", .type "int", .type "bool", false, rfl, .ty _, t, kit_ty (by decide +kernel), _, rfl, q⟩
    | bool b => exact ⟨_, rfl, v, .ty "int", .type "bool", .type "int", true, rfl, .ty _, t, kit_ty (by decide +kernel), _, rfl, _, rfl, v, .ty "bool", .type "bool", .type "bool", true, rfl, .ty _, t, kit_ty (by decide +kernel), _, rfl, q⟩
    | none => exact ⟨_, rfl, v, .ty "int", .type "NoneType", .type "int", false, rfl, .ty _, t, kit_ty (by decide +kernel), _, rfl, q⟩
    | str x => exact ⟨_, rfl, v, .ty "int", .type "str", .type "int", false, rfl, .ty _, t, kit_ty (by decide +kernel), _, rfl, q⟩
    | list x => exact ⟨_, rfl, v, .ty "int", .type "list", .type "int", false, rfl, .ty _, t, kit_ty (by decide +kernel), _, rfl, q⟩
    | tuple x => exact ⟨_, rfl, v, .ty "int", .type "tuple", .type "int", false, rfl, .ty _, t, kit_ty (by decide +kernel), _, rfl, q⟩
    | dict x => cases hv
abbrev sSay : Stmt := topS 4
theorem scSay : FnScope ["thing"] ["thing"] (defScope sSay) := ⟨rfl, rfl, rfl, by decide +kernel, rfl, by decide +kernel, by decide +kernel⟩
def spSyG : Sp := fun vs H Q _ => ∃ (f0 : Addr → Prop) (v : V) (d : PyData), vs = [v] ∧ OdV f0 H v d ∧ Q (.bl (sayD d)) H
theorem ok_say {f fW : Addr} {fd fdW : FuncData} {k : Nat} {tk : Tok} (F : Fun K "is_say" "is_say" sSay f fd) (M8 : mg "MOST_THINGS" = some (.int 8 tk)) (FW : Fun K "is_whole" "is_whole" sWhp fW fdW) (bW : Binds K fdW ["thing"] []) (gW : mg "is_whole" = some (.ref fW)) (GW : FnOk P w K mg base CX0 1 fW fdW ["thing"] spWhG) :
    FnOk P w K mg base CX0 (k + 2) f fd ["thing"] spSyG := by
  refine F.ok scSay (fun vs H Q E h => ?_) (fun cdv A outer s H vs Q E hr h => ?_)
  · obtain ⟨f0, v, d, rfl, _⟩ := h
    rfl
  · obtain ⟨f0, v, d, rfl, hv, q⟩ := h
    have hr1 : Room 1 _ := hr.mono (by omega)
    refine ⟨_, (pss_one (ps_ret (pe_and (pe_call GW hr1 (by rfl) gW FW.kp bW .nil pass0 (pa_cons (pv 0) pa_nil)) (pe_and (pe_chain op_le op_le (pe_un un_neg (pe_glob (v := .int 8) rfl M8 ⟨_, rfl⟩)) (pv 0) (pe_glob (v := .int 8) rfl M8 ⟨_, rfl⟩)) (pe_one (pe_cmpR op_ne (pv 0) pe_int (nomark _))))))), ?_⟩
    cases d with
    | int n =>
      cases id hv
      refine ⟨_, rfl, f0, _, .int n, rfl, hv, true, rfl, ?_⟩
      refine ⟨_, rfl, _, rfl, _, _, rfl, rfl, decide (-8 ≤ n), rfl, ?_⟩
      by_cases h1 : -8 ≤ n
      · rw [decide_eq_true h1]
        refine ⟨_, _, rfl, rfl, decide (n ≤ 8), rfl, ?_⟩
        by_cases h2 : n ≤ 8
        · rw [decide_eq_true h2]
          refine ⟨_, rfl, rfl, ?_⟩
          have e : (!decide (V.int n = V.int 0)) = sayD (.int n) := by
            simp [sayD, h1, h2]
          show Q (.bl (!decide (V.int n = V.int 0))) H
          rw [e]
          exact q
        · rw [decide_eq_false h2]
          have e : sayD (.int n) = false := by simp [sayD, h2]
          rw [e] at q
          exact q
      · rw [decide_eq_false h1]
        have e : sayD (.int n) = false := by simp [sayD, h1]
        rw [e] at q
        exact ⟨false, rfl, q⟩
    | bool b => exact ⟨_, rfl, f0, v, _, rfl, hv, false, rfl, q⟩
    | none => exact ⟨_, rfl, f0, v, _, rfl, hv, false, rfl, q⟩
    | str x => exact ⟨_, rfl, f0, v, _, rfl, hv, false, rfl, q⟩
    | list x => exact ⟨_, rfl, f0, v, _, rfl, hv, false, rfl, q⟩
    | tuple x => exact ⟨_, rfl, f0, v, _, rfl, hv, false, rfl, q⟩
    | dict x => cases hv
abbrev sRis : Stmt := topS 5
abbrev nRis : List Str := ["says", "one", "other"]
theorem scRis : FnScope nRis ["says"] (defScope sRis) := ⟨rfl, rfl, rfl, by decide +kernel, rfl, by decide +kernel, by decide +kernel⟩
/-- all(..) over zip of two tuples -/
theorem aa_zipT {K : PySem.W.Frag} {a b : Addr} {xs ys : List V} {g : TG} {tt : TT} {te : TE} {vs : List Nat} {σ : L2.St} {H1 : Hp} {stopb : Bool} {Q : VK} (hy : ys.length ≤ xs.length) (Pv : Nat → Hp → Prop) (h0 : Pv 0 H1) (hl : ∀ i H, Pv i H → SqT K H a xs ∧ SqT K H b ys)
    (hs : ∀ i x y T H, xs[i]? = some x → ys[i]? = some y → Pv i H → H T = none → g (.ref T) (wipe σ vs) (upd H T (.tup [x, y])) fun σ2 H2 => wipe σ2 vs = wipe σ vs ∧ tt σ2 H2 fun b H3 => if b = true then te σ2 H3 fun y H4 => (y = .bl stopb ∧ Q (.bl stopb) H4) ∨ (y = .bl (!stopb) ∧ Pv (i + 1) H4) else Pv (i + 1) H3) (hd : ∀ H, Pv ys.length H → Q (.bl (!stopb)) H) :
    ∃ W : Nat → Nat → Hp → Prop, (∃ m, W 0 m H1) ∧ ∀ i m H, W i m H → ((RZ.ItzT K a b).stop i H ∧ Q (.bl (!stopb)) H) ∨ ((RZ.ItzT K a b).go i H ∧ ∃ Nx : Hp → Prop, (∀ H', Nx H' → ∃ m', m' < m ∧ W (i + 1) m' H') ∧ ∀ x H', (RZ.ItzT K a b).yld i H x H' → g x (wipe σ vs) H' fun σ2 H2 => wipe σ2 vs = wipe σ vs ∧ tt σ2 H2 fun b H3 =>
      if b = true then te σ2 H3 fun y H4 => (y = .bl stopb ∧ Q (.bl stopb) H4) ∨ (y = .bl (!stopb) ∧ Nx H4) else Nx H3) := by
  refine ⟨fun i m H => i + m = ys.length ∧ Pv i H, ⟨ys.length, Nat.zero_add _, h0⟩, fun i m H ⟨e, p⟩ => ?_⟩
  obtain ⟨sa, sb⟩ := hl i H p
  cases m with
  | zero =>
    have ei : i = ys.length := by omega
    subst ei
    exact .inl ⟨⟨xs, ys, sa, sb, .inr (Nat.le_refl _)⟩, hd H p⟩
  | succ m =>
    have lt : i < ys.length := by omega
    have lx : i < xs.length := by omega
    refine .inr ⟨⟨xs, ys, xs[i], ys[i], sa, sb, List.getElem?_eq_getElem lx, List.getElem?_eq_getElem lt⟩, Pv (i + 1), fun H' q => ⟨m, Nat.lt_succ_self m, by omega, q⟩, fun v H' z => ?_⟩
    obtain ⟨T, x, y, rfl, nT, rfl, hx, hy'⟩ := z
    exact hs i x y T H (hx xs sa) (hy' ys sb) p nT
def spRiG (Pr : Addr) : Sp := fun vs H Q _ => ∃ (v : V) (ns : List Int), vs = [v] ∧ TupI H v ns ∧ TabG H Pr ∧ ∀ b H', (b = true ↔ ns.Pairwise (· < ·)) → Ke Nof H H' → Q (.bl b) H'
theorem ok_ris {f c Pr : Addr} {fd : FuncData} {k : Nat} (F : FunC K "is_rising" "is_rising" sRis f c fd) (T : Zi mg) (TB : TabB base mg c Pr) : FnOk P w K mg base CX0 (k + 3) f fd ["says"] (spRiG Pr) := by
  refine F.ok scRis (fun vs H Q E h => ?_) (fun A outer s H vs Q E hr h => ?_)
  · obtain ⟨v, ns, rfl, _⟩ := h
    rfl
  · obtain ⟨v, ns, rfl, ⟨a, rfl, ha⟩, tg, q⟩ := h
    refine ⟨_, (pss_one (ps_ret (Gx.pe_all hr (by rfl) T.z_all rfl scRis.nd TB rfl (RZ.pi_zipA (by rfl) T.z_zip (pa_cons (pv 0) (pa_cons (pe_slice sl_tupN (pv 0) (po_some pe_int) po_none) pa_nil))) (own := [("one", 1), ("other", 2)]) (tt := tYes) (blkOk_by (N := nRis) (sc := defScope sRis) (by decide +kernel)) ⟨rfl, by decide +kernel, rfl⟩ (fun _ _ _ _ _ _ _ => pg_tupB (K := K) (n := 2) rfl rfl (pgs_cons (pg_name (i := 1) scRis.nd rfl (.inl rfl)) (pgs_cons (pg_name (i := 2) scRis.nd rfl (.inl rfl)) pgs_nil))) (fun _ _ _ _ _ _ _ => pts_nil) (fun _ _ _ _ _ _ _ => (pe_cmpR op_lt (pv 1) (pv 2) (nomark _)))))), ?_⟩
    refine ⟨_, rfl, _, rfl, _, rfl, a, _, rfl, ha, fun p H1 s1 hp => ?_⟩
    rw [cut_tail] at hp
    have k1 : Ke Nof H H1 := .same s1
    have tg1 := k1.tabs _ tg
    refine ⟨a, p, _, _, rfl, .inr ⟨.of (s1 _ _ ha), .of hp, tg1, fun H2 tb => ?_⟩⟩
    have k2 : Ke Nof H1 H2 := .tabbed tg1 tb
    refine aa_zipT (xs := ns.map V.int) (ys := (ns.drop 1).map V.int) (by rw [List.length_map, List.length_map, List.length_drop]; omega) (Pv := fun i H' => Ke Nof H1 H' ∧ ∀ (j : Nat) (x y : Int), j < i → ns[j]? = some x → (ns.drop 1)[j]? = some y → x < y) ⟨k2, fun j x y h => absurd h (Nat.not_lt_zero _)⟩ (fun i H' k => ⟨.of (k.1.tups _ _ (s1 _ _ ha)), .of (k.1.tups _ _ hp)⟩) ?_ ?_
    · rintro i x y T' H3 hx hy ⟨k3, pv⟩ nT
      obtain ⟨z, hz, rfl⟩ := at_int hx
      obtain ⟨z2, hz2, rfl⟩ := at_int hy
      refine ⟨T', _, rfl, .of upd_same, rfl, _, _, rfl, _, _, rfl, rfl, rfl, ?_⟩
      have k4 : Ke Nof H1 (upd H3 T' (.tup [.int z, .int z2])) := k3.trans (.same (same_new nT))
      refine ⟨_, rfl, _, rfl, _, _, rfl, rfl, ?_⟩
      by_cases lt : z < z2
      · refine .inr ⟨?_, k4, fun j x y hj h1 h2 => ?_⟩
        · show V.bl (decide (z < z2)) = V.bl true
          rw [decide_eq_true lt]
        · rcases Nat.lt_or_ge j i with g | g
          · exact pv j x y g h1 h2
          · have ej : j = i := by omega
            subst ej
            rw [hz] at h1
            rw [hz2] at h2
            cases h1
            cases h2
            exact lt
      · refine .inl ⟨?_, q _ _ ⟨fun h => (nomatch h), fun h => absurd (up_at h hz hz2) lt⟩ (k1.trans k4)⟩
        show V.bl (decide (z < z2)) = V.bl false
        rw [decide_eq_false lt]
    · rintro H3 ⟨k3, pv⟩
      refine q _ _ ⟨fun _ => up_of fun j x y h1 h2 => pv j x y ?_ h1 h2, fun _ => rfl⟩ (k1.trans k3)
      rw [List.length_map]
      exact (List.getElem?_eq_some_iff.mp h2).1
abbrev sHop : Stmt := topS 6
abbrev nHop : List Str := ["says", "say"]
theorem scHop : FnScope nHop ["says"] (defScope sHop) := ⟨rfl, rfl, rfl, by decide +kernel, rfl, by decide +kernel, by decide +kernel⟩
def spHoG (Po : Addr) : Sp := fun vs H Q _ => ∃ (v : V) (ns : List Int), vs = [v] ∧ TupI H v ns ∧ TabG H Po ∧ ∀ b H', (b = true ↔ ∃ k ∈ ns, 0 < k ∧ -k ∈ ns) → Ke Nof H H' → Q (.bl b) H'
theorem ok_hpt {f c Po : Addr} {fd : FuncData} {k : Nat} (F : FunC K "has_opposites" "has_opposites" sHop f c fd) (T : Zi mg) (TB : TabB base mg c Po) : FnOk P w K mg base CX0 (k + 3) f fd ["says"] (spHoG Po) := by
  refine F.ok scHop (fun vs H Q E h => ?_) (fun A outer s H vs Q E hr h => ?_)
  · obtain ⟨v, ns, rfl, _⟩ := h
    rfl
  · obtain ⟨v, ns, rfl, ⟨a, rfl, ha⟩, tg, q⟩ := h
    refine ⟨_, (pss_one (ps_ret (Gx.pe_any hr (by rfl) T.z_any rfl scHop.nd TB rfl (pi_tup (pv 0)) (own := [("say", 1)]) (g := gName 1) (blkOk_by (N := nHop) (sc := defScope sHop) (by decide +kernel)) ⟨rfl, by decide +kernel, rfl⟩ (fun _ _ _ _ _ _ _ => pg_name (i := 1) scHop.nd rfl (.inl rfl)) (fun _ _ _ _ _ _ _ => (pts_one (pt_cmpR op_gt (pv 1) pe_int (nomark _)))) (fun _ _ _ _ _ _ _ => (pe_cmpR (op_in_seqB (K := K) rfl) (pe_un un_neg (pv 1)) (pv 0) (by rfl)))))), ?_⟩
    refine ⟨_, rfl, a, rfl, ⟨_, .of ha⟩, tg, fun H1 tb => ?_⟩
    have k1 : Ke Nof H H1 := .tabbed tg tb
    refine Gx.aa_tup (xs := ns.map V.int) (Pv := fun i H' => Ke Nof H H' ∧ ∀ (j : Nat) (x : Int), j < i → ns[j]? = some x → ¬ (0 < x ∧ -x ∈ ns)) ⟨k1, fun j x h => absurd h (Nat.not_lt_zero _)⟩ (fun i H' _ p => .of (p.1.tups _ _ ha)) ?_ ?_
    · rintro i x H' hx ⟨k2, pv⟩
      obtain ⟨z, hz, rfl⟩ := at_int hx
      have more : ¬ (0 < z ∧ -z ∈ ns) → ∀ (j : Nat) (x : Int), j < i + 1 → ns[j]? = some x → ¬ (0 < x ∧ -x ∈ ns) := fun nz j x hj h1 => by
        rcases Nat.lt_or_ge j i with g | g
        · exact pv j x g h1
        · have ej : j = i := by omega
          subst ej
          rw [hz] at h1
          cases h1
          exact nz
      refine ⟨rfl, _, rfl, _, _, rfl, rfl, decide (z > 0), rfl, ?_⟩
      by_cases z0 : 0 < z
      · rw [decide_eq_true (show z > 0 from z0)]
        refine ⟨_, rfl, _, rfl, _, rfl, a, _, rfl, .inr (.of (k2.tups _ _ ha)), rfl, ints_flat ns, ?_⟩
        cases e : inV (.int (-z)) (ns.map V.int) with
        | false =>
          refine .inr ⟨?_, k2, more fun h => ?_⟩
          · rfl
          · rw [(in_ints _ _).mpr h.2] at e
            cases e
        | true =>
          exact .inl ⟨rfl, q _ _ ⟨fun _ => ⟨z, List.mem_of_getElem? hz, z0, (in_ints _ _).mp e⟩, fun _ => rfl⟩ k2⟩
      · rw [decide_eq_false (show ¬ z > 0 from z0)]
        exact ⟨k2, more fun h => z0 h.1⟩
    · rintro H' ⟨k2, pv⟩
      rw [List.length_map] at pv
      refine q _ _ ⟨fun h => (nomatch h), fun h => ?_⟩ k2
      obtain ⟨k, hk, h⟩ := h
      obtain ⟨j, hj⟩ := List.getElem?_of_mem hk
      exact absurd h (pv j k (List.getElem?_eq_some_iff.mp hj).1 hj)
abbrev sIcl : Stmt := topS 7
abbrev nIcl : List Str := ["thing", "say"]
theorem scIcl : FnScope nIcl ["thing"] (defScope sIcl) := ⟨rfl, rfl, rfl, by decide +kernel, rfl, by decide +kernel, by decide +kernel⟩
def spClG (Pc Pr Po : Addr) : Sp := fun vs H Q _ => ∃ (f0 : Addr → Prop) (v : V) (d : PyData), vs = [v] ∧ OdV f0 H v d ∧ (∀ ds, d = .tuple ds → ds.length ≤ 60) ∧ TabG H Pc ∧ TabG H Pr ∧ TabG H Po ∧ ∀ b H', (b = true ↔ ClD d) → Ke Nof H H' → Q (.bl b) H'
theorem no_cl {d : PyData} (h : ∀ ds, d ≠ .tuple ds) : (false = true ↔ ClD d) := ⟨fun z => (nomatch z), fun ⟨_, e, _⟩ => absurd e (h _)⟩
theorem opp_of {ns : List Int} (h : ∀ k ∈ ns, k ≠ 0 ∧ -8 ≤ k ∧ k ≤ 8) : (∃ k ∈ ns, 0 < k ∧ -k ∈ ns) ↔ ¬ ∀ k ∈ ns, -k ∉ ns := by
  constructor
  · rintro ⟨k, hk, _, h2⟩ z
    exact z k hk h2
  · intro z
    apply Classical.byContradiction
    intro n
    refine z fun k hk hn => ?_
    obtain ⟨k0, _⟩ := h k hk
    rcases Int.lt_or_gt_of_ne k0 with g | g
    · exact n ⟨-k, hn, by omega, by rw [Int.neg_neg]; exact hk⟩
    · exact n ⟨k, hk, g, hn⟩
theorem ok_icl {f c Pc Pr Po fS fR fH : Addr} {fd fdS fdR fdH : FuncData} {k : Nat} (F : FunC K "is_claim" "is_claim" sIcl f c fd) (T : Zi mg) (TB : TabB base mg c Pc) (FS : Fun K "is_say" "is_say" sSay fS fdS) (bS : Binds K fdS ["thing"] []) (gS : mg "is_say" = some (.ref fS)) (GS : FnOk P w K mg base CX0 2 fS fdS ["thing"] spSyG)
    (kpR : PySem.W.keepIn K (.ref fR) = true) (bR : Binds K fdR ["says"] []) (gR : mg "is_rising" = some (.ref fR)) (GR : FnOk P w K mg base CX0 3 fR fdR ["says"] (spRiG Pr))
    (kpH : PySem.W.keepIn K (.ref fH) = true) (bH : Binds K fdH ["says"] []) (gH : mg "has_opposites" = some (.ref fH)) (GH : FnOk P w K mg base CX0 3 fH fdH ["says"] (spHoG Po)) :
    FnOk P w K mg base CX0 (k + 5) f fd ["thing"] (spClG Pc Pr Po) := by
  refine F.ok scIcl (fun vs H Q E h => ?_) (fun A outer s H vs Q E hr h => ?_)
  · obtain ⟨f0, v, d, rfl, _⟩ := h
    rfl
  · obtain ⟨f0, v, d, rfl, hv, _, t1, t2, t3, q⟩ := h
    have hr3 : Room (2 + 1) _ := hr.mono (by omega)
    have hr4 : Room 4 _ := hr.mono (by omega)
    refine ⟨_, (pss_cons (ps_if (pt_not (pt_val (pe_callB call_isi (by rfl) T.z_isinstance (by decide +kernel) (pa_cons (pv 0) (pa_cons (pe_bltn (v := .ty "tuple") (u := .type "tuple") (by rfl) T.z_tuple (by decide +kernel) rfl) pa_nil))))) (pss_one (ps_ret pe_bl)) pss_nil)
      (pss_cons (ps_if (pt_not (pt_val (pe_cl (Gx.pe_all hr4 (by rfl) T.z_all rfl scIcl.nd TB rfl (pi_tup (pv 0)) (own := [("say", 1)]) (g := gName 1) (tt := tYes) (blkOk_by (N := nIcl) (sc := defScope sIcl) (by decide +kernel)) ⟨rfl, by decide +kernel, rfl⟩ (fun _ _ _ _ _ _ _ => pg_name (i := 1) scIcl.nd rfl (.inl rfl)) (fun _ _ _ _ _ _ _ => pts_nil) (fun _ _ _ _ _ _ _ => pe_call GS (Gx.room_gen hr3) (by rfl) gS FS.kp bS .nil pass0 (pa_cons (pv 1) pa_nil)))))) (pss_one (ps_ret pe_bl)) pss_nil)
      (pss_one (ps_ret (pe_and (pe_call GR hr3 (by rfl) gR kpR bR .nil pass0 (pa_cons (pv 0) pa_nil)) (pe_one (pe_not (pe_call GH hr3 (by rfl) gH kpH bH .nil pass0 (pa_cons (pv 0) pa_nil))))))))), ?_⟩
    have t := hv.ty (K := K)
    cases d with
    | int n => exact ⟨_, rfl, v, .ty "tuple", .type "int", .type "tuple", false, rfl, .ty _, t, kit_ty (by decide +kernel), _, rfl, q _ _ (no_cl fun _ => nofun) (.refl _ _)⟩
    | bool b => exact ⟨_, rfl, v, .ty "tuple", .type "bool", .type "tuple", false, rfl, .ty _, t, kit_ty (by decide +kernel), _, rfl, q _ _ (no_cl fun _ => nofun) (.refl _ _)⟩
    | none => exact ⟨_, rfl, v, .ty "tuple", .type "NoneType", .type "tuple", false, rfl, .ty _, t, kit_ty (by decide +kernel), _, rfl, q _ _ (no_cl fun _ => nofun) (.refl _ _)⟩
    | str x => exact ⟨_, rfl, v, .ty "tuple", .type "str", .type "tuple", false, rfl, .ty _, t, kit_ty (by decide +kernel), _, rfl, q _ _ (no_cl fun _ => nofun) (.refl _ _)⟩
    | list x => exact ⟨_, rfl, v, .ty "tuple", .type "list", .type "tuple", false, rfl, .ty _, t, kit_ty (by decide +kernel), _, rfl, q _ _ (no_cl fun _ => nofun) (.refl _ _)⟩
    | dict x => cases hv
    | tuple ds =>
      cases id hv with
      | tup ha od =>
        rename_i a xs
        refine ⟨_, rfl, .ref a, .ty "tuple", .type "tuple", .type "tuple", true, rfl, .ty _, t, kit_ty (by decide +kernel), _, rfl, ?_⟩
        refine ⟨fun v H' => Ke Nof H H' ∧ ((v = .bl true ∧ ∀ d ∈ ds, sayD d = true) ∨ (v = .bl false ∧ ∃ d ∈ ds, sayD d = false)), fun v H2 ⟨k2, w⟩ => ?_, _, rfl, a, rfl, ⟨_, .of ha⟩, t1, fun H1 tb => ?_⟩
        · rcases w with ⟨rfl, al⟩ | ⟨rfl, d, hd, no⟩
          · obtain ⟨ns, rfl, sy⟩ := says_of al
            have ex := od_is od
            subst ex
            have tv : TupI H2 (.ref a) ns := ⟨a, rfl, k2.tups _ _ ha⟩
            refine ⟨true, rfl, ?_⟩
            refine ⟨_, rfl, .ref a, ns, rfl, tv, k2.tabs _ t2, fun b1 H3 hb1 k3 => ⟨b1, rfl, ?_⟩⟩
            cases b1 with
            | false =>
              refine q _ _ ⟨fun z => (nomatch z), fun z => ?_⟩ (k2.trans k3)
              obtain ⟨ms, e, c⟩ := z
              rw [← int_inj (PyData.tuple.inj e)] at c
              exact hb1.mpr c.up
            | true =>
              have k23 := k2.trans k3
              refine ⟨_, rfl, .ref a, ns, rfl, tv.ke k3, k23.tabs _ t3, fun b2 H4 hb2 k4 => ⟨_, rfl, ?_⟩⟩
              refine q _ _ ?_ (k23.trans k4)
              rw [opp_of sy] at hb2
              cases b2 with
              | true =>
                refine ⟨fun z => (nomatch z), fun z => ?_⟩
                obtain ⟨ms, e, c⟩ := z
                rw [← int_inj (PyData.tuple.inj e)] at c
                exact absurd c.opp (hb2.mp rfl)
              | false =>
                refine ⟨fun _ => ⟨ns, rfl, hb1.mp rfl, sy, ?_⟩, fun _ => rfl⟩
                apply Classical.byContradiction
                intro z
                cases hb2.mpr z
          · exact ⟨false, rfl, q _ _ ⟨fun z => (nomatch z), fun z => absurd z (no_say hd no)⟩ k2⟩
        have k1 : Ke Nof H H1 := .tabbed t1 tb
        refine Gx.aa_tup (xs := xs) (stopb := false) (Q := fun v H' => Ke Nof H H' ∧ ((v = .bl true ∧ ∀ d ∈ ds, sayD d = true) ∨ (v = .bl false ∧ ∃ d ∈ ds, sayD d = false))) (Pv := fun i H' => Ke Nof H H' ∧ ∀ (j : Nat) (d : PyData), j < i → ds[j]? = some d → sayD d = true) ⟨k1, fun j d h => absurd h (Nat.not_lt_zero _)⟩ (fun i H' _ p => .of (p.1.tups _ _ ha)) ?_ ?_
        · rintro i x H' hx ⟨k2, pv⟩
          obtain ⟨d, hd, ox⟩ := (od.ke k2.all).at hx
          refine ⟨rfl, _, rfl, f0, x, d, rfl, ox, ?_⟩
          cases e : sayD d with
          | false => exact .inl ⟨rfl, k2, .inr ⟨rfl, d, List.mem_of_getElem? hd, e⟩⟩
          | true =>
            refine .inr ⟨rfl, k2, fun j d' hj h1 => ?_⟩
            rcases Nat.lt_or_ge j i with g | g
            · exact pv j d' g h1
            · have ej : j = i := by omega
              subst ej
              rw [hd] at h1
              cases h1
              exact e
        · rintro H' ⟨k2, pv⟩
          refine ⟨k2, .inl ⟨rfl, fun d hd => ?_⟩⟩
          obtain ⟨j, hj⟩ := List.getElem?_of_mem hd
          exact pv j d (by rw [od.len]; exact (List.getElem?_eq_some_iff.mp hj).1) hj
end
end Kc
namespace Tc
open PySem PySem.Spec PyProof.Rows L2 GxR Nw Dr Kp Tw Kc
/-! ### what may follow in a claim -/
theorem cl0_nil : Cl0 [] := ⟨.nil, fun k h => (nomatch h), fun k h => (nomatch h)⟩
theorem cl0_snoc {l : List Int} {i : Int} (h : Cl0 l) : Cl0 (l ++ [i]) ↔ InR i ∧ (∀ j ∈ l, j < i) ∧ -i ∉ l := by
  constructor
  · intro g
    obtain ⟨a1, a2, a3⟩ := g.says i (List.mem_append_right _ (List.mem_singleton_self _))
    have up := g.up
    rw [List.pairwise_append] at up
    exact ⟨⟨a2, a3, a1⟩, fun j hj => up.2.2 j hj i (List.mem_singleton_self _), fun z => g.opp i (List.mem_append_right _ (List.mem_singleton_self _)) (List.mem_append_left _ z)⟩
  · rintro ⟨⟨a1, a2, a3⟩, b, c⟩
    refine ⟨?_, fun k hk => ?_, fun k hk z => ?_⟩
    · rw [List.pairwise_append]
      refine ⟨h.up, by simp, fun x hx y hy => ?_⟩
      rw [List.mem_singleton.mp hy]
      exact b x hx
    · rcases List.mem_append.mp hk with m | m
      · exact h.says k m
      · rw [List.mem_singleton.mp m]
        exact ⟨a3, a1, a2⟩
    · rcases List.mem_append.mp hk with m | m
      · rcases List.mem_append.mp z with y | y
        · exact h.opp k m y
        · have e := List.mem_singleton.mp y
          exact c (by rw [← e, Int.neg_neg]; exact m)
      · have e := List.mem_singleton.mp m
        subst e
        rcases List.mem_append.mp z with y | y
        · exact c y
        · have e := List.mem_singleton.mp y
          omega
theorem Creach.cl {ws : List Str} : ∀ {n : Nat} {cls : List (List Int)} {s : Cs}, Creach ws n cls s → cls.length ≤ 15 ∧ (∀ c ∈ cls, Cl0 c) ∧ ∀ l, csL s = some l → Cl0 l
  | 0, _, _, .zero => ⟨Nat.zero_le _, fun c h => (nomatch h), fun l h => (nomatch h)⟩
  | n + 1, _, _, .succ h e st => by
    obtain ⟨h1, h2, h3⟩ := Creach.cl h
    cases st with
    | none => exact ⟨h1, h2, fun l e => by rw [← Option.some.inj e]; exact cl0_nil⟩
    | first i hi => exact ⟨h1, h2, fun l e => by rw [← Option.some.inj e]; exact (cl0_snoc cl0_nil).mpr ⟨hi, fun j hj => (nomatch hj), fun z => (nomatch z)⟩⟩
    | stroke0 hl =>
      refine ⟨by rw [List.length_append, List.length_singleton]; omega, fun c hc => ?_, fun l e => nomatch e⟩
      rcases List.mem_append.mp hc with m | m
      · exact h2 c m
      · rw [List.mem_singleton.mp m]
        exact cl0_nil
    | stroke l hl =>
      refine ⟨by rw [List.length_append, List.length_singleton]; omega, fun c hc => ?_, fun l e => nomatch e⟩
      rcases List.mem_append.mp hc with m | m
      · exact h2 c m
      · rw [List.mem_singleton.mp m]
        exact h3 l rfl
    | next l i hi hl ho => exact ⟨h1, h2, fun l' e => by rw [← Option.some.inj e]; exact (cl0_snoc (h3 l rfl)).mpr ⟨hi, hl, ho⟩⟩
/-- one more say: just where is_claim says so -/
theorem next_iff {cls : List (List Int)} {l : List Int} {x : Str} (h : Cl0 l) (ne : l ≠ []) : (∃ i, Cl0 (l ++ [i]) ∧ x = numT i) ↔ (∃ c t, Cstep cls (.som l) x c t) ∧ x ≠ "/" := by
  constructor
  · rintro ⟨i, hi, rfl⟩
    obtain ⟨a, b, c⟩ := (cl0_snoc h).mp hi
    exact ⟨⟨_, _, .next l i a b c⟩, num_str a⟩
  · rintro ⟨⟨c, t, st⟩, nx⟩
    cases st with
    | stroke _ _ => exact absurd rfl nx
    | next _ i hi hl ho => exact ⟨i, (cl0_snoc h).mpr ⟨hi, hl, ho⟩, rfl⟩
theorem first_iff {cls : List (List Int)} {x : Str} : (∃ i, Cl0 ([] ++ [i]) ∧ x = numT i) ↔ (∃ c t, Cstep cls .no x c t) ∧ x ≠ "none" := by
  constructor
  · rintro ⟨i, hi, rfl⟩
    obtain ⟨a, _, _⟩ := (cl0_snoc cl0_nil).mp hi
    exact ⟨⟨_, _, .first i a⟩, num_none a⟩
  · rintro ⟨⟨c, t, st⟩, nx⟩
    cases st with
    | none => exact absurd rfl nx
    | first i hi => exact ⟨i, (cl0_snoc cl0_nil).mpr ⟨hi, fun j hj => (nomatch hj), fun z => (nomatch z)⟩, rfl⟩
end Tc
namespace Tc
open PySem PySem.Spec PyProof.Rows L2 GxR Nw Dr Kp Ev1 Tw Kc Od
theorem od_ints {f : Addr → Prop} {H : Hp} : ∀ l : List Int, OdAll f H (l.map V.int) (l.map PyData.int)
  | [] => .nil
  | i :: r => .cons (.int i) (od_ints r)
theorem up_len : ∀ {l : List Int} {lo : Int}, l.Pairwise (· < ·) → (∀ k ∈ l, lo ≤ k ∧ k ≤ 8) → l = [] ∨ (l.length : Int) ≤ 9 - lo
  | [], _, _, _ => .inl rfl
  | a :: r, lo, h, g => by
    have ga := g a List.mem_cons_self
    have h' := List.pairwise_cons.mp h
    rcases up_len (l := r) (lo := lo + 1) h'.2 fun k hk => ⟨by have := h'.1 k hk; omega, (g k (List.mem_cons_of_mem _ hk)).2⟩ with e | e
    · rw [e]
      exact .inr (by show (1 : Int) ≤ _; omega)
    · refine .inr ?_
      rw [List.length_cons]
      omega
theorem cl0_len {l : List Int} (h : Cl0 l) : l.length ≤ 17 := by
  rcases up_len (lo := -8) h.up fun k hk => (h.says k hk).2 with e | e
  · rw [e]
    exact Nat.zero_le _
  · omega
theorem cld_snoc {l : List Int} {i : Int} : ClD (.tuple (l.map PyData.int ++ [.int i])) ↔ Cl0 (l ++ [i]) := by
  constructor
  · rintro ⟨ns, e, c⟩
    have e := PyData.tuple.inj e
    rw [show l.map PyData.int ++ [PyData.int i] = (l ++ [i]).map PyData.int by rw [List.map_append]; rfl] at e
    rw [int_inj e]
    exact c
  · exact fun c => ⟨l ++ [i], by rw [List.map_append]; rfl, c⟩
theorem InR.big {i : Int} (h : InR i) : -1000 < i ∧ i < 1000 := ⟨by have := h.1; omega, by have := h.2.1; omega⟩
section
variable {P : Program} {w : World} {K : PySem.W.Frag} {mg : Str → Option Value} {base : Heap}
abbrev sClf : Stmt := topS 24
theorem scClf : FnScope ["words", "at", "claim"] ["words", "at"] (defScope sClf) := ⟨rfl, rfl, rfl, by decide +kernel, rfl, by decide +kernel, by decide +kernel⟩
def spClf (C Pc Pr Po : Addr) : Sp := fun vs H Q E => ∃ (L : Addr) (ws : List Str) (a : Nat) (cls : List (List Int)), vs = [.ref L, .int a] ∧ WsL H L ws ∧ Creach ws a cls .no ∧ TabG H Pc ∧ TabG H Pr ∧ TabG H Po ∧
  (∀ (s : Cs) (l : List Int) (t p : Addr) (b : Nat) H', Ke Nof H H' → a < b → Creach ws b cls s → csL s = some l → (∀ x c t, ws[b]? = some x → Cstep cls s x c t → x = "/") → H' t = some (.tup [.ref p, .int b]) → H' p = some (.tup (l.map V.int)) → Q (.ref t) H') ∧ ∀ e H', Ke Nof H H' → Cbad ws e → Rf E C H' e
theorem ok_clf {f fA fN fI f1 C Pc Pr Po : Addr} {fd fdA fdN fdI fd1 : FuncData} {tk : Tok} (F : Fun K "claim_from" "claim_from" sClf f fd) (T : Zn mg) (N : NT P w K mg base C f1 fd1) (MN : mg "NO_SAYS" = some (.str "none" tk))
    (FA : Fun K "word_at" "word_at" sWat fA fdA) (bA : Binds K fdA ["words", "at"] []) (gA : mg "word_at" = some (.ref fA)) (GA : FnOk P w K mg base CX0 1 fA fdA ["words", "at"] spWat)
    (FN : Fun K "number_or_none" "number_or_none" sNon fN fdN) (bN : Binds K fdN ["word"] []) (gN : mg "number_or_none" = some (.ref fN)) (GN : FnOk P w K mg base CX0 1 fN fdN ["word"] spNoz)
    (kpI : PySem.W.keepIn K (.ref fI) = true) (bI : Binds K fdI ["thing"] []) (gI : mg "is_claim" = some (.ref fI)) (GI : FnOk P w K mg base CX0 5 fI fdI ["thing"] (spClG Pc Pr Po)) :
    Gx2.FnX P w K mg base (L2.CX P w) 7 f fd ["words", "at"] (spClf C Pc Pr Po) := by
  refine Gx2.okX F scClf (fun vs H Q E h => ?_) (fun cdv A outer s H vs Q E gd0 hr h => ?_)
  · obtain ⟨L, ws, a, cls, rfl, _⟩ := h
    rfl
  · obtain ⟨L, ws, a, cls, rfl, hw, R, t1, t2, t3, q1, q2⟩ := h
    have hr1 : Room 1 _ := hr.mono (by omega)
    have hr2 : Room 2 _ := hr.mono (by omega)
    have hr5 : Room 5 _ := hr.mono (by omega)
    refine ⟨_, (Evl.pss_cut (ps_if (pt_cmpR op_eq (pe_call GA hr1 (by rfl) gA FA.kp bA .nil pass0 (pa_cons (pv 0) (pa_cons (pv 1) pa_nil))) (pe_glob (v := .str "none") rfl MN ⟨_, rfl⟩) (nomark _)) (pss_one (ps_ret (pe_tupN (pa_cons (pe_tupN pa_nil) (pa_cons (pe_op op_add (pv 1) pe_int) pa_nil))))) pss_nil)
      (Evl.pss_cut (ps_set (i := 2) scClf.nd rfl (.inl rfl) (pe_tupN pa_nil))
      (Evl.pss_cut (ps_while (passes_of rfl) (PW.pt (pw_and (pt_cmpR op_lt (pv 1) (pe_callB call_len_seq (by rfl) T.z_len (by decide +kernel) (pa_cons (pv 0) pa_nil)) (nomark _)) (pw_and1 (pt_val (pe_call GI hr5 (by rfl) gI kpI bI .nil pass0 (pa_cons (pe_op op_catTN (pv 2) (pe_tupN (pa_cons (pe_call GN hr1 (by rfl) gN FN.kp bN .nil pass0 (pa_cons (pe_ix ix_list (pv 0) (pv 1) (fun _ _ => rfl)) pa_nil)) pa_nil))) pa_nil)))))) (Evl.pss_cut (ps_set (i := 2) scClf.nd rfl (.inl rfl) (pe_op op_catTN (pv 2) (pe_tupN (pa_cons (pe_call GN hr1 (by rfl) gN FN.kp bN .nil pass0 (pa_cons (pe_ix ix_list (pv 0) (pv 1) (fun _ _ => rfl)) pa_nil)) pa_nil))))
      (pss_one (ps_aug (i := 1) scClf.nd rfl (.inl rfl) pe_int ip_add))))
      (Evl.pss_cut (ps_if (pt_not (pt_truth (pv 2) (fun _ => rfl))) (pss_one (ps_raise rfl (takes_of rfl rfl rfl rfl) (pmk_oex N.O N.i N.t N.G hr2 N.b .nil pass0 (by rfl) N.g (pa_cons (pv 1) pa_nil)))) pss_nil)
      (pss_one (ps_ret (pe_tupN (pa_cons (pv 2) (pa_cons (pv 1) pa_nil))))))))), ?_⟩
    -- none
    refine Evl.q_cut (M := fun σ' G => σ' = [some (.ref L), some (.int a), none] ∧ H = G ∧ ws[a]? ≠ some ("none" : Str)) ?_ ?_
    · refine ⟨_, rfl, _, rfl, L, ws, a, rfl, hw, scal_w, _, rfl, ite2 (fun e => ?_) (fun e => ⟨rfl, rfl, fun z => e (eq_w.mpr z)⟩)⟩
      have R1 := R.succ (eq_w.mp e) .none
      refine ⟨Nat.zero_le _, fun p G1 n1 u1 h1 _ => ⟨_, rfl, _, _, rfl, rfl, by show 2 ≤ sizeLine; decide, fun t G2 n2 u2 h2 _ => ?_⟩⟩
      refine q1 .nil [] t p (a + 1) G2 (.same (u1.trans u2)) (by omega) R1 rfl (fun x c t hx st => ?_) h2 (u2 _ _ h1)
      cases st with
      | stroke0 _ => rfl
    rintro σ' G ⟨rfl, rfl, nn⟩
    have Rc := R.cl
    refine Evl.q_cut (M := fun σ' G => ∃ p : Addr, σ' = [some (.ref L), some (.int a), some (.ref p)] ∧ Same H G ∧ G p = some (.tup [])) ?_ ?_
    · exact ⟨Nat.zero_le _, fun p G1 n1 u1 h1 _ => ⟨p, rfl, u1, h1⟩⟩
    rintro σ' H1 ⟨p, rfl, u1, hp⟩
    -- the says
    refine Evl.q_cut (M := fun σ' G => ∃ (b : Nat) (p : Addr) (l : List Int), σ' = [some (.ref L), some (.int b), some (.ref p)] ∧ Ke Nof H G ∧ G p = some (.tup (l.map V.int)) ∧ Cl0 l ∧ ((l = [] ∧ b = a) ∨ (l ≠ [] ∧ a < b ∧ Creach ws b cls (.som l))) ∧ ∀ x i, ws[b]? = some x → Cl0 (l ++ [i]) → x ≠ numT i) ?_ ?_
    · refine while_by (fun σ G => ∃ (b : Nat) (p : Addr) (l : List Int), σ = [some (.ref L), some (.int b), some (.ref p)] ∧ Ke Nof H G ∧ G p = some (.tup (l.map V.int)) ∧ Cl0 l ∧ ((l = [] ∧ b = a) ∨ (l ≠ [] ∧ a < b ∧ Creach ws b cls (.som l)))) (fun σ _ => mA ws.length σ) ?_ ?_ ?_
      · exact ⟨a, p, [], rfl, .same u1, hp, cl0_nil, .inl ⟨rfl, rfl⟩⟩
      · clear hp u1 p H1
        rintro σ G ⟨b, p, l, rfl, kG, hp, cl, st⟩
        have hL := kG.lst hw.1 (fun z => z)
        have ll := cl0_len cl
        refine ⟨_, rfl, _, rfl, L, _, rfl, .inl (.of hL), _, _, rfl, rfl, _, rfl, ite2 (fun e => ?_) (fun e => ite2 (fun z => nomatch z) fun _ => ?_)⟩
        · have e : (b : Int) < ((ws.map V.str).length : Nat) := of_decide_eq_true e
          rw [List.length_map] at e
          have lb : b < ws.length := by omega
          have hx := List.getElem?_eq_getElem lb
          generalize ws[b] = x at hx
          have lx : x.length ≤ 100000 := hw.2.2 x (List.mem_of_getElem? hx)
          have hv : (ws.map V.str)[b]? = some (V.str x) := by
            rw [List.getElem?_map, hx]
            rfl
          refine ⟨_, rfl, _, rfl, _, rfl, L, _, _, .str x, rfl, rfl, .of hL, at_of (j := b) rfl hv, x, rfl, lx, fun i i1 i2 ex => ?_, fun no => ?_⟩
          · refine ⟨by show 1 ≤ sizeLine; decide, fun t G1 nt s1 ht _ => ⟨p, t, _, _, rfl, rfl, s1 _ _ hp, ht, ?_, fun p2 G2 s2 hp2 => ?_⟩⟩
            · rw [List.length_map]
              exact Nat.le_trans (by show l.length + 1 ≤ 1000; omega : _ ≤ 1000) (by decide)
            have k2 : Ke Nof H G2 := kG.trans (.same (s1.trans s2))
            refine ⟨Nof, .ref p2, .tuple (l.map PyData.int ++ [.int i]), rfl, .tup hp2 (.cat (od_ints l) (.cons (.int i) .nil)), fun ds e => ?_, k2.tabs _ t1, k2.tabs _ t2, k2.tabs _ t3, fun bb G3 hb k3 => ⟨bb, rfl, ?_⟩⟩
            · rw [← PyData.tuple.inj e, List.length_append, List.length_map]
              show l.length + 1 ≤ 60
              omega
            rw [cld_snoc] at hb
            have kH := k2.trans k3
            have hp3 : G3 p = some (.tup (l.map V.int)) := k3.tups _ _ (s2 _ _ (s1 _ _ hp))
            refine ite2 (fun eb => ?_) (fun eb => ?_)
            · have c2 := hb.mp eb
              obtain ⟨ir, il, io⟩ := (cl0_snoc cl).mp c2
              refine Evl.q_cut (M := fun σ' G' => ∃ p' : Addr, σ' = [some (.ref L), some (.int b), some (.ref p')] ∧ Same G3 G' ∧ G' p' = some (.tup ((l ++ [i]).map V.int))) ?_ ?_
              · refine ⟨_, rfl, _, rfl, _, rfl, L, _, _, .str x, rfl, rfl, .of (kH.lst hw.1 fun z => z), at_of (j := b) rfl hv, x, rfl, lx, fun j j1 j2 ej => ?_, fun no => absurd ex (no i i1 i2)⟩
                obtain rfl : j = i := numZ_inj (by omega) (by omega) (ej.symm.trans ex)
                refine ⟨by show 1 ≤ sizeLine; decide, fun t' G4 nt' s4 ht' _ => ⟨p, t', _, _, rfl, rfl, s4 _ _ hp3, ht', ?_, fun p4 G5 s5 hp5 => ?_⟩⟩
                · rw [List.length_map]
                  exact Nat.le_trans (by show l.length + 1 ≤ 1000; omega : _ ≤ 1000) (by decide)
                · refine ⟨p4, rfl, s4.trans s5, ?_⟩
                  rw [hp5, List.map_append]
                  rfl
              rintro σ' G4 ⟨p', rfl, s4, hp4⟩
              refine ⟨_, rfl, _, _, rfl, rfl, ?_⟩
              refine ⟨⟨b + 1, p', l ++ [i], rfl, kH.trans (.same s4), hp4, c2, .inr ⟨by simp, ?_, ?_⟩⟩, ?_⟩
              · rcases st with ⟨_, rfl⟩ | ⟨_, lt, _⟩ <;> omega
              · rcases st with ⟨rfl, rfl⟩ | ⟨_, _, Rb⟩
                · exact R.succ hx (by rw [ex]; exact .first i ir)
                · exact Rb.succ hx (by rw [ex]; exact .next l i ir il io)
              · show ws.length - ((b : Int) + 1).toNat < ws.length - (b : Int).toNat
                omega
            · refine ⟨b, p, l, rfl, kH, hp3, cl, st, fun y j hy c3 ey => ?_⟩
              rw [hx] at hy
              cases hy
              obtain ⟨jr, _, _⟩ := (cl0_snoc cl).mp c3
              obtain rfl : j = i := numZ_inj jr.b (by omega) (ey.symm.trans ex)
              exact eb (hb.mpr c3)
          · refine ⟨by show 1 ≤ sizeLine; decide, fun t G1 nt s1 ht _ => ⟨p, t, _, _, rfl, rfl, s1 _ _ hp, ht, ?_, fun p2 G2 s2 hp2 => ?_⟩⟩
            · rw [List.length_map]
              exact Nat.le_trans (by show l.length + 1 ≤ 1000; omega : _ ≤ 1000) (by decide)
            have k2 : Ke Nof H G2 := kG.trans (.same (s1.trans s2))
            refine ⟨Nof, .ref p2, .tuple (l.map PyData.int ++ [.none]), rfl, .tup hp2 (.cat (od_ints l) (.cons .non .nil)), fun ds e => ?_, k2.tabs _ t1, k2.tabs _ t2, k2.tabs _ t3, fun bb G3 hb k3 => ⟨bb, rfl, ?_⟩⟩
            · rw [← PyData.tuple.inj e, List.length_append, List.length_map]
              show l.length + 1 ≤ 60
              omega
            have kH := k2.trans k3
            have hp3 : G3 p = some (.tup (l.map V.int)) := k3.tups _ _ (s2 _ _ (s1 _ _ hp))
            refine ite2 (fun eb => ?_) (fun eb => ?_)
            · exact absurd (hb.mp eb) (no_say (d := .none) (List.mem_append_right _ (List.mem_singleton_self _)) rfl)
            · refine ⟨b, p, l, rfl, kH, hp3, cl, st, fun y j hy c3 ey => ?_⟩
              rw [hx] at hy
              cases hy
              obtain ⟨jr, _, _⟩ := (cl0_snoc cl).mp c3
              exact no j jr.big.1 jr.big.2 ey
        · have e : ¬ (b : Int) < ((ws.map V.str).length : Nat) := fun z => e (decide_eq_true z)
          rw [List.length_map] at e
          refine ⟨b, p, l, rfl, kG, hp, cl, st, fun y j hy c3 ey => ?_⟩
          have := (List.getElem?_eq_some_iff.mp hy).1
          omega
      · rintro σ H0 Q1 Q2 hq ⟨v, e, v2, e2, l, xs, e3, sq, i, j, e5, e6, b, e7, z⟩
        refine ⟨v, e, v2, e2, l, xs, e3, sq, i, j, e5, e6, b, e7, ?_⟩
        cases b with
        | false => exact hq _ _ z
        | true =>
          have imp : ∀ (y p : V) (G : Hp), ((1 : Nat) ≤ sizeLine ∧ New G (.tup [y]) fun t G1 => ∃ a b xs ys, p = .ref a ∧ t = .ref b ∧ G1 a = some (.tup xs) ∧ G1 b = some (.tup ys) ∧ xs.length + ys.length ≤ sizeLine ∧ ResT G1 (xs ++ ys) fun q G2 => spClG Pc Pr Po [q] G2 (fun x H' => ∃ d, x = .bl d ∧ Q1 d H') E) → ((1 : Nat) ≤ sizeLine ∧ New G (.tup [y]) fun t G1 => ∃ a b xs ys, p = .ref a ∧ t = .ref b ∧ G1 a = some (.tup xs) ∧ G1 b = some (.tup ys) ∧ xs.length + ys.length ≤ sizeLine ∧ ResT G1 (xs ++ ys) fun q G2 => spClG Pc Pr Po [q] G2 (fun x H' => ∃ d, x = .bl d ∧ Q2 d H') E) := by
            rintro y p G ⟨l1, n⟩
            refine ⟨l1, fun t G1 g1 g2 g3 g4 => ?_⟩
            obtain ⟨a, b, xs, ys, h1, h2, h3, h4, h5, r⟩ := n t G1 g1 g2 g3 g4
            refine ⟨a, b, xs, ys, h1, h2, h3, h4, h5, fun q G2 s2 hq2 => ?_⟩
            obtain ⟨f0, v, d, k1, k2, k3, k4, k5, k6, qq⟩ := r q G2 s2 hq2
            refine ⟨f0, v, d, k1, k2, k3, k4, k5, k6, fun bb H' hb k => ?_⟩
            obtain ⟨d, ed, qd⟩ := qq bb H' hb k
            exact ⟨d, ed, hq _ _ qd⟩
          obtain ⟨w0, f0, w1, f1, w2, f2, A1, n1, m1, y1, g1, g2, g3, g4, x, g5, g6, z1, z2⟩ := z
          exact ⟨w0, f0, w1, f1, w2, f2, A1, n1, m1, y1, g1, g2, g3, g4, x, g5, g6, fun i i1 i2 ex => imp _ _ _ (z1 i i1 i2 ex), fun no => imp _ _ _ (z2 no)⟩
    rintro σ' G ⟨b, p, l, rfl, kG, hp, cl, st, stop⟩
    rcases st with ⟨rfl, rfl⟩ | ⟨ne, lt, Rb⟩
    · have bad : Cbad ws b := by
        refine ⟨cls, .no, R, ?_⟩
        cases hx : ws[b]? with
        | none =>
          have := List.getElem?_eq_none_iff.mp hx
          have := R.le
          exact .inr ⟨by omega, rfl⟩
        | some x =>
          refine .inl ⟨x, rfl, fun c t st => ?_⟩
          obtain ⟨i, hi, e⟩ := first_iff.mpr ⟨⟨c, t, st⟩, fun z => nn (by rw [hx, z])⟩
          exact stop x i hx hi e
      refine Evl.q_cut (M := fun _ _ => False) ?_ fun _ _ z => z.elim
      exact ⟨_, rfl, false, .inr (.inl ⟨_, .of hp, rfl⟩), _, rfl, made_R N.O N.nf fun dx H2 _ s2 e2 => q2 b G kG bad dx H2 s2 e2⟩
    · refine Evl.q_cut (M := fun σ' G' => σ' = [some (.ref L), some (.int b), some (.ref p)] ∧ G = G') ?_ ?_
      · refine ⟨_, rfl, true, .inr (.inl ⟨_, .of hp, ?_⟩), rfl, rfl⟩
        cases l with
        | nil => exact absurd rfl ne
        | cons i r => rfl
      rintro σ' G' ⟨rfl, rfl⟩
      refine ⟨_, rfl, _, rfl, by show 2 ≤ sizeLine; decide, fun t G2 n2 u2 h2 _ => ?_⟩
      refine q1 (.som l) l t p b G2 (kG.trans (.same u2)) lt Rb rfl (fun x c t' hx st => ?_) h2 (u2 _ _ hp)
      refine Classical.byContradiction fun nx => ?_
      obtain ⟨i, hi, e⟩ := (next_iff cl ne).mpr ⟨⟨c, t', st⟩, nx⟩
      exact stop x i hx hi e
end
end Tc
namespace Tc
open PySem PySem.Spec PyProof.Rows L2 GxR Nw Dr Kp Ev1 Tw Kc Od
/-! ### a book read -/
def ClsL (H : Hp) (R : Addr) (cls : List (List Int)) : Prop := ∃ vs, H R = some (.lst vs) ∧ All2 (TupI H) vs cls
theorem tupI_wr {H : Hp} {D : Addr} {ys : List V} {o : HO} {v : V} {l : List Int} (h : TupI H v l) (hD : H D = some (.lst ys)) : TupI (upd H D o) v l := by
  obtain ⟨p, e, h⟩ := h
  exact ⟨p, e, by rw [upd_ne (fun z => by rw [z, hD] at h; cases h)]; exact h⟩
theorem Cstep.str {cls : List (List Int)} {s : Cs} {l : List Int} (e : csL s = some l) (h : cls.length < 15) : Cstep cls s "/" (cls ++ [l]) .no := by
  cases s with
  | no => cases e
  | nil =>
    cases e
    exact .stroke0 h
  | som l' =>
    cases e
    exact .stroke l h
theorem Cstep.lt {cls c : List (List Int)} {s t : Cs} {l : List Int} (h : Cstep cls s "/" c t) (e : csL s = some l) : cls.length < 15 := by
  generalize hx : ("/" : Str) = x at h
  cases h with
  | none => cases e
  | first i h => cases e
  | stroke0 h => exact h
  | stroke l h => exact h
  | next l i h _ _ => exact absurd hx.symm (num_str h)
theorem bk_of {H : Hp} {a : Addr} {vs : List V} {cls : List (List Int)} (h : H a = some (.tup vs)) (r : All2 (TupI H) vs cls) : Bk H (.ref a) cls := ⟨a, vs, rfl, h, r.1, r.2⟩
theorem WsL.ke {H H' : Hp} {L : Addr} {ws : List Str} (h : WsL H L ws) (k : Ke Nof H H') : WsL H' L ws := ⟨k.lst h.1 fun z => z, h.2⟩
structure Zb (mg : Str → Option Value) : Prop where
  z_len : mg "len" = none
  z_tuple : mg "tuple" = none
section
variable {P : Program} {w : World} {K : PySem.W.Frag} {mg : Str → Option Value} {base : Heap}
abbrev sBkf : Stmt := topS 26
theorem scBkf : FnScope ["words", "at", "claim", "claims"] ["words", "at"] (defScope sBkf) := ⟨rfl, rfl, rfl, by decide +kernel, rfl, by decide +kernel, by decide +kernel⟩
def spBkf (C Pc Pr Po : Addr) : Sp := fun vs H Q E => ∃ (L : Addr) (ws : List Str), vs = [.ref L, .int 0] ∧ WsL H L ws ∧ TabG H Pc ∧ TabG H Pr ∧ TabG H Po ∧
  (∀ (b : V) (cls : List (List Int)) H', Ke Nof H H' → Ctold ws cls → cls.length ≤ 16 → Bk H' b cls → Q b H') ∧ ∀ e H', Ke Nof H H' → Cbad ws e → Rf E C H' e
theorem ok_bkf {f fB fC C Pc Pr Po : Addr} {fd fdB fdC : FuncData} {tk : Tok} (F : Fun K "book_from" "book_from" sBkf f fd) (T : Zb mg) (M16 : mg "MOST_CLAIMS" = some (.int 16 tk))
    (FB : Fun K "behind_stroke" "behind_stroke" sBst fB fdB) (bB : Binds K fdB ["words", "at", "many", "most"] []) (gB : mg "behind_stroke" = some (.ref fB)) (GB : Gx2.FnX P w K mg base (L2.CX P w) 3 fB fdB ["words", "at", "many", "most"] (spBst C))
    (FC : Fun K "claim_from" "claim_from" sClf fC fdC) (bC : Binds K fdC ["words", "at"] []) (gC : mg "claim_from" = some (.ref fC)) (GC : Gx2.FnX P w K mg base (L2.CX P w) 7 fC fdC ["words", "at"] (spClf C Pc Pr Po)) :
    Gx2.FnX P w K mg base (L2.CX P w) 8 f fd ["words", "at"] (spBkf C Pc Pr Po) := by
  refine Gx2.okX F scBkf (fun vs H Q E h => ?_) (fun cdv A outer s H vs Q E gd0 hr h => ?_)
  · obtain ⟨L, ws, rfl, _⟩ := h
    rfl
  · obtain ⟨L, ws, rfl, hw, t1, t2, t3, q1, q2⟩ := h
    have gd : (A.deeper (envOfC "book_from" (defScope sBkf) s.heap.objs.size f cdv)).guards = some [] := gd0
    have hr3 : Room 3 _ := hr.mono (by omega)
    have hr7 : Room 7 _ := hr.mono (by omega)
    refine ⟨_, (Evl.pss_cut (ps_asg (Gx2.pe_callX GC gd hr7 (by rfl) gC FC.kp bC .nil (passes_call (takes_of rfl rfl rfl rfl) (fun _ _ _ _ h => h)) (pa_cons (pv 0) (pa_cons (pv 1) pa_nil))) (pg_tup rfl (pgs_cons (pg_name (i := 2) scBkf.nd rfl (.inl rfl)) (pgs_cons (pg_name (i := 1) scBkf.nd rfl (.inl rfl)) pgs_nil))))
      (Evl.pss_cut (ps_set (i := 3) scBkf.nd rfl (.inl rfl) (pe_lstN (pa_cons (pv 2) pa_nil)))
      (Evl.pss_cut (ps_while (passes_of rfl) (pt_cmpR op_lt (pv 1) (pe_callB call_len_seq (by rfl) T.z_len (by decide +kernel) (pa_cons (pv 0) pa_nil)) (nomark _)) (Evl.pss_cut (ps_asg (Gx2.pe_callX GC gd hr7 (by rfl) gC FC.kp bC .nil (passes_call (takes_of rfl rfl rfl rfl) (fun _ _ _ _ h => h)) (pa_cons (pv 0) (pa_cons (Gx2.pe_callX GB gd hr3 (by rfl) gB FB.kp bB .nil (passes_call (takes_of rfl rfl rfl rfl) (fun _ _ _ _ h => h)) (pa_cons (pv 0) (pa_cons (pv 1) (pa_cons (pe_callB call_len_seq (by rfl) T.z_len (by decide +kernel) (pa_cons (pv 3) pa_nil)) (pa_cons (pe_glob (v := .int 16) rfl M16 ⟨_, rfl⟩) pa_nil))))) pa_nil))) (pg_tup rfl (pgs_cons (pg_name (i := 2) scBkf.nd rfl (.inl rfl)) (pgs_cons (pg_name (i := 1) scBkf.nd rfl (.inl rfl)) pgs_nil))))
      (pss_one (ps_expr (pe_bm PySem.F.plainAttrs_list PySem.F.slot_list_append PySem.F.type_list_append mt_append (pv 3) (pa_cons (pv 2) pa_nil))))))
      (pss_one (ps_ret (pe_callTy call_tuple_ofN (by rfl) T.z_tuple (by decide +kernel) (pa_cons (pv 3) pa_nil))))))), ?_⟩
    refine Evl.q_cut (M := fun σ' H' => ∃ (b : Nat) (p : Addr) (s : Cs) (l : List Int), σ' = [some (.ref L), some (.int b), some (.ref p), none] ∧ Ke Nof H H' ∧ Creach ws b [] s ∧ csL s = some l ∧ (∀ x c t, ws[b]? = some x → Cstep [] s x c t → x = "/") ∧ H' p = some (.tup (l.map V.int))) ?_ ?_
    · refine ⟨_, rfl, _, rfl, L, ws, 0, [], rfl, hw, .zero, t1, t2, t3, fun s l t p b H1 k1 _ R1 es stop ht hp => ?_, fun e H1 k1 z => q2 e H1 k1 z⟩
      exact ⟨t, _, rfl, .of ht, rfl, _, _, rfl, _, _, rfl, rfl, b, p, s, l, rfl, k1, R1, es, stop, hp⟩
    rintro σ' H1 ⟨b, p, s0, l, rfl, k1, R1, es, stop, hp⟩
    refine Evl.q_cut (M := fun σ' H' => ∃ R : Addr, σ' = [some (.ref L), some (.int b), some (.ref p), some (.ref R)] ∧ Frs H R ∧ Ke Nof H H' ∧ ClsL H' R [l]) ?_ ?_
    · refine ⟨_, rfl, by show 1 ≤ sizeLine; decide, fun R H2 nR s2 hR _ => ⟨R, rfl, (Frs.of nR).ke0 k1, k1.trans (.same s2), _, hR, ?_⟩⟩
      exact All2.snoc (xs := []) (ys := []) .nil ⟨p, rfl, s2 _ _ hp⟩
    rintro σ' H2 ⟨R, rfl, fR, k2, hR2⟩
    refine Evl.q_cut (M := fun σ' H' => ∃ (y1 y2 : Option V) (cls : List (List Int)), σ' = [some (.ref L), y1, y2, some (.ref R)] ∧ Ke Nof H H' ∧ Ctold ws cls ∧ cls.length ≤ 16 ∧ ClsL H' R cls) ?_ ?_
    · refine while_by (fun σ H' => ∃ (b : Nat) (p : Addr) (cls0 : List (List Int)) (s : Cs) (l : List Int), σ = [some (.ref L), some (.int b), some (.ref p), some (.ref R)] ∧ Ke Nof H H' ∧ Creach ws b cls0 s ∧ csL s = some l ∧ (∀ x c t, ws[b]? = some x → Cstep cls0 s x c t → x = "/") ∧ ClsL H' R (cls0 ++ [l]) ∧ cls0.length ≤ 15) (fun σ _ => mA ws.length σ) ?_ ?_ ?_
      · exact ⟨b, p, [], s0, l, rfl, k2, R1, es, stop, hR2, by decide⟩
      · clear hR2 k2 H2 stop es R1 hp k1 H1 l s0
        rintro σ H2 ⟨b, p, cls0, s0, l, rfl, k2, R1, es, stop, ⟨vs, hR, aR⟩, l15⟩
        have hw2 := WsL.ke hw k2
        have lv := aR.1
        rw [List.length_append, List.length_singleton] at lv
        have lb := R1.le
        refine ⟨_, rfl, _, rfl, L, _, rfl, .inl (.of hw2.1), _, _, rfl, rfl, _, rfl, ite2 (fun e => ?_) (fun e => ?_)⟩
        · have e : (b : Int) < ((ws.map V.str).length : Nat) := of_decide_eq_true e
          rw [List.length_map] at e
          have hx := List.getElem?_eq_getElem (show b < ws.length by omega)
          generalize ws[b]'(by omega) = x at hx
          refine Evl.q_cut (M := fun σ' H' => ∃ (b' : Nat) (p' : Addr) (s' : Cs) (l' : List Int), σ' = [some (.ref L), some (.int b'), some (.ref p'), some (.ref R)] ∧ Ke Nof H2 H' ∧ b < b' ∧ Creach ws b' (cls0 ++ [l]) s' ∧ csL s' = some l' ∧ (∀ x c t, ws[b']? = some x → Cstep (cls0 ++ [l]) s' x c t → x = "/") ∧ H' p' = some (.tup (l'.map V.int)) ∧ cls0.length < 15) ?_ ?_
          · refine ⟨_, rfl, _, rfl, _, rfl, _, rfl, R, _, rfl, .inl (.of hR), L, ws, b, cls0.length + 1, 16, ?_, hw2, fun e1 e2 => ?_, fun no => ?_⟩
            · show [V.ref L, V.int b, V.int (vs.length : Nat), V.int 16] = _
              rw [lv]
              rfl
            · have R2 := R1.succ e1 (.str es (by omega))
              refine ⟨L, ws, b + 1, cls0 ++ [l], rfl, hw2, R2, k2.tabs _ t1, k2.tabs _ t2, k2.tabs _ t3, fun s' l' t p' b' H3 k3 lt R3 es' stop' ht hp' => ?_, fun e H3 k3 z => q2 e H3 (k2.trans k3) z⟩
              exact ⟨t, _, rfl, .of ht, rfl, _, _, rfl, _, _, rfl, rfl, b', p', s', l', rfl, k3, by omega, R3, es', stop', hp', by omega⟩
            · refine q2 b H2 k2 ⟨cls0, s0, R1, .inl ⟨x, hx, fun c t st => ?_⟩⟩
              obtain rfl := stop x c t hx st
              exact no ⟨hx, by have := st.lt es; omega⟩
          rintro σ' H3 ⟨b', p', s', l', rfl, k3, lt, R3, es', stop', hp', l14⟩
          have hR3 := k3.lst hR fun z => z
          refine ⟨_, rfl, .inl ⟨rfl, _, .of hR3⟩, _, rfl, R, _, _, rfl, rfl, hR3, small1000 (by omega), ?_⟩
          refine ⟨⟨b', p', cls0 ++ [l], s', l', rfl, (k2.trans k3).write fR hR3, R3, es', stop', ⟨_, upd_same, All2.snoc (aR.imp fun _ _ h => tupI_wr (h.ke k3) hR3) (tupI_wr ⟨p', rfl, hp'⟩ hR3)⟩, by rw [List.length_append, List.length_singleton]; omega⟩, ?_⟩
          show ws.length - (b' : Int).toNat < ws.length - (b : Int).toNat
          omega
        · have e : ¬ (b : Int) < ((ws.map V.str).length : Nat) := fun z => e (decide_eq_true z)
          rw [List.length_map] at e
          obtain rfl : b = ws.length := by omega
          exact ⟨_, _, cls0 ++ [l], rfl, k2, ⟨cls0, s0, l, es, rfl, R1⟩, by rw [List.length_append, List.length_singleton]; omega, vs, hR, aR⟩
      · rintro σ H0 Q1 Q2 hq ⟨v, e, v2, e2, l, xs, e3, sq, i, j, e5, e6, b, e7, z⟩
        exact ⟨v, e, v2, e2, l, xs, e3, sq, i, j, e5, e6, b, e7, hq _ _ z⟩
    rintro σ' H3 ⟨y1, y2, cls, rfl, k3, td, l16, vs, hR, aR⟩
    exact ⟨_, rfl, R, _, rfl, .of hR, fun p H4 np s4 hp _ => q1 _ cls H4 (k3.trans (.same s4)) td l16 (bk_of hp (aR.imp fun _ _ h => h.ke (.same s4) (F := Nof)))⟩
abbrev sRbk : Stmt := topS 30
theorem scRbk : FnScope ["text"] ["text"] (defScope sRbk) := ⟨rfl, rfl, rfl, by decide +kernel, rfl, by decide +kernel, by decide +kernel⟩
def spRbk (C Pc Pr Po : Addr) : Sp := fun vs H Q E => ∃ (x : Str), vs = [.str x] ∧ x.length ≤ 50000 ∧ TabG H Pc ∧ TabG H Pr ∧ TabG H Po ∧
  (∀ (b : V) (cls : List (List Int)) H', Ke Nof H H' → Ctold (Txt.split x " ") cls → cls.length ≤ 16 → Bk H' b cls → Q b H') ∧ ∀ e H', Ke Nof H H' → Cbad (Txt.split x " ") e → Rf E C H' e
theorem ok_rbk {f fW fK C Pc Pr Po : Addr} {fd fdW fdK : FuncData} (F : Fun K "read_book" "read_book" sRbk f fd)
    (FW : Fun K "words_of" "words_of" sWof fW fdW) (bW : Binds K fdW ["text"] []) (gW : mg "words_of" = some (.ref fW)) (GW : FnOk P w K mg base CX0 1 fW fdW ["text"] spWof)
    (FK : Fun K "book_from" "book_from" sBkf fK fdK) (bK : Binds K fdK ["words", "at"] []) (gK : mg "book_from" = some (.ref fK)) (GK : Gx2.FnX P w K mg base (L2.CX P w) 8 fK fdK ["words", "at"] (spBkf C Pc Pr Po)) :
    Gx2.FnX P w K mg base (L2.CX P w) 9 f fd ["text"] (spRbk C Pc Pr Po) := by
  refine Gx2.okX F scRbk (fun vs H Q E h => ?_) (fun cdv A outer s H vs Q E gd0 hr h => ?_)
  · obtain ⟨x, rfl, _⟩ := h
    rfl
  · obtain ⟨x, rfl, lx, t1, t2, t3, q1, q2⟩ := h
    have gd : (A.deeper (envOfC "read_book" (defScope sRbk) s.heap.objs.size f cdv)).guards = some [] := gd0
    have hr1 : Room 1 _ := hr.mono (by omega)
    have hr8 : Room 8 _ := hr.mono (by omega)
    refine ⟨_, (pss_one (ps_ret (Gx2.pe_callX GK gd hr8 (by rfl) gK FK.kp bK .nil (passes_call (takes_of rfl rfl rfl rfl) (fun _ _ _ _ h => h)) (pa_cons (pe_call GW hr1 (by rfl) gW FW.kp bW .nil pass0 (pa_cons (pv 0) pa_nil)) (pa_cons pe_int pa_nil))))), ?_⟩
    refine ⟨_, rfl, x, rfl, lx, fun p H1 np s1 hp => ?_⟩
    have k1 : Ke Nof H H1 := .same s1
    refine ⟨p, Txt.split x " ", rfl, ⟨hp, ?_, ?_⟩, k1.tabs _ t1, k1.tabs _ t2, k1.tabs _ t3, fun b cls H2 k2 td l2 hb => q1 b cls H2 (k1.trans k2) td l2 hb, fun e H2 k2 z => q2 e H2 (k1.trans k2) z⟩
    · have := (Tw.split_len x).1
      omega
    · intro y hy
      have := (Tw.split_len x).2 y hy
      omega
end
end Tc
namespace Tw
open PySem PySem.Spec PyProof.Rows L2 GxR Nw Dr Kp Ev1 Rk Od
open TL (tl len_tl)
/-! ### the text of rows -/
theorem joinL_len (S : List Nat) : ∀ ps : List (List Nat), (TL.joinL S ps).length ≤ (ps.map List.length).sum + ps.length * S.length
  | [] => Nat.zero_le _
  | [p] => by
    show p.length ≤ p.length + 0 + 1 * S.length
    omega
  | p :: q :: r => by
    have h := joinL_len S (q :: r)
    show (p ++ (S ++ TL.joinL S (q :: r))).length ≤ p.length + ((q :: r).map List.length).sum + ((q :: r).length + 1) * S.length
    rw [List.length_append, List.length_append, Nat.add_mul, Nat.one_mul]
    omega
theorem join_len (a : Str) (ys : List Str) : (Txt.join a ys).length ≤ (ys.map (·.length)).sum + ys.length * a.length := by
  have h := joinL_len (tl a) (ys.map tl)
  rw [← TL.tl_join, List.map_map, List.length_map] at h
  rw [TL.join_eq, len_tl, len_tl a]
  have e : ys.map (·.length) = ys.map (List.length ∘ tl) := List.map_congr_left fun y _ => len_tl y
  rw [e]
  exact h
theorem sum_le' {B : Nat} : ∀ {l : List Nat}, (∀ x ∈ l, x ≤ B) → l.sum ≤ B * l.length
  | [], _ => Nat.zero_le _
  | x :: r, h => by
    have h1 := h x List.mem_cons_self
    have h2 := sum_le' (l := r) fun y hy => h y (List.mem_cons_of_mem _ hy)
    rw [List.sum_cons, List.length_cons, Nat.mul_add]
    omega
theorem sum_lens {B : Nat} {ys : List Str} (h : ∀ y ∈ ys, y.length ≤ B) : (ys.map (·.length)).sum ≤ B * ys.length := by
  have := sum_le' (B := B) (l := ys.map (·.length)) fun x hx => by
    obtain ⟨y, hy, rfl⟩ := List.mem_map.mp hx
    exact h y hy
  rw [List.length_map] at this
  exact this
def rn : Rw → List Nat
  | .book n => [n]
  | .cut i j k => [i, j, k]
def rw1 : Rw → Str
  | .book _ => "book"
  | .cut _ _ _ => "cut"
theorem rn_vs (r : Rw) : r.vs = .str (rw1 r) :: (rn r).map fun n : Nat => V.int n := by cases r <;> rfl
theorem rn_cut (r : Rw) : cutV r.vs (some 1) none = (rn r).map fun n : Nat => V.int n := by cases r <;> rfl
theorem rn_le {r : Rw} (h : RwN r) : (∀ n ∈ rn r, n ≤ 300) ∧ (rn r).length ≤ 3 ∧ (rw1 r).length ≤ 4 := by
  cases r with
  | book n =>
    refine ⟨fun x hx => ?_, by show 1 ≤ 3; decide, show Str.length "book" ≤ 4 by decide +kernel⟩
    rw [List.mem_singleton.mp hx]
    exact h
  | cut i j k =>
    obtain ⟨h1, h2, h3⟩ := h
    refine ⟨fun x hx => ?_, by show 3 ≤ 3; decide, show Str.length "cut" ≤ 4 by decide +kernel⟩
    simp only [rn, List.mem_cons, List.not_mem_nil, or_false] at hx
    rcases hx with rfl | rfl | rfl <;> assumption
theorem op_catNB {X : Cx} {K : PySem.W.Frag} (h : X.K = K) : OpR X (binaryOp .Add) rCatN := op_catN
theorem sl_tupNB {X : Cx} {K : PySem.W.Frag} (h : X.K = K) : SlR X (fun x lo hi H Q => ∃ a xs, x = .ref a ∧ H a = some (.tup xs) ∧ ResT H (cutV xs lo hi) Q) := sl_tupN
theorem pi_tupB {X : Cx} {K : PySem.W.Frag} (hk : X.K = K) {tg l : Expr} {tl : TE} (hl : PE X l tl) : PI X tg l (iTup K tl) := by
  subst hk
  exact pi_tup hl
theorem pe_joinB {X : Cx} {K : PySem.W.Frag} (hk : X.K = K) {o e : Expr} {to te : TE} {apos pos : Pos} (ho : PE X o to) (he : PE X e te) (hs : starEach [e] X.env = [(false, eval e X.env)] := by rfl) (hbase : attributeBase o "join" X.env (eval o X.env) = eval o X.env := by rfl) (hline : (apos.endLine == pos.line) = true := by rfl) :
    PE X (.Call (.Attribute o "join" apos) [e] [] pos) (tM1 (fun x xs H Q => ∃ a p, ∃ ys : List Str, x = .str a ∧ xs = [.ref p] ∧ (SqL K H p (ys.map V.str) ∨ SqT K H p (ys.map V.str)) ∧ (ys.map (·.length)).sum + ys.length * a.length ≤ 16777216 ∧ Q (.str (Txt.join a ys)) H) to te) := by
  subst hk
  exact L2.pe_join ho he hs hbase hline
section
variable {P : Program} {w : World} {K : PySem.W.Frag} {mg : Str → Option Value} {base : Heap}
end
end Tw
namespace Tc
open PySem PySem.Spec PyProof.Rows L2 GxR Nw Dr Kp Ev1 Tw Kc Od
open TL (tl)
/-! ### claims and books as texts -/
def clT (cs : List Int) : Str := if cs = [] then "none" else Txt.join " " (cs.map numT)
def bkT (css : List (List Int)) : Str := Txt.join " / " (css.map clT)
theorem lgZ {i : Int} (h : -9 ≤ i ∧ i ≤ 9) : i.natAbs.log2 < 1920 := by
  rcases Int.lt_or_le i 0 with l | l
  · obtain ⟨n, hn, rfl⟩ : ∃ n : Nat, n < 999 ∧ i = -((n : Nat) : Int) := ⟨(-i).toNat, by omega, by omega⟩
    rw [Int.natAbs_neg]
    exact lg0 (by omega)
  · obtain ⟨n, rfl⟩ : ∃ n : Nat, i = n := ⟨i.toNat, by omega⟩
    exact lg0 (by omega)
def ClS (cs : List Int) : Prop := (∀ k ∈ cs, InR k) ∧ cs.length ≤ 8
theorem cls_of {cs : List Int} (h : IsCl cs) : ClS cs := ⟨fun k hk => ⟨(h.says k hk).2.1, (h.says k hk).2.2, (h.says k hk).1⟩, h.len⟩
theorem numZ_len' {i : Int} (h : InR i) : (numT i).length ≤ 4 := by
  obtain ⟨h1, h2, _⟩ := h
  rcases Int.lt_or_le i 0 with l | l
  · obtain ⟨n, hn, rfl⟩ : ∃ n : Nat, n < 999 ∧ i = -((n + 1 : Nat) : Int) := ⟨(-i).toNat - 1, by omega, by omega⟩
    obtain ⟨_, _, _, _, _, _, h⟩ := negT_get hn
    exact h
  · obtain ⟨n, rfl⟩ : ∃ n : Nat, i = n := ⟨i.toNat, by omega⟩
    exact Nat.le_trans (numT_get (n := n) (by omega)).2.2.2.1 (by decide)
theorem nums_sum {cs : List Int} (h : ClS cs) : ((cs.map numT).map (·.length)).sum + (cs.map numT).length * Str.length " " ≤ 40 := by
  have sl := sum_lens (B := 4) (ys := cs.map numT) fun y hy => by
    obtain ⟨k, hk, rfl⟩ := List.mem_map.mp hy
    exact numZ_len' (h.1 k hk)
  rw [List.length_map] at sl ⊢
  rw [show Str.length " " = 1 from by decide +kernel]
  have := h.2
  omega
theorem clT_len {cs : List Int} (h : ClS cs) : (clT cs).length ≤ 40 := by
  unfold clT
  split
  · decide +kernel
  · exact Nat.le_trans (join_len _ _) (nums_sum h)
theorem cls_sum {css : List (List Int)} (h : ∀ cs ∈ css, ClS cs) (l : css.length ≤ 20) : ((css.map clT).map (·.length)).sum + (css.map clT).length * Str.length " / " ≤ 1000 := by
  have sl := sum_lens (B := 40) (ys := css.map clT) fun y hy => by
    obtain ⟨k, hk, rfl⟩ := List.mem_map.mp hy
    exact clT_len (h k hk)
  rw [List.length_map] at sl ⊢
  rw [show Str.length " / " = 3 from by decide +kernel]
  omega
theorem bkT_len {css : List (List Int)} (h : ∀ cs ∈ css, ClS cs) (l : css.length ≤ 20) : (bkT css).length ≤ 1000 := Nat.le_trans (join_len _ _) (cls_sum h l)
structure Zh (mg : Str → Option Value) : Prop where
  z_str : mg "str" = none
section
variable {P : Program} {w : World} {K : PySem.W.Frag} {mg : Str → Option Value} {base : Heap}
abbrev sShc : Stmt := topS 17
abbrev nShc : List Str := ["claim", "say"]
theorem scShc : FnScope nShc ["claim"] (defScope sShc) := ⟨rfl, rfl, rfl, by decide +kernel, rfl, by decide +kernel, by decide +kernel⟩
def spShc : Sp := fun vs H Q _ => ∃ (v : V) (cs : List Int), vs = [v] ∧ TupI H v cs ∧ ClS cs ∧ ∀ H', Same H H' → Q (.str (clT cs)) H'
theorem ok_shc {f : Addr} {fd : FuncData} {k : Nat} {tk : Tok} (F : Fun K "show_claim" "show_claim" sShc f fd) (T : Zh mg) (MN : mg "NO_SAYS" = some (.str "none" tk)) : FnOk P w K mg base CX0 (k + 1) f fd ["claim"] spShc := by
  refine F.ok scShc (fun vs H Q E h => ?_) (fun cdv A outer s H vs Q E hr h => ?_)
  · obtain ⟨v, cs, rfl, _⟩ := h
    rfl
  · obtain ⟨v, cs, rfl, ⟨a, rfl, ha⟩, cl, q⟩ := h
    refine ⟨_, (Evl.pss_cut (ps_if (pt_not (pt_truth (pv 0) (fun _ => rfl))) (pss_one (ps_ret (pe_glob (v := .str "none") rfl MN ⟨_, rfl⟩))) pss_nil)
      (pss_one (ps_ret (pe_join pe_str (pe_lc (own := [("say", 1)]) (g := (gName 1)) (tt := tYes) rfl scShc.nd (pi_tup (pv 0)) (blkOk_by (N := nShc) (sc := defScope sShc) (by decide +kernel)) (fun _ _ _ _ _ => (pg_name (i := 1) scShc.nd rfl (.inl rfl))) (fun _ _ _ _ _ => pts_nil) (fun _ _ _ _ _ => (pe_callTy call_str_int (by rfl) T.z_str (by decide +kernel) (pa_cons (pv 1) pa_nil)))))))), ?_⟩
    refine Evl.q_cut (M := fun σ' G => σ' = [some (.ref a), none] ∧ H = G ∧ cs ≠ []) ?_ ?_
    · by_cases z : cs = []
      · subst z
        exact ⟨_, rfl, false, .inr (.inl ⟨_, .of ha, rfl⟩), q H (Same.refl _)⟩
      · refine ⟨_, rfl, true, .inr (.inl ⟨_, .of ha, ?_⟩), rfl, rfl, z⟩
        cases cs with
        | nil => exact absurd rfl z
        | cons i r => rfl
    rintro σ' G ⟨rfl, rfl, ne⟩
    refine ⟨⟨_, rfl⟩, _, rfl, a, rfl, ⟨_, .of ha⟩, fun Z nZ => ?_⟩
    refine lc_tup (xs := cs.map V.int) (Pv := fun u H' => Same H H' ∧ H' Z = some (.lst (((cs.take u).map numT).map V.str))) ⟨same_new nZ, upd_same⟩ (fun u H' _ z => .of (z.1 _ _ ha)) ?_ ?_
    · rintro u x H4 hx ⟨s4, hZ⟩
      rw [List.getElem?_map] at hx
      obtain ⟨n, hn, rfl⟩ := Option.map_eq_some_iff.mp hx
      have kn := cl.1 n (List.mem_of_getElem? hn)
      obtain ⟨k1, k2, _⟩ := kn
      refine ⟨rfl, _, rfl, n, rfl, lgZ ⟨by omega, by omega⟩, _, hZ, small1000 (by rw [List.length_map, List.length_map, List.length_take]; have := cl.2; omega), same_wr s4 nZ, ?_⟩
      rw [upd_same, List.take_add_one, hn, List.map_append, List.map_append]
      rfl
    · rintro H4 ⟨s4, hZ⟩
      rw [List.length_map, List.take_length] at hZ
      refine ⟨_, Z, cs.map numT, rfl, rfl, .inl (.of hZ), Nat.le_trans (nums_sum cl) (by decide), ?_⟩
      have r := q H4 s4
      unfold clT at r
      rw [if_neg ne] at r
      exact r
abbrev sShb : Stmt := topS 18
abbrev nShb : List Str := ["book", "shown", "claim"]
theorem scShb : FnScope nShb ["book"] (defScope sShb) := ⟨rfl, rfl, rfl, by decide +kernel, rfl, by decide +kernel, by decide +kernel⟩
def spShb : Sp := fun vs H Q _ => ∃ (v : V) (css : List (List Int)), vs = [v] ∧ Bk H v css ∧ (∀ cs ∈ css, ClS cs) ∧ css.length ≤ 20 ∧ ∀ H', Same H H' → Q (.str (bkT css)) H'
theorem ok_shb {f fC : Addr} {fd fdC : FuncData} {k : Nat} {tk : Tok} (F : Fun K "show_book" "show_book" sShb f fd) (MB : mg "BETWEEN" = some (.str " / " tk))
    (FC : Fun K "show_claim" "show_claim" sShc fC fdC) (bC : Binds K fdC ["claim"] []) (gC : mg "show_claim" = some (.ref fC)) (GC : FnOk P w K mg base CX0 1 fC fdC ["claim"] spShc) : FnOk P w K mg base CX0 (k + 2) f fd ["book"] spShb := by
  refine F.ok scShb (fun vs H Q E h => ?_) (fun cdv A outer s H vs Q E hr h => ?_)
  · obtain ⟨v, css, rfl, _⟩ := h
    rfl
  · obtain ⟨v, css, rfl, ⟨a, vs, rfl, ha, lv, at_⟩, cl, l20, q⟩ := h
    have hr1 : Room 1 _ := hr.mono (by omega)
    refine ⟨_, (Evl.pss_cut (ps_setLc (i := 1) (own := [("claim", 2)]) (g := (gName 2)) (tt := tYes) rfl scShb.nd rfl rfl (sw_true rfl rfl rfl (by decide +kernel)) (pi_tup (pv 0)) (blkOk_by (N := nShb) (sc := defScope sShb) (by decide +kernel)) (fun _ _ _ _ _ => (pg_name (i := 2) scShb.nd rfl (.inl rfl))) (fun _ _ _ _ _ => pts_nil) (fun _ _ _ _ _ => (pe_call GC hr1 (by rfl) gC FC.kp bC .nil pass0 (pa_cons (pv 2) pa_nil))))
      (pss_one (ps_ret (pe_join (pe_glob (v := .str " / ") rfl MB ⟨_, rfl⟩) (pv 1))))), ?_⟩
    refine Evl.q_cut (M := fun σ' G => ∃ (Z : Addr) (y : Option V), σ' = [some (.ref a), some (.ref Z), y] ∧ Same H G ∧ G Z = some (.lst ((css.map clT).map V.str))) ?_ ?_
    · refine ⟨_, rfl, a, rfl, ⟨_, .of ha⟩, fun Z nZ => ?_⟩
      refine lc_tup (xs := vs) (Pv := fun u H' => Same H H' ∧ H' Z = some (.lst (((css.take u).map clT).map V.str))) ⟨same_new nZ, upd_same⟩ (fun u H' _ z => .of (z.1 _ _ ha)) ?_ ?_
      · rintro u x H4 hx ⟨s4, hZ⟩
        have lu := (List.getElem?_eq_some_iff.mp hx).1
        have hc := List.getElem?_eq_getElem (show u < css.length by omega)
        generalize css[u]'(by omega) = cs at hc
        have ti := at_ u x cs hx hc
        refine ⟨rfl, _, rfl, x, cs, rfl, ti.ke (.same s4) (F := Nof), cl cs (List.mem_of_getElem? hc), fun H5 s5 => ?_⟩
        refine ⟨_, s5 _ _ hZ, small1000 (by rw [List.length_map, List.length_map, List.length_take]; omega), same_wr (s4.trans s5) nZ, ?_⟩
        rw [upd_same, List.take_add_one, hc, List.map_append, List.map_append]
        rfl
      · rintro H4 ⟨s4, hZ⟩
        rw [lv, List.take_length] at hZ
        exact ⟨Z, _, rfl, s4, hZ⟩
    rintro σ' G ⟨Z, y, rfl, s1, hZ⟩
    exact ⟨⟨_, rfl⟩, _, rfl, _, Z, css.map clT, rfl, rfl, .inl (.of hZ), Nat.le_trans (cls_sum cl l20) (by decide), q G s1⟩
end
end Tc
namespace Nw
open PySem PySem.Spec PyProof.Rows L2
theorem prg_cl {X : Cx} {e : Expr} {te : L2.St → Hp → (Int → Int → Hp → Prop) → Prop} (he : PRg X e te) : PRg X e (fun σ H Q => ∃ R : Int → Int → Hp → Prop, (∀ a b H1, R a b H1 → Q a b H1) ∧ te σ H R) := by
  intro pins s σ H Q I ⟨R, i, q⟩
  refine thn (he pins s σ H R I q) fun x s1 ⟨r, a, b, t, u, v, H1, ex, hr, I1, z⟩ => ⟨r, a, b, t, u, v, H1, ex, hr, I1, i a b H1 z⟩
theorem pe_listRgN {X : Cx} {e : Expr} {te : L2.St → Hp → (Int → Int → Hp → Prop) → Prop} {p pos : Pos} (hc : X.calm = true) (hg : Gl X "list") (hm : X.mg "list" = none) (he : PRg X e te) (na : starEach [e] X.env = (false, eval e X.env) :: starEach [] X.env := by rfl) :
    PE X (.Call (.Name "list" p) [e] [] pos) (fun σ H Q => te σ H fun a b H1 => RgOk a b ∧ New H1 (.lst (rgV a b)) Q) :=
  pe_weak (pe_listRg hc hg hm (prg_cl he) na) fun _ _ _ q => ⟨_, fun _ _ _ z => ⟨z.1, z.2.to⟩, q⟩
end Nw
namespace Cl
open PySem PySem.Spec PyProof.Rows L2 GxR Nw Dr Kp
abbrev sClm : Stmt := topS 37
abbrev sBok : Stmt := topS 38
theorem scClm : FnScope ["pen", "most", "wide", "things", "found", "turn", "thing"] ["pen", "most", "wide"] (defScope sClm) := ⟨rfl, rfl, rfl, by decide +kernel, rfl, by decide +kernel, by decide +kernel⟩
theorem scBok : FnScope ["pen", "most", "many", "wide", "found", "turn", "claim"] ["pen", "most"] (defScope sBok) := ⟨rfl, rfl, rfl, by decide +kernel, rfl, by decide +kernel, by decide +kernel⟩
/-- the built-ins that stand as they stood -/
structure Zs (mg : Str → Option Value) : Prop where
  z_len : mg "len" = none
  z_list : mg "list" = none
  z_range : mg "range" = none
  z_min : mg "min" = none
  z_tuple : mg "tuple" = none
  z_sorted : mg "sorted" = none
/-- things: numbers from 1 to 8, none twice -/
structure Thg (ks : List Int) : Prop where
  nd : ks.Nodup
  one : ∀ k ∈ ks, 1 ≤ k ∧ k ≤ 8
  len : ks.length ≤ 8
theorem perm_pop : ∀ {l : List Int} {d : Nat} {y : Int}, l[d]? = some y → (y :: l.eraseIdx d).Perm l
  | [], _, _, h => by simp at h
  | a :: r, 0, y, h => by
    have e : a = y := Option.some.inj h
    subst e
    exact .refl _
  | a :: r, d + 1, y, h => by
    have ih := perm_pop (l := r) (d := d) (y := y) h
    exact (List.Perm.swap a y _).trans (.cons a ih)
theorem erase_len {l : List Int} {d : Nat} (h : d < l.length) : (l.eraseIdx d).length = l.length - 1 := List.length_eraseIdx_of_lt h
theorem erase_map : ∀ (l : List Int) (d : Nat), (l.map V.int).eraseIdx d = (l.eraseIdx d).map V.int
  | [], _ => rfl
  | _ :: _, 0 => rfl
  | a :: r, d + 1 => congrArg (V.int a :: ·) (erase_map r d)
theorem ix_seq {d : Int} {n : Nat} (h0 : 0 ≤ d) (h1 : d < (n : Int)) : seqIndex? d n = some d.toNat := by
  have e : ixN n d = some d.toNat := by
    unfold ixN
    rw [if_pos h0, if_pos h1]
  exact (ixN_seq e).1
theorem abs_nd : ∀ {l : List Int}, (l.map fun s => (s.natAbs : Int)).Nodup → l.Nodup ∧ ∀ k ∈ l, k ≠ 0 → -k ∉ l := fun {l} h => by
  refine ⟨(List.pairwise_map.mp h).imp (fun {a b} z e => z (by rw [e])), fun k hk h0 hn => ?_⟩
  have inj : ∀ a ∈ l, ∀ b ∈ l, (a.natAbs : Int) = b.natAbs → a = b := fun a ha b hb e => by
    obtain ⟨i, hi, ei⟩ := List.getElem_of_mem ha
    obtain ⟨j, hj, ej⟩ := List.getElem_of_mem hb
    have hij : (l.map fun s => (s.natAbs : Int))[i]'(by rw [List.length_map]; exact hi) = (l.map fun s => (s.natAbs : Int))[j]'(by rw [List.length_map]; exact hj) := by
      rw [List.getElem_map, List.getElem_map, ei, ej]
      exact e
    have := (List.getElem_inj h).mp hij
    subst this
    rw [← ei, ← ej]
  have := inj k hk (-k) hn (by omega)
  omega
theorem cl_of {says left ks ns : List Int} (T : Thg ks) (pm : ((says.map fun s => (s.natAbs : Int)) ++ left).Perm ks) (pn : ns.Perm says) (so : ns.Pairwise (· ≤ ·)) : IsCl ns ∧ ∀ s ∈ ns, (s.natAbs : Int) ∈ ks := by
  have nd := (List.nodup_append.mp (pm.nodup_iff.mpr T.nd)).1
  obtain ⟨n1, n2⟩ := abs_nd nd
  have mem : ∀ s ∈ ns, (s.natAbs : Int) ∈ ks := fun s hs => pm.mem_iff.mp (List.mem_append_left _ (List.mem_map.mpr ⟨s, pn.mem_iff.mp hs, rfl⟩))
  have nn : ns.Nodup := pn.nodup_iff.mpr n1
  have bd : ∀ s ∈ ns, s ≠ 0 ∧ -8 ≤ s ∧ s ≤ 8 := fun s hs => by
    have := T.one _ (mem s hs)
    omega
  refine ⟨⟨?_, bd, fun k hk hn => n2 k (pn.mem_iff.mp hk) (bd k hk).1 (pn.mem_iff.mp hn), ?_⟩, mem⟩
  · have := List.Pairwise.and so nn
    exact this.imp fun {a b} h => by
      obtain ⟨h1, h2⟩ := h
      omega
  · have l1 := pn.length_eq
    have l2 := pm.length_eq
    rw [List.length_append, List.length_map] at l2
    have := T.len
    omega
/-- a list of claims as it grows -/
def Ls (H : Hp) (L : Addr) (css : List (List Int)) : Prop := ∃ vs, H L = some (.lst vs) ∧ vs.length = css.length ∧ ∀ (i : Nat) (x : V) (cs : List Int), vs[i]? = some x → css[i]? = some cs → TupI H x cs
theorem ix_append {α β : Type} {R : α → β → Prop} {vs : List α} {ys : List β} {v : α} {y : β} (l : vs.length = ys.length) (h : ∀ (i : Nat) (x : α) (z : β), vs[i]? = some x → ys[i]? = some z → R x z) (r : R v y) :
    ∀ (i : Nat) (x : α) (z : β), (vs ++ [v])[i]? = some x → (ys ++ [y])[i]? = some z → R x z := by
  intro i x z h1 h2
  by_cases hi : i < vs.length
  · rw [List.getElem?_append_left hi] at h1
    rw [List.getElem?_append_left (by omega)] at h2
    exact h i x z h1 h2
  · have e : i = vs.length := by
      have := (List.getElem?_eq_some_iff.mp h1).1
      rw [List.length_append, List.length_singleton] at this
      omega
    subst e
    rw [List.getElem?_append_right (Nat.le_refl _), Nat.sub_self] at h1
    rw [List.getElem?_append_right (by omega), show vs.length - ys.length = 0 by omega] at h2
    cases h1
    cases h2
    exact r

theorem rg_ints (a b : Int) : rgV a b = ((List.range (b - a).toNat).map fun i => a + ((i : Nat) : Int)).map V.int := by
  unfold rgV
  rw [List.map_map]
  rfl
theorem rg_thg {m : Int} (h0 : 0 ≤ m) (h8 : m ≤ 8) : Thg ((List.range (m + 1 - 1).toNat).map fun i => (1 : Int) + ((i : Nat) : Int)) := by
  refine ⟨?_, fun k hk => ?_, ?_⟩
  · refine List.pairwise_map.mpr (List.Pairwise.imp (fun {a b} z e => z ?_) List.nodup_range)
    omega
  · obtain ⟨i, hi, rfl⟩ := List.mem_map.mp hk
    have := List.mem_range.mp hi
    omega
  · rw [List.length_map, List.length_range]
    omega
section
variable {P : Program} {w : World} {K : PySem.W.Frag} {mg : Str → Option Value} {base : Heap} {fD fM : Addr} {fdD fdM : FuncData}
/-- claim(pen, most, wide) -/
def spClm : Sp := fun vs H Q _ => ∃ (f c : Addr) (mo wi : Int) (B : Nat), vs = [.ref f, .int mo, .int wi] ∧ 1 ≤ mo ∧ mo ≤ 8 ∧ 0 ≤ wi ∧ wi ≤ 8 ∧ Feed H f c B ∧ B ≤ 2 ^ 27 ∧
  ∀ (cs : List Int) (p : Addr) (H' : Hp), Feed H' f c (B + 20) → Ke (· = f) H H' → Frs H p → H' p = some (.tup (cs.map V.int)) → IsCl cs → (∀ s ∈ cs, (s.natAbs : Int) ≤ mo) → (cs.length : Int) ≤ wi → Q (.ref p) H'
theorem ok_clm {f : Addr} {fd : FuncData} {k : Nat} (F : Fun K "_law_e_claim" "_law_e_claim" sClm f fd) (T : Zs mg) (FD : Fun K "_law_e_take" "_law_e_take" sDrw fD fdD) (bD : Binds K fdD ["pen", "many"] []) (gD : mg "_law_e_take" = some (.ref fD)) (GD : FnOk P w K mg base CX0 2 fD fdD ["pen", "many"] spDrw) :
    FnOk P w K mg base CX0 (k + 3) f fd ["pen", "most", "wide"] spClm := by
  refine F.ok scClm (fun vs H Q E h => ?_) (fun cdv A outer s H vs Q E hr h => ?_)
  · obtain ⟨f, c, mo, wi, B, rfl, _⟩ := h
    rfl
  · obtain ⟨f, c, mo, wi, B, rfl, m1, m8, w0, w8, hF, hB, q⟩ := h
    have hr2 : Room 2 _ := hr.mono (by omega)
    refine ⟨_, (Evl.pss_cut (ps_set (i := 3) scClm.nd rfl (.inl rfl) (pe_listRgN rfl (by rfl) T.z_list (prg_2 (by rfl) T.z_range pe_int (pe_op op_add (pv 1) pe_int))))
      (pss_cons (ps_set (i := 4) scClm.nd rfl (.inl rfl) (pe_lstN pa_nil))
      (Evl.pss_cut (ps_for PassesOwn.never rfl (pi_range1 (by rfl) T.z_range (pa_cons (pe_callB (call_min2 rfl) (by rfl) T.z_min (by decide +kernel) (pa_cons (pv 1) (pa_cons (pe_call GD hr2 (by rfl) gD FD.kp bD .nil pass0 (pa_cons (pv 0) (pa_cons (pe_op op_add (pv 2) pe_int) pa_nil))) pa_nil))) pa_nil)) (pg_name (i := 5) scClm.nd rfl (.inl rfl)) (pss_cons (ps_set (i := 6) scClm.nd rfl (.inl rfl) (pe_bm PySem.F.plainAttrs_list PySem.F.slot_list_pop PySem.F.type_list_pop mt_popAt (pv 3) (pa_cons (pe_call GD hr2 (by rfl) gD FD.kp bD .nil pass0 (pa_cons (pv 0) (pa_cons (pe_callB call_len_seq (by rfl) T.z_len (by decide +kernel) (pa_cons (pv 3) pa_nil)) pa_nil))) pa_nil)))
      (pss_one (ps_expr (pe_bm PySem.F.plainAttrs_list PySem.F.slot_list_append PySem.F.type_list_append mt_append (pv 4) (pa_cons (pe_ix ix_list (pe_lstN (pa_cons (pv 6) (pa_cons (pe_op op_sub pe_int (pv 6)) pa_nil))) (pe_call GD hr2 (by rfl) gD FD.kp bD .nil pass0 (pa_cons (pv 0) (pa_cons pe_int pa_nil))) (fun _ _ => rfl)) pa_nil))))))
      (pss_one (ps_ret (pe_callTy call_tuple_ofN (by rfl) T.z_tuple (by decide +kernel) (pa_cons (pe_callB cr_sortedN (by rfl) T.z_sorted (by decide +kernel) (pa_cons (pv 4) pa_nil)) pa_nil))))))), ?_⟩
    have Tk := rg_thg (by omega : 0 ≤ mo) m8
    have mk : ∀ k ∈ ((List.range (mo + 1 - 1).toNat).map fun i => (1 : Int) + ((i : Nat) : Int)), k ≤ mo := fun k hk => by
      obtain ⟨i, hi, rfl⟩ := List.mem_map.mp hk
      have := List.mem_range.mp hi
      omega
    have lk : (((List.range (mo + 1 - 1).toNat).map fun i => (1 : Int) + ((i : Nat) : Int)).length : Int) = mo := by
      rw [List.length_map, List.length_range]
      omega
    have rg := rg_ints 1 (mo + 1)
    generalize ((List.range (mo + 1 - 1).toNat).map fun i => (1 : Int) + ((i : Nat) : Int)) = ks at Tk mk lk rg
    -- things
    refine Evl.q_cut (M := fun σ' H' => ∃ L, σ' = [some (.ref f), some (.int mo), some (.int wi), some (.ref L), none, none, none] ∧ H L = none ∧ Same H H' ∧ H' L = some (.lst (ks.map V.int))) ?_ ?_
    · exact ⟨_, rfl, _, _, rfl, rfl, 1, mo + 1, rfl, rfl, .of_le (by omega) (by omega) (by omega) (by omega), fun L H1 nL s1 hL _ => ⟨L, rfl, nL, s1, rg ▸ hL⟩⟩
    rintro σ' H1 ⟨L, rfl, nL, s1, hL⟩
    refine ⟨Nat.zero_le _, fun S H2 nS s2 hS _ => ?_⟩
    have F2 : Feed H2 f c B := hF.same (s1.trans s2)
    have nLf : L ≠ f := hF.nf nL
    have nLc : L ≠ c := hF.nc nL
    have nSL : S ≠ L := Ne.symm (ne_of_none hL nS)
    have nSf : S ≠ f := (hF.same s1).nf nS
    have nSc : S ≠ c := (hF.same s1).nc nS
    have frL : Frs H L := .of nL
    have frS : Frs H S := .of (s1.free nS)
    have hL2 : H2 L = some (.lst (ks.map V.int)) := s2 _ _ hL
    -- the loop
    refine Evl.q_cut (M := fun σ' H' => ∃ (y5 y6 : Option V) (left says : List Int), σ' = [some (.ref f), some (.int mo), some (.int wi), some (.ref L), some (.ref S), y5, y6] ∧ Feed H' f c (B + 20) ∧ Ke (· = f) H H' ∧ H' S = some (.lst (says.map V.int)) ∧ (says.length : Int) ≤ wi ∧ ((says.map fun s => (s.natAbs : Int)) ++ left).Perm ks) ?_ ?_
    · refine ⟨_, rfl, _, rfl, _, rfl, _, _, rfl, rfl, f, c, _, B, rfl, by omega, by omega, F2, by omega, fun d H3 d0 d1 F3 b3 => ?_⟩
      refine ⟨_, _, rfl, ?_⟩
      generalize hn : (if d < mo then d else mo) = n
      have n0 : 0 ≤ n ∧ n ≤ wi ∧ n ≤ mo := by
        split at hn <;> omega
      have tl := Tk.len
      have hL3 : H3 L = some (.lst (ks.map V.int)) := b3.lst hL2 nLf
      have hS3 : H3 S = some (.lst (([] : List Int).map V.int)) := b3.lst hS nSf
      have k3 : Ke (· = f) H H3 := (Ke.same (s1.trans s2)).trans b3
      refine ⟨n, rfl, by omega, by omega, for_range (Pv := fun i σ H' => ∃ (y5 y6 : Option V) (left says : List Int), σ = [some (.ref f), some (.int mo), some (.int wi), some (.ref L), some (.ref S), y5, y6] ∧ Feed H' f c (B + 1 + 2 * i) ∧ Ke (· = f) H H' ∧ H' L = some (.lst (left.map V.int)) ∧ H' S = some (.lst (says.map V.int)) ∧
        left.length = ks.length - i ∧ says.length = i ∧ ((says.map fun s => (s.natAbs : Int)) ++ left).Perm ks) ?_ ?_ ?_⟩
      · exact ⟨none, none, ks, [], rfl, F3, k3, hL3, hS3, rfl, rfl, .refl _⟩
      · rintro i σ H' hi ⟨y5, y6, left, says, rfl, F4, k4, hL4, hS4, ll, ls, pm⟩
        have hi : i < n.toNat := hi
        refine ⟨_, rfl, .inl ⟨rfl, _, .of hL4⟩, _, rfl, _, rfl, L, _, rfl, .inl (.of hL4), f, c, _, B + 1 + 2 * i, rfl, ?_, ?_, F4, by omega, fun d H5 d0 d1 F5 b5 => ?_⟩
        · rw [List.length_map]
          omega
        · rw [List.length_map]
          omega
        rw [List.length_map] at d1
        have dl : d.toNat < left.length := by omega
        have hL5 : H5 L = some (.lst (left.map V.int)) := b5.lst hL4 nLf
        have hS5 : H5 S = some (.lst (says.map V.int)) := b5.lst hS4 nSf
        have k5 : Ke (· = f) H H5 := k4.trans b5
        refine ⟨L, _, d, d.toNat, .int left[d.toNat], rfl, rfl, hL5, by omega, by omega, by rw [List.length_map]; exact ix_seq d0 d1, by rw [List.getElem?_map, List.getElem?_eq_getElem dl]; rfl, ?_⟩
        have pp := perm_pop (List.getElem?_eq_getElem dl)
        have y1 := Tk.one left[d.toNat] (pm.mem_iff.mp (List.mem_append_right _ (List.getElem_mem dl)))
        generalize left[d.toNat] = y at pp y1
        have F6 : Feed (upd H5 L (.lst ((left.map V.int).eraseIdx d.toNat))) f c (B + 1 + 2 * i + 1) := F5.upd nLf nLc
        have k6 : Ke (· = f) H (upd H5 L (.lst ((left.map V.int).eraseIdx d.toNat))) := k5.write frL hL5
        have hL6 : (upd H5 L (.lst ((left.map V.int).eraseIdx d.toNat))) L = some (.lst ((left.eraseIdx d.toNat).map V.int)) := by rw [upd_same, erase_map]
        have hS6 : (upd H5 L (.lst ((left.map V.int).eraseIdx d.toNat))) S = some (.lst (says.map V.int)) := by rw [upd_ne nSL]; exact hS5
        generalize (upd H5 L (.lst ((left.map V.int).eraseIdx d.toNat))) = H6 at F6 k6 hL6 hS6 ⊢
        -- found.append([thing, 0 - thing][..])
        refine ⟨_, rfl, .inl ⟨rfl, _, .of hS6⟩, _, rfl, _, rfl, _, _, rfl, rfl, by show 2 ≤ sizeLine; decide, fun p H7 np s7 hp _ => ?_⟩
        refine ⟨_, rfl, f, c, 2, B + 1 + 2 * i + 1, rfl, by decide, by decide, F6.same s7, by omega, fun e H8 e0 e1 F8 b8 => ?_⟩
        have npf : p ≠ f := F6.nf np
        have hp8 := b8.lst hp npf
        have hS8 : H8 S = some (.lst (says.map V.int)) := b8.lst (s7 _ _ hS6) nSf
        have hL8 : H8 L = some (.lst ((left.eraseIdx d.toNat).map V.int)) := b8.lst (s7 _ _ hL6) nLf
        have k8 : Ke (· = f) H H8 := (k6.trans (.same s7)).trans b8
        have two : e = 0 ∨ e = 1 := by omega
        have go : ∀ z : Int, (z.natAbs : Int) = y → ((says ++ [z]).map (fun s => (s.natAbs : Int)) ++ left.eraseIdx d.toNat).Perm ks := fun z hz => by
          refine List.Perm.trans ?_ pm
          rw [List.map_append, List.append_assoc, List.map_singleton, hz]
          exact (List.Perm.refl _).append pp
        rcases two with rfl | rfl
        · refine ⟨p, _, 0, .int y, rfl, rfl, .of hp8, rfl, S, _, _, rfl, rfl, hS8, by rw [List.length_map]; exact small1000 (by omega), ?_⟩
          refine ⟨_, _, left.eraseIdx d.toNat, says ++ [y], rfl, (F8.upd nSf nSc).mono (by omega), k8.write frS hS8, by rw [upd_ne (Ne.symm nSL)]; exact hL8, by rw [upd_same, List.map_append]; rfl, by rw [erase_len dl]; omega, by rw [List.length_append, ls]; rfl, go y (by omega)⟩
        · refine ⟨p, _, 1, .int (0 - y), rfl, rfl, .of hp8, rfl, S, _, _, rfl, rfl, hS8, by rw [List.length_map]; exact small1000 (by omega), ?_⟩
          refine ⟨_, _, left.eraseIdx d.toNat, says ++ [0 - y], rfl, (F8.upd nSf nSc).mono (by omega), k8.write frS hS8, by rw [upd_ne (Ne.symm nSL)]; exact hL8, by rw [upd_same, List.map_append]; rfl, by rw [erase_len dl]; omega, by rw [List.length_append, ls]; rfl, go (0 - y) (by omega)⟩
      · rintro σ H' ⟨y5, y6, left, says, rfl, F4, k4, hL4, hS4, ll, ls, pm⟩
        exact ⟨y5, y6, left, says, rfl, F4.mono (by omega), k4, hS4, by omega, pm⟩
    rintro σ' H3 ⟨y5, y6, left, says, rfl, F3, k3, hS3, ls, pm⟩
    refine ⟨_, rfl, S, says, rfl, .of hS3, fun ns pn so p H4 np s4 hp _ => ?_⟩
    refine ⟨p, _, rfl, .of hp, fun p2 H5 np2 s5 hp2 _ => ?_⟩
    obtain ⟨h1, h2⟩ := cl_of Tk pm pn so
    refine q ns p2 H5 (F3.same (s4.trans s5)) (k3.trans (.same (s4.trans s5))) (.ke k3 F3 (.of (s4.free np2))) hp2 h1 (fun s hs => mk _ (h2 s hs)) ?_
    rw [pn.length_eq]
    exact ls
/-- the claim cs is of the things 1 to m -/
def Of (m : Int) (cs : List Int) : Prop := IsCl cs ∧ ∀ s ∈ cs, (s.natAbs : Int) ≤ m
theorem of_one {m k0 : Int} (h1 : 1 ≤ k0) (h2 : k0 ≤ m) (h8 : m ≤ 8) : Of m [k0] := by
  refine ⟨⟨.cons (fun _ h => (nomatch h)) .nil, fun k hk => ?_, fun k hk hn => ?_, by show 1 ≤ 8; decide⟩, fun s hs => ?_⟩
  · rw [List.mem_singleton.mp hk]
    omega
  · rw [List.mem_singleton.mp hk] at hn
    have := List.mem_singleton.mp hn
    omega
  · rw [List.mem_singleton.mp hs]
    omega
/-- book(pen, most) -/
def spBok : Sp := fun vs H Q _ => ∃ (f c : Addr) (m : Int) (B : Nat), vs = [.ref f, .int m] ∧ 1 ≤ m ∧ m ≤ 8 ∧ Feed H f c B ∧ B ≤ 2 ^ 26 ∧
  ∀ (css : List (List Int)) (p : Addr) (H' : Hp), Feed H' f c (B + 500) → Ke (· = f) H H' → Frs H p → Bk H' (.ref p) css → (∀ cs ∈ css, Of m cs) → 1 ≤ css.length → css.length ≤ 16 → Q (.ref p) H'
theorem ok_bok {f fC : Addr} {fd fdC : FuncData} {k : Nat} (F : Fun K "_law_e_book" "_law_e_book" sBok f fd) (T : Zs mg) (FD : Fun K "_law_e_take" "_law_e_take" sDrw fD fdD) (bD : Binds K fdD ["pen", "many"] []) (gD : mg "_law_e_take" = some (.ref fD)) (GD : FnOk P w K mg base CX0 2 fD fdD ["pen", "many"] spDrw)
    (FC : Fun K "_law_e_claim" "_law_e_claim" sClm fC fdC) (bC : Binds K fdC ["pen", "most", "wide"] []) (gC : mg "_law_e_claim" = some (.ref fC)) (GC : FnOk P w K mg base CX0 3 fC fdC ["pen", "most", "wide"] spClm) :
    FnOk P w K mg base CX0 (k + 4) f fd ["pen", "most"] spBok := by
  refine F.ok scBok (fun vs H Q E h => ?_) (fun cdv A outer s H vs Q E hr h => ?_)
  · obtain ⟨f, c, m, B, rfl, _⟩ := h
    rfl
  · obtain ⟨f, c, m, B, rfl, m0, m8, hF, hB, q⟩ := h
    have hr2 : Room 2 _ := hr.mono (by omega)
    have hr3 : Room 3 _ := hr.mono (by omega)
    refine ⟨_, (Evl.pss_cut (ps_set (i := 2) scBok.nd rfl (.inl rfl) (pe_ix ix_list (pe_lstN (pa_cons pe_int (pa_cons pe_int (pa_cons pe_int (pa_cons pe_int pa_nil))))) (pe_call GD hr2 (by rfl) gD FD.kp bD .nil pass0 (pa_cons (pv 0) (pa_cons pe_int pa_nil))) (fun _ _ => rfl)))
      (Evl.pss_cut (ps_set (i := 3) scBok.nd rfl (.inl rfl) (pe_ix ix_list (pe_lstN (pa_cons pe_int (pa_cons pe_int (pa_cons pe_int (pa_cons pe_int (pa_cons pe_int pa_nil)))))) (pe_call GD hr2 (by rfl) gD FD.kp bD .nil pass0 (pa_cons (pv 0) (pa_cons pe_int pa_nil))) (fun _ _ => rfl)))
      (pss_cons (ps_set (i := 4) scBok.nd rfl (.inl rfl) (pe_lstN pa_nil))
      (Evl.pss_cut (ps_for PassesOwn.never rfl (pi_range1 (by rfl) T.z_range (pa_cons (pe_op op_add pe_int (pe_call GD hr2 (by rfl) gD FD.kp bD .nil pass0 (pa_cons (pv 0) (pa_cons (pv 2) pa_nil)))) pa_nil)) (pg_name (i := 5) scBok.nd rfl (.inl rfl)) (Evl.pss_cut (ps_set (i := 6) scBok.nd rfl (.inl rfl) (pe_call GC hr3 (by rfl) gC FC.kp bC .nil pass0 (pa_cons (pv 0) (pa_cons (pv 1) (pa_cons (pv 3) pa_nil)))))
      (Evl.pss_cut (ps_if (PW.pt (pw_and (pt_cmpR (op_eqD hr.units) (pv 6) (pe_tupN pa_nil) (nomark _)) (pw_and1 (pt_cmpR op_gt (pe_call GD hr2 (by rfl) gD FD.kp bD .nil pass0 (pa_cons (pv 0) (pa_cons pe_int pa_nil))) pe_int (nomark _))))) (pss_one (ps_set (i := 6) scBok.nd rfl (.inl rfl) (pe_tupN (pa_cons (pe_op op_add pe_int (pe_call GD hr2 (by rfl) gD FD.kp bD .nil pass0 (pa_cons (pv 0) (pa_cons (pv 1) pa_nil)))) pa_nil)))) pss_nil)
      (pss_one (ps_expr (pe_bm PySem.F.plainAttrs_list PySem.F.slot_list_append PySem.F.type_list_append mt_append (pv 4) (pa_cons (pv 6) pa_nil)))))))
      (pss_one (ps_ret (pe_callTy call_tuple_ofN (by rfl) T.z_tuple (by decide +kernel) (pa_cons (pv 4) pa_nil)))))))), ?_⟩
    -- many
    refine Evl.q_cut (M := fun σ' H' => ∃ ma : Int, σ' = [some (.ref f), some (.int m), some (.int ma), none, none, none, none] ∧ 1 ≤ ma ∧ ma ≤ 16 ∧ Feed H' f c (B + 1) ∧ Ke (· = f) H H') ?_ ?_
    · refine ⟨by show 4 ≤ sizeLine; decide, fun p4 H4 np4 s4 hp4 _ => ⟨_, rfl, f, c, 4, _, rfl, by decide, by decide, hF.same s4, by omega, fun e H5 e0 e1 F5 b5 => ?_⟩⟩
      have pk : ∃ mm : Int, 1 ≤ mm ∧ mm ≤ 16 ∧ atI [V.int 4, V.int 8, V.int 12, V.int 16] e = some (.int mm) := by
        have four : e = 0 ∨ e = 1 ∨ e = 2 ∨ e = 3 := by omega
        rcases four with rfl | rfl | rfl | rfl <;> exact ⟨_, by decide, by decide, rfl⟩
      obtain ⟨mm, mm0, mm1, ha⟩ := pk
      exact ⟨p4, _, e, .int mm, rfl, rfl, .of (b5.lst hp4 (hF.nf np4)), ha, mm, rfl, mm0, mm1, F5, (Ke.same s4).trans b5⟩
    rintro σ' H1 ⟨ma, rfl, ma1, ma16, F1, k1⟩
    -- wide
    refine Evl.q_cut (M := fun σ' H' => ∃ wi : Int, σ' = [some (.ref f), some (.int m), some (.int ma), some (.int wi), none, none, none] ∧ 0 ≤ wi ∧ wi ≤ 8 ∧ Feed H' f c (B + 2) ∧ Ke (· = f) H H') ?_ ?_
    · refine ⟨by show 5 ≤ sizeLine; decide, fun p4 H4 np4 s4 hp4 _ => ⟨_, rfl, f, c, 5, _, rfl, by decide, by decide, F1.same s4, by omega, fun e H5 e0 e1 F5 b5 => ?_⟩⟩
      have pk : ∃ mm : Int, 0 ≤ mm ∧ mm ≤ 8 ∧ atI [V.int 2, V.int 3, V.int 3, V.int 4, V.int 8] e = some (.int mm) := by
        have four : e = 0 ∨ e = 1 ∨ e = 2 ∨ e = 3 ∨ e = 4 := by omega
        rcases four with rfl | rfl | rfl | rfl | rfl <;> exact ⟨_, by decide, by decide, rfl⟩
      obtain ⟨mm, mm0, mm1, ha⟩ := pk
      exact ⟨p4, _, e, .int mm, rfl, rfl, .of (b5.lst hp4 (F1.nf np4)), ha, mm, rfl, mm0, mm1, F5, k1.trans ((Ke.same s4).trans b5)⟩
    rintro σ' H2 ⟨wi, rfl, wi0, wi8, F2, k2⟩
    refine ⟨Nat.zero_le _, fun L H1 nL s1 hL _ => ?_⟩
    have nLf : L ≠ f := F2.nf nL
    have nLc : L ≠ c := F2.nc nL
    have frL : Frs H L := .ke k2 F2 (.of nL)
    have frL2 : Frs H2 L := .of nL
    refine Evl.q_cut (M := fun σ' H' => ∃ (y4 y5 : Option V) (css : List (List Int)), σ' = [some (.ref f), some (.int m), some (.int ma), some (.int wi), some (.ref L), y4, y5] ∧ Feed H' f c (B + 500) ∧ Ke (· = f) H2 H' ∧ Ls H' L css ∧ (∀ cs ∈ css, Of m cs) ∧ 1 ≤ css.length ∧ css.length ≤ 16) ?_ ?_
    · have F1 : Feed H1 f c (B + 2) := F2.same s1
      refine ⟨_, rfl, _, rfl, f, c, _, B + 2, rfl, by omega, by omega, F1, by omega, fun d H2' d0 d1 F2' b2 => ?_⟩
      refine ⟨_, _, rfl, rfl, 1 + d, rfl, by omega, by omega, for_range (Pv := fun i σ H' => ∃ (y4 y5 : Option V) (css : List (List Int)), σ = [some (.ref f), some (.int m), some (.int ma), some (.int wi), some (.ref L), y4, y5] ∧ Feed H' f c (B + 3 + 30 * i) ∧ Ke (· = f) H2 H' ∧ Ls H' L css ∧ (∀ cs ∈ css, Of m cs) ∧ css.length = i) ?_ ?_ ?_⟩
      · exact ⟨none, none, [], rfl, F2', (Ke.same s1).trans b2, ⟨[], b2.lst hL nLf, rfl, fun i x cs h => by simp at h⟩, fun cs h => (nomatch h), rfl⟩
      · rintro i σ H3 hi ⟨y4, y5, css, rfl, F3, k3, ⟨vs, hL3, lv, hv⟩, oc, lc⟩
        have hi : i < (1 + d).toNat := hi
        refine Evl.q_cut (M := fun σ' H' => ∃ (p : Addr) (cs : List Int), σ' = [some (.ref f), some (.int m), some (.int ma), some (.int wi), some (.ref L), some (.int (0 + (i : Int))), some (.ref p)] ∧ Feed H' f c (B + 3 + 30 * i + 21) ∧ Ke (· = f) H3 H' ∧ H' p = some (.tup (cs.map V.int)) ∧ Of m cs) ?_ ?_
        · refine ⟨_, rfl, _, rfl, _, rfl, f, c, m, wi, _, rfl, m0, m8, wi0, wi8, F3, by omega, fun cs p H6 F6 k6 _ hp h1 h2 _ => ?_⟩
          exact ⟨p, cs, rfl, F6.mono (by omega), k6, hp, h1, h2⟩
        rintro σ' H4 ⟨p, cs, rfl, F4, k4, hp, hc⟩
        -- if claim == () and ..
        refine Evl.q_cut (M := fun σ' H' => ∃ (p : Addr) (cs : List Int), σ' = [some (.ref f), some (.int m), some (.int ma), some (.int wi), some (.ref L), some (.int (0 + (i : Int))), some (.ref p)] ∧ Feed H' f c (B + 3 + 30 * i + 23) ∧ Ke (· = f) H3 H' ∧ H' p = some (.tup (cs.map V.int)) ∧ Of m cs) ?_ ?_
        · refine ⟨_, rfl, Nat.zero_le _, fun p5 H5 np5 s5 hp5 _ => ?_⟩
          have F5 := F4.same s5
          have k5 : Ke (· = f) H3 H5 := k4.trans (.same s5)
          refine ⟨_, _, .tup (.of (s5 _ _ hp)) (dp_ints cs), .tup (.of hp5) .nil, shaped_tuple (flat_ints _), shaped_tuple rfl, _, rfl, ite2 (fun e => ?_) (fun e => ?_)⟩
          · refine ⟨_, rfl, f, c, 8, _, rfl, by decide, by decide, F5, by omega, fun g H6 g0 g1 F6 b6 => ?_⟩
            have k6 : Ke (· = f) H3 H6 := k5.trans b6
            refine ⟨_, _, rfl, rfl, _, rfl, ite2 (fun e => ?_) (fun e => ?_)⟩
            · refine ⟨_, rfl, _, rfl, f, c, m, _, rfl, by omega, by omega, F6, by omega, fun g H7 g0 g1 F7 b7 => ?_⟩
              refine ⟨_, _, rfl, rfl, by show 1 ≤ sizeLine; decide, fun p8 H8 np8 s8 hp8 _ => ?_⟩
              exact ⟨p8, [1 + g], rfl, (F7.same s8).mono (by omega), (k6.trans b7).trans (.same s8), hp8, of_one (by omega) (by omega) m8⟩
            · exact ⟨p, cs, rfl, F6.mono (by omega), k6, b6.tups _ _ (s5 _ _ hp), hc⟩
          · exact ⟨p, cs, rfl, F5.mono (by omega), k5, s5 _ _ hp, hc⟩
        rintro σ' H5 ⟨p, cs, rfl, F5, k5, hp, hc⟩
        -- found.append(claim)
        have hL5 : H5 L = some (.lst vs) := k5.lst hL3 nLf
        refine ⟨_, rfl, .inl ⟨rfl, _, .of hL5⟩, _, rfl, L, _, _, rfl, rfl, hL5, small1000 (by omega), ?_⟩
        have k6 : Ke (· = f) H2 (upd H5 L (.lst (vs ++ [.ref p]))) := (k3.trans k5).write frL2 hL5
        have tp : ∀ {x : V} {ds : List Int}, TupI H5 x ds → TupI (upd H5 L (.lst (vs ++ [.ref p]))) x ds := fun {x ds} ⟨a, e, h⟩ => ⟨a, e, by
          have n : a ≠ L := fun z => by
            rw [z, hL5] at h
            cases h
          rw [upd_ne n]
          exact h⟩
        refine ⟨_, _, css ++ [cs], rfl, (F5.upd nLf nLc).mono (by omega), k6, ⟨vs ++ [.ref p], upd_same, by rw [List.length_append, List.length_append, lv]; rfl, ix_append lv (fun i x ds h1 h2 => tp ((hv i x ds h1 h2).ke k5)) (tp ⟨p, rfl, hp⟩)⟩, fun ds hd => ?_, by rw [List.length_append, lc]; rfl⟩
        rcases List.mem_append.mp hd with z | z
        · exact oc ds z
        · rw [List.mem_singleton.mp z]
          exact hc
      · rintro σ H3 ⟨y4, y5, css, rfl, F3, k3, ls, oc, lc⟩
        have lc' : css.length = (1 + d).toNat := lc
        exact ⟨y4, y5, css, rfl, F3.mono (by omega), k3, ls, oc, by omega, by omega⟩
    rintro σ' H3 ⟨y4, y5, css, rfl, F3, k3, ⟨vs, hL2, lv, hv⟩, oc, l1, l2⟩
    refine ⟨_, rfl, L, vs, rfl, .of hL2, fun p H4 np s4 hp _ => ?_⟩
    have k4 : Ke (· = f) H3 H4 := .same s4
    exact q css p H4 (F3.same s4) (k2.trans (k3.trans k4)) (.ke k2 F2 (.ke k3 F3 (.of np))) ⟨p, vs, rfl, hp, lv, fun i x cs h1 h2 => (hv i x cs h1 h2).ke k4⟩ oc l1 l2
end
end Cl
namespace Tc
open PySem PySem.Spec PyProof.Rows L2 GxR Nw Dr Kp Tw Kc
open TL (tl tl_num numL numL_digits ext_tl)
/-! ### what is shown is read again (k80) -/
theorem spl_run {p : List Nat} (h : ∀ c ∈ p, c ≠ 32) : ∀ acc, TL.spl [32] 0 acc p = [acc ++ p] := by
  induction p with
  | nil =>
    intro acc
    rw [TL.spl_nil, List.append_nil]
  | cons c r ih =>
    intro acc
    have hc : TL.pre [32] (c :: r) = false := TL.pre_of_head [] _ (h c List.mem_cons_self)
    rw [TL.spl_miss hc, ih (fun x hx => h x (List.mem_cons_of_mem _ hx)), List.append_assoc]
    rfl
theorem spl_at {p : List Nat} (h : ∀ c ∈ p, c ≠ 32) (r : List Nat) : ∀ acc, TL.spl [32] 0 acc (p ++ 32 :: r) = (acc ++ p) :: TL.spl [32] 0 [] r := by
  induction p with
  | nil =>
    intro acc
    have hc : TL.pre [32] (32 :: r) = true := rfl
    rw [List.nil_append, TL.spl_hit hc, List.append_nil]
    rfl
  | cons c t ih =>
    intro acc
    have hc : TL.pre [32] (c :: (t ++ 32 :: r)) = false := TL.pre_of_head [] _ (h c List.mem_cons_self)
    rw [List.cons_append, TL.spl_miss hc, ih (fun x hx => h x (List.mem_cons_of_mem _ hx)), List.append_assoc]
    rfl
theorem spl_join : ∀ {ps : List (List Nat)}, ps ≠ [] → (∀ p ∈ ps, ∀ c ∈ p, c ≠ 32) → TL.spl [32] 0 [] (TL.joinL [32] ps) = ps
  | [], h, _ => absurd rfl h
  | [p], _, h => by
    show TL.spl [32] 0 [] p = [p]
    rw [spl_run (h p List.mem_cons_self)]
    rfl
  | p :: q :: r, _, h => by
    show TL.spl [32] 0 [] (p ++ ([32] ++ TL.joinL [32] (q :: r))) = p :: q :: r
    rw [show p ++ ([32] ++ TL.joinL [32] (q :: r)) = p ++ 32 :: TL.joinL [32] (q :: r) from rfl, spl_at (h p List.mem_cons_self), spl_join (by simp) fun x hx => h x (List.mem_cons_of_mem _ hx)]
    rfl
theorem joinL_cat {S : List Nat} : ∀ {a b : List (List Nat)}, a ≠ [] → b ≠ [] → TL.joinL S (a ++ b) = TL.joinL S a ++ (S ++ TL.joinL S b)
  | [], _, h, _ => absurd rfl h
  | [x], [], _, h => absurd rfl h
  | [x], y :: t, _, _ => rfl
  | x :: y :: t, b, _, h => by
    have ih := joinL_cat (S := S) (a := y :: t) (b := b) (by simp) h
    show x ++ (S ++ TL.joinL S ((y :: t) ++ b)) = x ++ (S ++ TL.joinL S (y :: t)) ++ (S ++ TL.joinL S b)
    rw [ih, List.append_assoc, List.append_assoc]
/-- words of several things, strokes between -/
def interW : List (List Str) → List Str
  | [] => []
  | [w] => w
  | w :: v :: r => w ++ ("/" : Str) :: interW (v :: r)
theorem inter_ne : ∀ {wss : List (List Str)}, wss ≠ [] → (∀ w ∈ wss, w ≠ []) → interW wss ≠ []
  | [], h, _ => absurd rfl h
  | [w], _, h => h w List.mem_cons_self
  | w :: v :: r, _, h => by
    show w ++ _ ≠ []
    simp
theorem inter_mem {x : Str} : ∀ {wss : List (List Str)}, x ∈ interW wss → x = "/" ∨ ∃ w ∈ wss, x ∈ w
  | [], h => nomatch h
  | [w], h => .inr ⟨w, List.mem_cons_self, h⟩
  | w :: v :: r, h => by
    have h : x ∈ w ++ ("/" : Str) :: interW (v :: r) := h
    rcases List.mem_append.mp h with m | m
    · exact .inr ⟨w, List.mem_cons_self, m⟩
    · rcases List.mem_cons.mp m with m | m
      · exact .inl m
      · rcases inter_mem (wss := v :: r) m with z | ⟨u, hu, z⟩
        · exact .inl z
        · exact .inr ⟨u, List.mem_cons_of_mem _ hu, z⟩
theorem tl_blank : tl " " = [32] := by decide +kernel
theorem tl_btw : tl " / " = [32, 47, 32] := by decide +kernel
theorem tl_txj (a : Str) (ys : List Str) : tl (Txt.join a ys) = TL.joinL (tl a) (ys.map tl) := by
  rw [TL.join_eq, TL.tl_join]
theorem join_inter : ∀ {wss : List (List Str)}, wss ≠ [] → (∀ w ∈ wss, w ≠ []) → TL.joinL [32, 47, 32] (wss.map fun w => TL.joinL [32] (w.map tl)) = TL.joinL [32] ((interW wss).map tl)
  | [], h, _ => absurd rfl h
  | [w], _, _ => rfl
  | w :: v :: r, _, h => by
    have ih := join_inter (wss := v :: r) (by simp) fun x hx => h x (List.mem_cons_of_mem _ hx)
    have ne := inter_ne (wss := v :: r) (by simp) fun x hx => h x (List.mem_cons_of_mem _ hx)
    show TL.joinL [32] (w.map tl) ++ ([32, 47, 32] ++ TL.joinL [32, 47, 32] ((v :: r).map fun w => TL.joinL [32] (w.map tl))) = TL.joinL [32] ((w ++ ("/" : Str) :: interW (v :: r)).map tl)
    rw [ih, List.map_append, joinL_cat (by simpa using h w List.mem_cons_self) (by simp), List.map_cons]
    congr 1
    show _ = [32] ++ TL.joinL [32] ([tl "/"] ++ (interW (v :: r)).map tl)
    rw [joinL_cat (by simp) (by simpa using ne), tl_str]
    rfl
/-- what is joined is parted again -/
theorem split_inter {wss : List (List Str)} (h0 : wss ≠ []) (h : ∀ w ∈ wss, w ≠ []) (nb : ∀ w ∈ wss, ∀ x ∈ w, ∀ c ∈ tl x, c ≠ 32) : Txt.split (Txt.join " / " (wss.map (Txt.join " "))) " " = interW wss := by
  have e := TL.split_spl (Txt.join " / " (wss.map (Txt.join " "))) " " (by rw [tl_blank]; decide) (TL.kind_ok (by decide +kernel))
  rw [tl_blank, tl_txj, tl_btw, List.map_map] at e
  have e2 : wss.map (tl ∘ Txt.join " ") = wss.map fun w => TL.joinL [32] (w.map tl) := List.map_congr_left fun w _ => by
    show tl (Txt.join " " w) = _
    rw [tl_txj, tl_blank]
  rw [e2, join_inter h0 h, spl_join (by simpa using inter_ne h0 h)] at e
  · have inj : ∀ {a b : List Str}, a.map tl = b.map tl → a = b := by
      intro a
      induction a with
      | nil =>
        intro b hb
        cases b with
        | nil => rfl
        | cons y r => cases hb
      | cons x r ih =>
        intro b hb
        cases b with
        | nil => cases hb
        | cons y t =>
          obtain ⟨h1, h2⟩ := List.cons.inj hb
          rw [ext_tl h1, ih h2]
    exact inj e
  · intro p hp c hc
    obtain ⟨x, hx, rfl⟩ := List.mem_map.mp hp
    rcases inter_mem hx with rfl | ⟨w, hw, hx⟩
    · rw [tl_str, List.mem_singleton] at hc
      omega
    · exact nb w hw x hx c hc
theorem numZ_nb {i : Int} (h : -999 ≤ i ∧ i ≤ 999) : ∀ c ∈ tl (numT i), c ≠ 32 := fun c hc => by
  rcases Int.lt_or_le i 0 with l | l
  · obtain ⟨n, rfl⟩ : ∃ n : Nat, i = -((n + 1 : Nat) : Int) := ⟨(-i).toNat - 1, by omega⟩
    rw [numT_neg] at hc
    rcases List.mem_cons.mp hc with z | z
    · omega
    · have := numL_digits (n + 1) c z
      omega
  · obtain ⟨n, rfl⟩ : ∃ n : Nat, i = n := ⟨i.toNat, by omega⟩
    have := numT_head rfl c hc
    omega
/-- the words of a claim -/
def wordsC (cs : List Int) : List Str := if cs = [] then ["none"] else cs.map numT
theorem wordsC_ne (cs : List Int) : wordsC cs ≠ [] := by
  unfold wordsC
  split
  · simp
  · simpa
theorem wordsC_nb {cs : List Int} (h : ∀ k ∈ cs, InR k) : ∀ x ∈ wordsC cs, ∀ c ∈ tl x, c ≠ 32 := by
  intro x hx
  unfold wordsC at hx
  split at hx
  · rw [List.mem_singleton.mp hx, tl_none]
    decide
  · obtain ⟨k, hk, rfl⟩ := List.mem_map.mp hx
    exact numZ_nb (h k hk).b
theorem cl0_take {c : List Int} (h : Cl0 c) (k : Nat) : Cl0 (c.take k) := ⟨h.up.sublist (List.take_sublist k c), fun x hx => h.says x (List.mem_of_mem_take hx), fun x hx z => h.opp x (List.mem_of_mem_take hx) (List.mem_of_mem_take z)⟩
theorem cl0_inr {c : List Int} (h : Cl0 c) : ∀ k ∈ c, InR k := fun k hk => ⟨(h.says k hk).2.1, (h.says k hk).2.2, (h.says k hk).1⟩
theorem drop_c {α : Type} {ws : List α} {n : Nat} {a : α} {t : List α} (h : ws.drop n = a :: t) : ws[n]? = some a ∧ ws.drop (n + 1) = t := by
  constructor
  · rw [← List.head?_drop, h]
    rfl
  · rw [← List.drop_drop, h]
    rfl
theorem drop_a {α : Type} {ws : List α} {n : Nat} : ∀ {a t : List α}, ws.drop n = a ++ t → (∀ k, k < a.length → ws[n + k]? = a[k]?) ∧ ws.drop (n + a.length) = t := fun {a t} h => by
  constructor
  · intro k hk
    rw [← List.getElem?_drop, h, List.getElem?_append_left hk]
  · rw [← List.drop_drop, h, List.drop_append_of_le_length (Nat.le_refl _), List.drop_length]
    rfl
theorem creach_says {ws : List Str} {n : Nat} {cls : List (List Int)} {c : List Int} (R : Creach ws n cls .no) (h : Cl0 c) (e : ∀ k, k < c.length → ws[n + k]? = (c.map numT)[k]?) : ∀ k, k < c.length → Creach ws (n + (k + 1)) cls (.som (c.take (k + 1)))
  | 0, l => by
    have h0 := List.getElem?_eq_getElem l
    have hx := e 0 l
    rw [List.getElem?_map, h0] at hx
    rw [List.take_add_one, h0]
    exact R.succ hx (.first _ (cl0_inr h _ (List.getElem_mem l)))
  | k + 1, l => by
    have ih := creach_says R h e k (by omega)
    have h0 := List.getElem?_eq_getElem l
    have hx := e (k + 1) l
    rw [List.getElem?_map, h0] at hx
    have h2 := cl0_take h (k + 1 + 1)
    rw [List.take_add_one, h0] at h2 ⊢
    obtain ⟨a1, a2, a3⟩ := (cl0_snoc (cl0_take h (k + 1))).mp h2
    exact ih.succ hx (.next _ _ a1 a2 a3)
theorem creach_claim {ws : List Str} {n : Nat} {cls : List (List Int)} {c : List Int} {t : List Str} (R : Creach ws n cls .no) (h : Cl0 c) (e : ws.drop n = wordsC c ++ t) : ∃ s, csL s = some c ∧ Creach ws (n + (wordsC c).length) cls s ∧ ws.drop (n + (wordsC c).length) = t := by
  obtain ⟨e1, e2⟩ := drop_a e
  by_cases z : c = []
  · subst z
    exact ⟨.nil, rfl, R.succ (e1 0 (by decide)) .none, e2⟩
  · have ew : wordsC c = c.map numT := if_neg z
    have lw : (wordsC c).length = c.length := by rw [ew, List.length_map]
    have l0 := List.length_pos_iff.mpr z
    refine ⟨.som c, rfl, ?_, e2⟩
    have r := creach_says R h (fun k hk => by rw [← ew]; exact e1 k (by omega)) (c.length - 1) (by omega)
    rw [show c.length - 1 + 1 = c.length by omega, List.take_length] at r
    rw [lw]
    exact r
theorem ctold_all {ws : List Str} : ∀ {css cls : List (List Int)} {n : Nat}, css ≠ [] → Creach ws n cls .no → ws.drop n = interW (css.map wordsC) → cls.length + css.length ≤ 16 → (∀ c ∈ css, Cl0 c) → Ctold ws (cls ++ css)
  | [], _, _, h, _, _, _, _ => absurd rfl h
  | [c], cls, n, _, R, e, _, h => by
    obtain ⟨s, es, R2, e2⟩ := creach_claim R (h c List.mem_cons_self) (t := []) (by rw [e, List.append_nil]; rfl)
    have l := R2.le
    have l2 := congrArg List.length e2
    rw [List.length_drop, List.length_nil] at l2
    rw [show n + (wordsC c).length = ws.length by omega] at R2
    exact ⟨cls, s, c, es, rfl, R2⟩
  | c :: d :: r, cls, n, _, R, e, l, h => by
    rw [List.length_cons, List.length_cons] at l
    obtain ⟨s, es, R2, e2⟩ := creach_claim R (h c List.mem_cons_self) (t := ("/" : Str) :: interW ((d :: r).map wordsC)) e
    obtain ⟨e3, e4⟩ := drop_c e2
    have R3 := R2.succ e3 (.str es (by omega))
    have := ctold_all (css := d :: r) (by simp) R3 e4 (by rw [List.length_append, List.length_singleton, List.length_cons]; omega) fun x hx => h x (List.mem_cons_of_mem _ hx)
    rw [List.append_assoc] at this
    exact this
theorem clT_words (cs : List Int) : clT cs = Txt.join " " (wordsC cs) := by
  unfold clT wordsC
  split
  · exact ext_tl (by rw [tl_txj]; rfl)
  · rfl
/-- a book shown is read as that book -/
theorem book_back {css : List (List Int)} (h0 : css ≠ []) (l : css.length ≤ 16) (h : ∀ c ∈ css, Cl0 c) : Ctold (Txt.split (bkT css) " ") css := by
  have e : bkT css = Txt.join " / " ((css.map wordsC).map (Txt.join " ")) := by
    unfold bkT
    rw [List.map_map]
    congr 1
    exact List.map_congr_left fun c _ => clT_words c
  rw [e, split_inter (by simpa) (fun w hw => by obtain ⟨c, _, rfl⟩ := List.mem_map.mp hw; exact wordsC_ne c) fun w hw => by obtain ⟨c, hc, rfl⟩ := List.mem_map.mp hw; exact wordsC_nb (cl0_inr (h c hc))]
  have := ctold_all (ws := interW (css.map wordsC)) (css := css) (cls := []) (n := 0) h0 .zero rfl (by rw [List.length_nil, Nat.zero_add]; exact l) h
  exact this
/-! ### rows -/
def RV (n : Nat) : Rw → Prop
  | .book k => k ≤ 15
  | .cut i j k => i < n ∧ j < n ∧ 1 ≤ k ∧ k ≤ 8
def RVs (rows : List Rw) : Prop := ∀ (i : Nat) (r : Rw), rows[i]? = some r → RV i r
def rwN : Rw → List Nat
  | .book n => [n]
  | .cut i j k => [i, j, k]
def rwW : Rw → Str
  | .book _ => "book"
  | .cut _ _ _ => "cut"
def wordsR (r : Rw) : List Str := rwW r :: (rwN r).map fun n : Nat => numT n
def rwT (r : Rw) : Str := Txt.join " " (wordsR r)
def ldT (rows : List Rw) : Str := Txt.join " / " (rows.map rwT)
theorem reach_row {ws : List Str} {n : Nat} {rows : List Rw} {r : Rw} {t : List Str} (R : Reach ws n rows .p0) (h : RV rows.length r) (e : ws.drop n = wordsR r ++ t) : Reach ws (n + (wordsR r).length) rows (ptOf r) ∧ ws.drop (n + (wordsR r).length) = t := by
  obtain ⟨e1, e2⟩ := drop_a e
  refine ⟨?_, e2⟩
  cases r with
  | book k =>
    have h : k ≤ 15 := h
    have R1 := R.succ (e1 0 (by show 0 < 2; decide)) .book
    exact R1.succ (e1 1 (by show 1 < 2; decide)) (.num k h)
  | cut i j k =>
    obtain ⟨h1, h2, h3, h4⟩ := h
    have R1 := R.succ (e1 0 (by show 0 < 4; decide)) (.cut (by omega))
    have R2 := R1.succ (e1 1 (by show 1 < 4; decide)) (.one i h1)
    have R3 := R2.succ (e1 2 (by show 2 < 4; decide)) (.two i j h2)
    exact R3.succ (e1 3 (by show 3 < 4; decide)) (.by i j k h3 h4)
theorem told_all {ws : List Str} : ∀ {rs rows : List Rw} {n : Nat}, rs ≠ [] → Reach ws n rows .p0 → ws.drop n = interW (rs.map wordsR) → rows.length + rs.length ≤ 200 → (∀ (i : Nat) (r : Rw), rs[i]? = some r → RV (rows.length + i) r) → Told ws (rows ++ rs)
  | [], _, _, h, _, _, _, _ => absurd rfl h
  | [c], cls, n, _, R, e, _, h => by
    obtain ⟨R2, e2⟩ := reach_row R (h 0 c rfl) (t := []) (by rw [e, List.append_nil]; rfl)
    have l := R2.le
    have l2 := congrArg List.length e2
    rw [List.length_drop, List.length_nil] at l2
    rw [show n + (wordsR c).length = ws.length by omega] at R2
    exact ⟨cls, c, rfl, R2⟩
  | c :: d :: r, cls, n, _, R, e, l, h => by
    rw [List.length_cons, List.length_cons] at l
    obtain ⟨R2, e2⟩ := reach_row R (h 0 c rfl) (t := ("/" : Str) :: interW ((d :: r).map wordsR)) e
    obtain ⟨e3, e4⟩ := drop_c e2
    have R3 := R2.succ e3 (.stroke c (by omega))
    have := told_all (rs := d :: r) (by simp) R3 e4 (by rw [List.length_append, List.length_singleton, List.length_cons]; omega) fun i x hx => by
      have := h (i + 1) x hx
      rw [List.length_append, List.length_singleton, show cls.length + 1 + i = cls.length + (i + 1) by omega]
      exact this
    rw [List.append_assoc] at this
    exact this
theorem RVs.bd {rows : List Rw} (h : RVs rows) (l : rows.length ≤ 300) : ∀ r ∈ rows, ∀ n ∈ rwN r, n < 300 := fun r hr => by
  obtain ⟨i, hi⟩ := List.getElem?_of_mem hr
  have li := (List.getElem?_eq_some_iff.mp hi).1
  have := h i r hi
  cases r with
  | book k =>
    intro n hn
    have this : k ≤ 15 := this
    rw [List.mem_singleton.mp hn]
    omega
  | cut a b k =>
    intro n hn
    obtain ⟨h1, h2, h3, h4⟩ := this
    simp only [rwN, List.mem_cons, List.not_mem_nil, or_false] at hn
    rcases hn with rfl | rfl | rfl <;> omega
theorem wordsR_nb {r : Rw} (h : ∀ n ∈ rwN r, n < 300) : ∀ x ∈ wordsR r, ∀ c ∈ tl x, c ≠ 32 := by
  intro x hx
  rcases List.mem_cons.mp hx with z | z
  · rw [z]
    cases r with
    | book k =>
      show ∀ c ∈ tl "book", c ≠ 32
      rw [tl_book]
      decide
    | cut a b k =>
      show ∀ c ∈ tl "cut", c ≠ 32
      rw [tl_cut]
      decide
  · obtain ⟨n, hn, rfl⟩ := List.mem_map.mp z
    exact numZ_nb ⟨by omega, by have := h n hn; omega⟩
/-- a ladder shown is read as that ladder -/
theorem ladder_back {rows : List Rw} (h0 : rows ≠ []) (l : rows.length ≤ 200) (h : RVs rows) : Told (Txt.split (ldT rows) " ") rows := by
  have e : ldT rows = Txt.join " / " ((rows.map wordsR).map (Txt.join " ")) := by
    unfold ldT
    rw [List.map_map]
    rfl
  have bd := h.bd (by omega)
  rw [e, split_inter (by simpa) (fun w hw => by obtain ⟨c, _, rfl⟩ := List.mem_map.mp hw; unfold wordsR; simp) fun w hw => by obtain ⟨c, hc, rfl⟩ := List.mem_map.mp hw; exact wordsR_nb (bd c hc)]
  have := told_all (ws := interW (rows.map wordsR)) (rs := rows) (rows := []) (n := 0) h0 .zero rfl (by rw [List.length_nil, Nat.zero_add]; exact l) fun i r hr => by
    rw [List.length_nil, Nat.zero_add]
    exact h i r hr
  exact this
end Tc
namespace Tc
open PySem PySem.Spec PyProof.Rows L2 GxR Nw Dr Kp Ev1 Tw Kc Od
open TL (tl len_tl)
/-! ### rows and claims as texts, exactly (k80) -/
theorem rwN_vs (r : Rw) : r.vs = .str (rwW r) :: (rwN r).map fun n : Nat => V.int n := by cases r <;> rfl
theorem rwN_cut (r : Rw) : cutV r.vs (some 1) none = (rwN r).map fun n : Nat => V.int n := by cases r <;> rfl
theorem rwN_len (r : Rw) : (rwN r).length ≤ 3 := by cases r <;> simp [rwN]
theorem rwW_len (r : Rw) : (rwW r).length ≤ 4 := by
  cases r
  · exact (by decide +kernel : Str.length "book" ≤ 4)
  · exact (by decide +kernel : Str.length "cut" ≤ 4)
theorem num_len {n : Nat} (h : n < 300) : (numT (n : Int)).length ≤ 4 := Nat.le_trans (numT_get (n := n) (by omega)).2.2.2.1 (by decide)
theorem row_sum {r : Rw} (h : ∀ n ∈ rwN r, n < 300) : ((wordsR r).map (·.length)).sum + (wordsR r).length * Str.length " " ≤ 24 := by
  have sl := sum_lens (B := 4) (ys := (rwN r).map fun n : Nat => numT n) fun y hy => by
    obtain ⟨n, hn, rfl⟩ := List.mem_map.mp hy
    exact num_len (h n hn)
  have := rwN_len r
  have := rwW_len r
  rw [List.length_map] at sl
  unfold wordsR
  rw [List.map_cons, List.sum_cons, List.length_cons, List.length_map, show Str.length " " = 1 from by decide +kernel]
  omega
theorem rwT_len {r : Rw} (h : ∀ n ∈ rwN r, n < 300) : (rwT r).length ≤ 24 := Nat.le_trans (join_len _ _) (row_sum h)
theorem lad_sum {rows : List Rw} (h : ∀ r ∈ rows, ∀ n ∈ rwN r, n < 300) (l : rows.length ≤ 201) : ((rows.map rwT).map (·.length)).sum + (rows.map rwT).length * Str.length " / " ≤ 5500 := by
  have sl := sum_lens (B := 24) (ys := rows.map rwT) fun y hy => by
    obtain ⟨k, hk, rfl⟩ := List.mem_map.mp hy
    exact rwT_len (h k hk)
  rw [List.length_map] at sl ⊢
  rw [show Str.length " / " = 3 from by decide +kernel]
  omega
theorem ldT_len {rows : List Rw} (h : ∀ r ∈ rows, ∀ n ∈ rwN r, n < 300) (l : rows.length ≤ 201) : (ldT rows).length ≤ 5500 := Nat.le_trans (join_len _ _) (lad_sum h l)
theorem say_tab : ∀ i : Fin 17, i.val ≠ 8 → (atI (Str.cps "0123456789").toList ((if ((i.val : Int) - 8) < 0 then -((i.val : Int) - 8) else (i.val : Int) - 8))).map (fun c => ((if ((i.val : Int) - 8) < 0 then ("-" : Str) else "") ++ (⟨#[c]⟩ : Str))) = some (numT ((i.val : Int) - 8)) := by decide +kernel
theorem say_word {k : Int} (h : InR k) : ∃ c, atI (Str.cps "0123456789").toList (if k < 0 then -k else k) = some c ∧ ((if k < 0 then ("-" : Str) else "") ++ (⟨#[c]⟩ : Str)) = numT k := by
  obtain ⟨h1, h2, h3⟩ := h
  have := say_tab ⟨(k + 8).toNat, by omega⟩ (by show (k + 8).toNat ≠ 8; omega)
  simp only [] at this
  rw [show (((k + 8).toNat : Nat) : Int) - 8 = k by omega] at this
  obtain ⟨c, h1, h2⟩ := Option.map_eq_some_iff.mp this
  exact ⟨c, h1, h2⟩
theorem say_ok : ∀ i : Fin 17, PyData.strOk (numT ((i.val : Int) - 8)) = true := by decide +kernel
theorem sh_words {cs : List Int} (h : ∀ k ∈ cs, InR k) : SeqAt.shaped (.list ((cs.map numT).map PyData.str)) = true := by
  have key : ∀ {cs : List Int}, (∀ k ∈ cs, InR k) → PyData.canLayAll0 ((cs.map numT).map PyData.str) = true ∧ PyData.depthAll ((cs.map numT).map PyData.str) ≤ 1 := by
    intro cs
    induction cs with
    | nil => exact fun _ => ⟨rfl, by decide⟩
    | cons k r ih =>
      intro h
      obtain ⟨i1, i2⟩ := ih fun x hx => h x (List.mem_cons_of_mem _ hx)
      obtain ⟨h1, h2, h3⟩ := h k List.mem_cons_self
      have ok := say_ok ⟨(k + 8).toNat, by omega⟩
      simp only [] at ok
      rw [show (((k + 8).toNat : Nat) : Int) - 8 = k by omega] at ok
      refine ⟨?_, Nat.max_le.mpr ⟨Nat.zero_le _, i2⟩⟩
      show (PyData.canLay0 (.str (numT k)) && PyData.canLayAll0 ((r.map numT).map PyData.str)) = true
      rw [i1, Bool.and_true]
      exact ok
  obtain ⟨h1, h2⟩ := key h
  show (PyData.canLayAll0 _ && decide (PyData.depthAll _ + 1 ≤ 64)) = true
  rw [h1, decide_eq_true (by omega)]
  rfl
theorem dp_strs {K : PySem.W.Frag} {H : Hp} : ∀ xs : List Str, DpAll K H (xs.map V.str) (xs.map PyData.str)
  | [] => .nil
  | x :: r => .cons (.str x) (dp_strs r)
structure Zw (mg : Str → Option Value) : Prop where
  z_int : mg "int" = none
  z_str : mg "str" = none
  z_abs : mg "abs" = none
section
variable {P : Program} {w : World} {K : PySem.W.Frag} {mg : Str → Option Value} {base : Heap}
abbrev sWds : Stmt := topS 46
abbrev nWds : List Str := ["claim", "words", "say"]
theorem scWds : FnScope nWds ["claim"] (defScope sWds) := ⟨rfl, rfl, rfl, by decide +kernel, rfl, by decide +kernel, by decide +kernel⟩
theorem ok_wds {f : Addr} {fd : FuncData} {k : Nat} (F : Fun K "_law_e_words" "_law_e_words" sWds f fd) (T : Zw mg) : FnOk P w K mg base CX0 (k + 1) f fd ["claim"] spShc := by
  refine F.ok scWds (fun vs H Q E h => ?_) (fun cdv A outer s H vs Q E hr h => ?_)
  · obtain ⟨v, cs, rfl, _⟩ := h
    rfl
  · obtain ⟨v, cs, rfl, ⟨a, rfl, ha⟩, cl, q⟩ := h
    refine ⟨_, (Evl.pss_cut (ps_set (i := 1) scWds.nd rfl (.inl rfl) (pe_lstN pa_nil))
      (Evl.pss_cut (ps_for PassesOwn.never rfl (pi_tup (pv 0)) (pg_name (i := 2) scWds.nd rfl (.inl rfl)) (pss_one (ps_expr (pe_bm PySem.F.plainAttrs_list PySem.F.slot_list_append PySem.F.type_list_append mt_append (pv 1) (pa_cons (pe_op op_add_str (pe_ix ix_list (pe_lstN (pa_cons pe_str (pa_cons pe_str pa_nil))) (pe_callTy call_int1 (by rfl) T.z_int (by decide +kernel) (pa_cons (pe_cmpR op_lt (pv 2) pe_int (nomark _)) pa_nil)) (fun _ _ => rfl)) (pe_ix ix_str pe_str (pe_callB call_abs (by rfl) T.z_abs (by decide +kernel) (pa_cons (pv 2) pa_nil)) (fun _ _ => rfl))) pa_nil)))))
      (pss_one (ps_ret (L2.pe_join pe_str (pe_ifExp (pt_cmpR (op_neD hr.units) (pv 1) (pe_lstN pa_nil) (nomark _)) (pv 1) (pe_lstN (pa_cons pe_str pa_nil)))))))), ?_⟩
    refine Evl.q_cut (M := fun σ' G => ∃ W : Addr, σ' = [some (.ref a), some (.ref W), none] ∧ H W = none ∧ Same H G ∧ G W = some (.lst [])) ?_ ?_
    · exact ⟨Nat.zero_le _, fun W G nW s1 hW _ => ⟨W, rfl, nW, s1, hW⟩⟩
    rintro σ' H1 ⟨W, rfl, nW, s1, hW⟩
    refine Evl.q_cut (M := fun σ' G => ∃ y : Option V, σ' = [some (.ref a), some (.ref W), y] ∧ Same H G ∧ G W = some (.lst ((cs.map numT).map V.str))) ?_ ?_
    · refine ⟨_, rfl, a, rfl, ⟨_, .of (s1 _ _ ha)⟩, for_tup (xs := cs.map V.int) (Pv := fun u σ G => ∃ y : Option V, σ = [some (.ref a), some (.ref W), y] ∧ Same H G ∧ G W = some (.lst (((cs.take u).map numT).map V.str))) ?_ (fun u σ G _ z => ?_) ?_ ?_⟩
      · exact ⟨none, rfl, s1, hW⟩
      · obtain ⟨_, _, s, _⟩ := z
        exact .of (s _ _ ha)
      · rintro u x σ G hx ⟨y, rfl, s2, hW2⟩
        rw [List.getElem?_map] at hx
        obtain ⟨k, hk, rfl⟩ := Option.map_eq_some_iff.mp hx
        have ik := cl.1 k (List.mem_of_getElem? hk)
        obtain ⟨c, c1, c2⟩ := say_word ik
        refine ⟨_, rfl, .inl ⟨rfl, _, .of hW2⟩, by show 2 ≤ sizeLine; decide, fun Lk G1 n1 u1 h1 _ => ?_⟩
        refine ⟨_, rfl, _, _, rfl, rfl, .inr ⟨_, rfl, Lk, _, _, .str (if k < 0 then "-" else ""), rfl, rfl, .of h1, ?_, ?_⟩⟩
        · by_cases z : k < 0
          · rw [if_pos z, decide_eq_true z]
            rfl
          · rw [if_neg z, decide_eq_false z]
            rfl
        refine ⟨_, rfl, k, rfl, _, _, c, rfl, rfl, by decide +kernel, c1, _, _, rfl, rfl, ?_, ?_⟩
        · refine Nat.le_trans (?_ : _ ≤ 2) (by decide)
          have : (⟨#[c]⟩ : Str).length = 1 := rfl
          rw [this]
          split
          · exact (by decide +kernel : Str.length "-" + 1 ≤ 2)
          · exact (by decide +kernel : Str.length "" + 1 ≤ 2)
        rw [c2]
        refine ⟨W, _, _, rfl, rfl, u1 _ _ hW2, small1000 (by rw [List.length_map, List.length_map, List.length_take]; have := cl.2; omega), ?_⟩
        refine ⟨_, rfl, same_wr (s2.trans u1) nW, ?_⟩
        rw [upd_same, List.take_add_one, hk, List.map_append, List.map_append]
        rfl
      · rintro σ G ⟨y, rfl, s2, hW2⟩
        rw [List.length_map, List.take_length] at hW2
        exact ⟨y, rfl, s2, hW2⟩
    rintro σ' H2 ⟨y, rfl, s2, hW2⟩
    have jl := nums_sum cl
    refine ⟨⟨_, rfl⟩, _, rfl, Nat.zero_le _, fun Le G n1 u1 h1 _ => ⟨.list ((cs.map numT).map PyData.str), .list [], .lst (.of (u1 _ _ hW2)) (dp_strs _), .lst (.of h1) .nil, sh_words cl.1, by decide, ?_⟩⟩
    unfold clT at q
    by_cases z : cs = []
    · subst z
      refine ⟨false, rfl, by show 1 ≤ sizeLine; decide, fun Ln G2 n2 u2 h2 _ => ⟨_, Ln, ["none"], rfl, rfl, .inl (.of h2), by decide +kernel, ?_⟩⟩
      have r := q G2 (s2.trans (u1.trans u2))
      rw [if_pos rfl] at r
      rw [show Txt.join " " [("none" : Str)] = "none" from TL.ext_tl (by rw [tl_txj]; rfl)]
      exact r
    · refine ⟨true, ?_, _, rfl, _, W, cs.map numT, rfl, rfl, .inl (.of (u1 _ _ hW2)), Nat.le_trans jl (by decide), ?_⟩
      · cases cs with
        | nil => exact absurd rfl z
        | cons i r => rfl
      · have r := q G (s2.trans u1)
        rw [if_neg z] at r
        exact r
abbrev sShr : Stmt := topS 19
abbrev nShr : List Str := ["row", "number"]
theorem scShr : FnScope nShr ["row"] (defScope sShr) := ⟨rfl, rfl, rfl, by decide +kernel, rfl, by decide +kernel, by decide +kernel⟩
def spShr : Sp := fun vs H Q _ => ∃ (v : V) (r : Rw), vs = [v] ∧ RowAt H v r ∧ (∀ n ∈ rwN r, n < 300) ∧ ∀ H', Same H H' → Q (.str (rwT r)) H'
theorem ok_shr {f : Addr} {fd : FuncData} {k : Nat} (F : Fun K "show_row" "show_row" sShr f fd) (T : Zw mg) : FnOk P w K mg base CX0 (k + 1) f fd ["row"] spShr := by
  refine F.ok scShr (fun vs H Q E h => ?_) (fun cdv A outer s H vs Q E hr h => ?_)
  · obtain ⟨v, r, rfl, _⟩ := h
    rfl
  · obtain ⟨v, r, rfl, ⟨a, rfl, ha⟩, bd, q⟩ := h
    refine ⟨_, (pss_one (ps_ret (L2.pe_join pe_str (pe_op op_catN (pe_lstN (pa_cons (pe_ix ix_tup (pv 0) pe_int (fun _ _ => rfl)) pa_nil)) (pe_lc (own := [("number", 1)]) (g := (gName 1)) (tt := tYes) rfl scShr.nd (pi_tup (pe_slice sl_tupN (pv 0) (po_some pe_int) po_none)) (blkOk_by (N := nShr) (sc := defScope sShr) (by decide +kernel)) (fun _ _ _ _ _ => (pg_name (i := 1) scShr.nd rfl (.inl rfl))) (fun _ _ _ _ _ => pts_nil) (fun _ _ _ _ _ => (pe_callTy call_str_int (by rfl) T.z_str (by decide +kernel) (pa_cons (pv 1) pa_nil)))))))), ?_⟩
    refine ⟨⟨_, rfl⟩, _, rfl, a, _, 0, .str (rwW r), rfl, rfl, .of ha, by cases r <;> rfl, by show 1 ≤ sizeLine; decide, fun L1 H2 n1 s2 h1 _ => ?_⟩
    refine ⟨_, rfl, _, rfl, a, _, rfl, s2 _ _ ha, fun S H3 s3 hS => ?_⟩
    rw [rwN_cut] at hS
    refine ⟨S, rfl, ⟨_, .of hS⟩, fun Z nZ => ?_⟩
    refine lc_tup (xs := (rwN r).map fun n : Nat => V.int n) (Pv := fun u H' => Same H3 H' ∧ H' Z = some (.lst ((((rwN r).take u).map fun n : Nat => numT n).map V.str))) ⟨same_new nZ, upd_same⟩ (fun u H' _ z => .of (z.1 _ _ hS)) ?_ ?_
    · rintro u x H4 hx ⟨s4, hZ⟩
      rw [List.getElem?_map] at hx
      obtain ⟨n, hn, rfl⟩ := Option.map_eq_some_iff.mp hx
      have n3 := bd n (List.mem_of_getElem? hn)
      refine ⟨rfl, _, rfl, (n : Int), rfl, lg0 (by omega), _, hZ, small1000 (by rw [List.length_map, List.length_map, List.length_take]; have := rwN_len r; omega), same_wr s4 nZ, ?_⟩
      rw [upd_same, List.take_add_one, hn, List.map_append, List.map_append]
      rfl
    · rintro H4 ⟨s4, hZ⟩
      rw [List.length_map, List.take_length] at hZ
      have s24 := s3.trans s4
      refine ⟨L1, Z, _, _, rfl, rfl, s24 _ _ h1, hZ, by rw [List.length_map, List.length_map]; exact Nat.le_trans (by show 1 + (rwN r).length ≤ 1000; have := rwN_len r; omega : _ ≤ 1000) (by decide), fun Y H5 nY s5 hY _ => ?_⟩
      exact ⟨_, Y, wordsR r, rfl, rfl, .inl (.of hY), Nat.le_trans (row_sum bd) (by decide), q H5 (s2.trans (s24.trans s5))⟩
def spShl : Sp := fun vs H Q _ => ∃ (R : Addr) (rows : List Rw), vs = [.ref R] ∧ RowsL H R rows ∧ (∀ r ∈ rows, ∀ n ∈ rwN r, n < 300) ∧ rows.length ≤ 201 ∧ ∀ H', Same H H' → Q (.str (ldT rows)) H'
abbrev sShl : Stmt := topS 20
abbrev nShl : List Str := ["ladder", "shown", "row"]
theorem scShl : FnScope nShl ["ladder"] (defScope sShl) := ⟨rfl, rfl, rfl, by decide +kernel, rfl, by decide +kernel, by decide +kernel⟩
theorem ok_shl {f fR : Addr} {fd fdR : FuncData} {k : Nat} {tk : Tok} (F : Fun K "show_ladder" "show_ladder" sShl f fd) (MB : mg "BETWEEN" = some (.str " / " tk))
    (FR : Fun K "show_row" "show_row" sShr fR fdR) (bR : Binds K fdR ["row"] []) (gR : mg "show_row" = some (.ref fR)) (GR : FnOk P w K mg base CX0 1 fR fdR ["row"] spShr) : FnOk P w K mg base CX0 (k + 2) f fd ["ladder"] spShl := by
  refine F.ok scShl (fun vs H Q E h => ?_) (fun cdv A outer s H vs Q E hr h => ?_)
  · obtain ⟨R, rows, rfl, _⟩ := h
    rfl
  · obtain ⟨R, rows, rfl, ⟨vs, hL, aR⟩, bd, l201, q⟩ := h
    have hr1 : Room 1 _ := hr.mono (by omega)
    refine ⟨_, (Evl.pss_cut (ps_setLc (i := 1) (own := [("row", 2)]) (g := (gName 2)) (tt := tYes) rfl scShl.nd rfl rfl (sw_true rfl rfl rfl (by decide +kernel)) (pi_list (pv 0)) (blkOk_by (N := nShl) (sc := defScope sShl) (by decide +kernel)) (fun _ _ _ _ _ => (pg_name (i := 2) scShl.nd rfl (.inl rfl))) (fun _ _ _ _ _ => pts_nil) (fun _ _ _ _ _ => (pe_call GR hr1 (by rfl) gR FR.kp bR .nil pass0 (pa_cons (pv 2) pa_nil))))
      (pss_one (ps_ret (L2.pe_join (pe_glob (v := .str " / ") rfl MB ⟨_, rfl⟩) (pv 1))))), ?_⟩
    refine Evl.q_cut (M := fun σ' G => ∃ (Z : Addr) (y : Option V), σ' = [some (.ref R), some (.ref Z), y] ∧ Same H G ∧ G Z = some (.lst ((rows.map rwT).map V.str))) ?_ ?_
    · refine ⟨_, rfl, R, rfl, ⟨_, .of hL⟩, fun Z nZ => ?_⟩
      refine lc_list (xs := vs) (Pv := fun u H' => Same H H' ∧ H' Z = some (.lst (((rows.take u).map rwT).map V.str))) ⟨same_new nZ, upd_same⟩ (fun u H' _ z => .of (z.1 _ _ hL)) ?_ ?_
      · rintro u x H4 hx ⟨s4, hZ⟩
        obtain ⟨r, er, hr_⟩ := aR.at hx
        have lu := (List.getElem?_eq_some_iff.mp er).1
        refine ⟨rfl, _, rfl, x, r, rfl, hr_.same s4, bd r (List.mem_of_getElem? er), fun H5 s5 => ?_⟩
        refine ⟨_, s5 _ _ hZ, small1000 (by rw [List.length_map, List.length_map, List.length_take]; omega), same_wr (s4.trans s5) nZ, ?_⟩
        rw [upd_same, List.take_add_one, er, List.map_append, List.map_append]
        rfl
      · rintro H4 ⟨s4, hZ⟩
        rw [aR.1, List.take_length] at hZ
        exact ⟨Z, _, rfl, s4, hZ⟩
    rintro σ' G ⟨Z, y, rfl, s1, hZ⟩
    exact ⟨⟨_, rfl⟩, _, rfl, _, Z, rows.map rwT, rfl, rfl, .inl (.of hZ), Nat.le_trans (lad_sum bd l201) (by decide), q G s1⟩
abbrev sRtx : Stmt := topS 45
abbrev nRtx : List Str := ["rows", "row", "number"]
theorem scRtx : FnScope nRtx ["rows"] (defScope sRtx) := ⟨rfl, rfl, rfl, by decide +kernel, rfl, by decide +kernel, by decide +kernel⟩
theorem ok_rtx {f : Addr} {fd : FuncData} {k : Nat} (F : Fun K "_law_e_rows_text" "_law_e_rows_text" sRtx f fd) (T : Zw mg) : FnOk P w K mg base CX0 (k + 1) f fd ["rows"] spShl := by
  refine F.ok scRtx (fun vs H Q E h => ?_) (fun cdv A outer s H vs Q E hr h => ?_)
  · obtain ⟨R, rows, rfl, _⟩ := h
    rfl
  · obtain ⟨R, rows, rfl, ⟨vs, hL, aR⟩, bd, l201, q⟩ := h
    refine ⟨_, (pss_one (ps_ret (L2.pe_join pe_str (pe_lc (own := [("row", 1)]) (g := (gName 1)) (tt := tYes) rfl scRtx.nd (pi_list (pv 0)) (blkOk_by (N := nRtx) (sc := defScope sRtx) (by decide +kernel)) (fun _ _ _ _ _ => (pg_name (i := 1) scRtx.nd rfl (.inl rfl))) (fun _ _ _ _ _ => pts_nil) (fun _ _ _ _ _ => (pe_joinB (K := K) rfl pe_str (pe_op (op_catNB (K := K) rfl) (pe_lstN (pa_cons (pe_ix (ix_tupB (K := K) rfl) (pv 1) pe_int (fun _ _ => rfl)) pa_nil)) (pe_lc (own := [("number", 2)]) (g := (gName 2)) (tt := tYes) rfl scRtx.nd (pi_tupB (K := K) rfl (pe_slice (sl_tupNB (K := K) rfl) (pv 1) (po_some pe_int) po_none)) (blkOk_by (N := nRtx) (sc := { kind := .function, names := [(".0", .local), ("row", .local)], isGenerator := false, isCoroutine := false }) (by decide +kernel)) (fun _ _ _ _ _ => (pg_name (i := 2) scRtx.nd rfl (.inl rfl))) (fun _ _ _ _ _ => pts_nil) (fun _ _ _ _ _ => (pe_callTy call_str_int (by rfl) T.z_str (by decide +kernel) (pa_cons (pv 2) pa_nil))))))))))), ?_⟩
    refine ⟨⟨_, rfl⟩, _, rfl, R, rfl, ⟨_, .of hL⟩, fun D nD => ?_⟩
    refine lc_list (xs := vs) (Pv := fun j H' => Same H H' ∧ H' D = some (.lst (((rows.take j).map rwT).map V.str))) ⟨same_new nD, upd_same⟩ (fun j H' _ z => .of (z.1 _ _ hL)) ?_ ?_
    · rintro j v H1 hv ⟨s1, hD⟩
      obtain ⟨r, er, a, rfl, ha⟩ := aR.at hv
      have ha1 := s1 _ _ ha
      have li := (List.getElem?_eq_some_iff.mp er).1
      have br := bd r (List.mem_of_getElem? er)
      refine ⟨rfl, ⟨_, rfl⟩, _, rfl, a, _, 0, .str (rwW r), rfl, rfl, .of ha1, by cases r <;> rfl, by show 1 ≤ sizeLine; decide, fun L1 H2 n1 s2 h1 _ => ?_⟩
      refine ⟨_, rfl, _, rfl, a, _, rfl, s2 _ _ ha1, fun S H3 s3 hS => ?_⟩
      rw [rwN_cut] at hS
      refine ⟨S, rfl, ⟨_, .of hS⟩, fun Z nZ => ?_⟩
      refine lc_tup (xs := (rwN r).map fun n : Nat => V.int n) (Pv := fun u H' => Same H3 H' ∧ H' Z = some (.lst ((((rwN r).take u).map fun n : Nat => numT n).map V.str))) ⟨same_new nZ, upd_same⟩ (fun u H' _ z => .of (z.1 _ _ hS)) ?_ ?_
      · rintro u x H4 hx ⟨s4, hZ⟩
        rw [List.getElem?_map] at hx
        obtain ⟨n, hn, rfl⟩ := Option.map_eq_some_iff.mp hx
        have n3 := br n (List.mem_of_getElem? hn)
        refine ⟨rfl, _, rfl, (n : Int), rfl, lg0 (by omega), _, hZ, small1000 (by rw [List.length_map, List.length_map, List.length_take]; have := rwN_len r; omega), same_wr s4 nZ, ?_⟩
        rw [upd_same, List.take_add_one, hn, List.map_append, List.map_append]
        rfl
      · rintro H4 ⟨s4, hZ⟩
        rw [List.length_map, List.take_length] at hZ
        have s24 := s3.trans s4
        refine ⟨L1, Z, _, _, rfl, rfl, s24 _ _ h1, hZ, by rw [List.length_map, List.length_map]; exact Nat.le_trans (by show 1 + (rwN r).length ≤ 1000; have := rwN_len r; omega : _ ≤ 1000) (by decide), fun Y H5 nY s5 hY _ => ?_⟩
        refine ⟨_, Y, wordsR r, rfl, rfl, .inl (.of hY), Nat.le_trans (row_sum br) (by decide), ?_⟩
        have s15 := s2.trans (s24.trans s5)
        refine ⟨_, s15 _ _ hD, small1000 (by rw [List.length_map, List.length_map, List.length_take]; omega), same_wr (s1.trans s15) nD, ?_⟩
        rw [upd_same, List.take_add_one, er, List.map_append, List.map_append]
        rfl
    · rintro H1 ⟨s1, hD⟩
      rw [aR.1, List.take_length] at hD
      exact ⟨_, D, rows.map rwT, rfl, rfl, .inl (.of hD), Nat.le_trans (lad_sum bd l201) (by decide), q H1 s1⟩
end
end Tc
namespace Tc
open PySem PySem.Spec PyProof.Rows L2 GxR Nw Dr Kp Ev1 Rk Tw Od
open TL (tl len_tl)
/-! ### rows that are drawn, each a row behind those ahead (k80) -/
theorem RVs.snoc {rows : List Rw} {r : Rw} (h : RVs rows) (g : RV rows.length r) : RVs (rows ++ [r]) := fun i x hx => by
  by_cases l : i < rows.length
  · rw [List.getElem?_append_left l] at hx
    exact h i x hx
  · have e : i = rows.length := by
      have := (List.getElem?_eq_some_iff.mp hx).1
      rw [List.length_append, List.length_singleton] at this
      omega
    subst e
    rw [List.getElem?_append_right (Nat.le_refl _), Nat.sub_self] at hx
    cases hx
    exact g
theorem RVs.one {r : Rw} (g : RV 0 r) : RVs [r] := RVs.snoc (rows := []) (fun i x hx => by cases hx) g
section
variable {P : Program} {w : World} {K : PySem.W.Frag} {mg : Str → Option Value} {base : Heap}
def spDrv : Sp := fun vs H Q _ => ∃ (f c : Addr) (m : Nat) (B : Nat), vs = [.ref f, .int m] ∧ 1 ≤ m ∧ m ≤ 200 ∧ Feed H f c B ∧ B ≤ 2 ^ 27 ∧
  ∀ (R : Addr) (rows : List Rw) H', Feed H' f c (B + 2000) → Ke (· = f) H H' → R ≠ f → RowsL H' R rows → RVs rows → 1 ≤ rows.length → rows.length ≤ 200 → Q (.ref R) H'
theorem ok_drv {f fD : Addr} {fd fdD : FuncData} {k : Nat} (F : Fun K "_law_e_drawn_rows" "_law_e_drawn_rows" sDro f fd) (T : Zd mg)
    (FD : Fun K "_law_e_take" "_law_e_take" sDrw fD fdD) (bD : Binds K fdD ["pen", "many"] []) (gD : mg "_law_e_take" = some (.ref fD)) (GD : FnOk P w K mg base CX0 2 fD fdD ["pen", "many"] spDrw) :
    FnOk P w K mg base CX0 (k + 3) f fd ["pen", "many"] spDrv := by
  refine F.ok scDro (fun vs H Q E h => ?_) (fun cdv A outer s H vs Q E hr h => ?_)
  · obtain ⟨f, c, m, B, rfl, _⟩ := h
    rfl
  · obtain ⟨f, c, m, B, rfl, m1, m2, hF, hB, q⟩ := h
    have hr2 : Room 2 _ := hr.mono (by omega)
    refine ⟨_, (Evl.pss_cut (ps_set (i := 2) scDro.nd rfl (.inl rfl) (pe_lstN (pa_cons (pe_tupN (pa_cons pe_str (pa_cons (pe_call GD hr2 (by rfl) gD FD.kp bD .nil pass0 (pa_cons (pv 0) (pa_cons pe_int pa_nil))) pa_nil))) pa_nil)))
      (Evl.pss_cut (ps_while PassesOwn.never (pt_cmpR op_lt (pe_callB call_len_seq (by rfl) T.z_len (by decide +kernel) (pa_cons (pv 2) pa_nil)) (pv 1) (nomark _)) (Evl.pss_cut (ps_set (i := 3) scDro.nd rfl (.inl rfl) (pe_tupN (pa_cons pe_str (pa_cons (pe_ix ix_list (pe_lstN (pa_cons pe_int (pa_cons pe_int (pa_cons (pe_call GD hr2 (by rfl) gD FD.kp bD .nil pass0 (pa_cons (pv 0) (pa_cons pe_int pa_nil))) pa_nil)))) (pe_call GD hr2 (by rfl) gD FD.kp bD .nil pass0 (pa_cons (pv 0) (pa_cons pe_int pa_nil))) (fun _ _ => rfl)) pa_nil))))
      (Evl.pss_cut (ps_if (pt_cmpR op_gt (pe_call GD hr2 (by rfl) gD FD.kp bD .nil pass0 (pa_cons (pv 0) (pa_cons pe_int pa_nil))) pe_int (nomark _)) (Evl.pss_cut (ps_set (i := 4) scDro.nd rfl (.inl rfl) (pe_ix ix_list (pe_lstN (pa_cons (pe_op op_sub (pe_callB call_len_seq (by rfl) T.z_len (by decide +kernel) (pa_cons (pv 2) pa_nil)) pe_int) (pa_cons (pe_call GD hr2 (by rfl) gD FD.kp bD .nil pass0 (pa_cons (pv 0) (pa_cons (pe_callB call_len_seq (by rfl) T.z_len (by decide +kernel) (pa_cons (pv 2) pa_nil)) pa_nil))) pa_nil))) (pe_call GD hr2 (by rfl) gD FD.kp bD .nil pass0 (pa_cons (pv 0) (pa_cons pe_int pa_nil))) (fun _ _ => rfl)))
      (pss_one (ps_set (i := 3) scDro.nd rfl (.inl rfl) (pe_tupN (pa_cons pe_str (pa_cons (pv 4) (pa_cons (pe_call GD hr2 (by rfl) gD FD.kp bD .nil pass0 (pa_cons (pv 0) (pa_cons (pe_callB call_len_seq (by rfl) T.z_len (by decide +kernel) (pa_cons (pv 2) pa_nil)) pa_nil))) (pa_cons (pe_op op_add pe_int (pe_call GD hr2 (by rfl) gD FD.kp bD .nil pass0 (pa_cons (pv 0) (pa_cons pe_int pa_nil)))) pa_nil)))))))) pss_nil)
      (pss_one (ps_expr (pe_bm PySem.F.plainAttrs_list PySem.F.slot_list_append PySem.F.type_list_append mt_append (pv 2) (pa_cons (pv 3) pa_nil)))))))
      (pss_one (ps_ret (pv 2))))), ?_⟩
    refine Evl.q_cut (M := fun σ' H' => ∃ (R : Addr) (r : Rw), σ' = [some (.ref f), some (.int m), some (.ref R), none, none] ∧ Feed H' f c (B + 1) ∧ Ke (· = f) H H' ∧ R ≠ f ∧ R ≠ c ∧ Frs H R ∧ RowsL H' R [r] ∧ RV 0 r) ?_ ?_
    · refine ⟨_, rfl, f, c, 16, B, rfl, by decide, by decide, hF, by omega, fun d H1 d0 d1 F1 k1 => ?_⟩
      obtain ⟨n, rfl⟩ : ∃ n : Nat, d = (n : Int) := ⟨d.toNat, by omega⟩
      refine ⟨by show 2 ≤ sizeLine; decide, fun p H2 np s2 hp _ => ⟨by show 1 ≤ sizeLine; decide, fun R H3 nR s3 hR _ => ?_⟩⟩
      have F2 := F1.same s2
      exact ⟨R, .book n, rfl, F2.same s3, k1.trans (.same (s2.trans s3)), F2.nf nR, F2.nc nR, .ke (k1.trans (.same s2)) F2 (.of nR), ⟨_, hR, All2.snoc (xs := []) (ys := []) .nil ⟨p, rfl, s3 _ _ hp⟩⟩, show n ≤ 15 by omega⟩
    rintro σ' H1 ⟨R, r, rfl, F1, k1, nRf, nRc, frR, hR1, b1⟩
    refine Evl.q_cut (M := fun σ' H' => ∃ (y3 y4 : Option V) (rows : List Rw), σ' = [some (.ref f), some (.int m), some (.ref R), y3, y4] ∧ Feed H' f c (B + 1 + 8 * rows.length) ∧ Ke (· = f) H H' ∧ RowsL H' R rows ∧ RVs rows ∧ 1 ≤ rows.length ∧ rows.length ≤ m) ?_ ?_
    · refine while_by (fun σ H' => ∃ (y3 y4 : Option V) (rows : List Rw), σ = [some (.ref f), some (.int m), some (.ref R), y3, y4] ∧ Feed H' f c (B + 1 + 8 * rows.length) ∧ Ke (· = f) H H' ∧ RowsL H' R rows ∧ RVs rows ∧ 1 ≤ rows.length ∧ rows.length ≤ m) (fun _ H' => mL R m H') ?_ ?_ ?_
      · exact ⟨none, none, [r], rfl, F1.mono (by omega), k1, hR1, .one b1, Nat.le_refl _, m1⟩
      · clear hR1 b1 k1 F1 H1
        rintro σ H1 ⟨y3, y4, rows, rfl, F1, k1, ⟨vs, hR, aR⟩, ba, l1, lm⟩
        have lr := aR.1
        refine ⟨_, rfl, R, _, rfl, .inl (.of hR), _, rfl, _, _, rfl, rfl, _, rfl, ite2 (fun e => ?_) (fun e => ?_)⟩
        · have e : ((vs.length : Nat) : Int) < m := of_decide_eq_true e
          -- a claim of the book
          refine Evl.q_cut (M := fun σ' H' => ∃ (p : Addr) (r : Rw), σ' = [some (.ref f), some (.int m), some (.ref R), some (.ref p), y4] ∧ Feed H' f c (B + 1 + 8 * rows.length + 2) ∧ Ke (· = f) H1 H' ∧ H' p = some (.tup r.vs) ∧ RV rows.length r) ?_ ?_
          · refine ⟨_, rfl, f, c, 16, _, rfl, by decide, by decide, F1, by omega, fun d H2 d0 d1 F2 k2 => ?_⟩
            refine ⟨by show 3 ≤ sizeLine; decide, fun Lk H3 nL s3 hL _ => ⟨_, rfl, f, c, 3, _, rfl, by decide, by decide, F2.same s3, by omega, fun d' H4 d0' d1' F4 k4 => ?_⟩⟩
            obtain ⟨n, rfl⟩ : ∃ n : Nat, d = (n : Int) := ⟨d.toNat, by omega⟩
            have hL4 := k4.lst hL ((F2.nf nL))
            have key : ∃ (j : Nat) (a : Nat), d' = (j : Int) ∧ [V.int 0, V.int 15, V.int n][j]? = some (.int (a : Nat)) ∧ a ≤ 15 := by
              rcases (by omega : d' = 0 ∨ d' = 1 ∨ d' = 2) with rfl | rfl | rfl
              · exact ⟨0, 0, rfl, rfl, by decide⟩
              · exact ⟨1, 15, rfl, rfl, by decide⟩
              · exact ⟨2, n, rfl, rfl, by omega⟩
            obtain ⟨j, a, rfl, ea, la⟩ := key
            refine ⟨Lk, _, _, _, rfl, rfl, .of hL4, at_of (j := j) rfl ea, by show 2 ≤ sizeLine; decide, fun p H5 np s5 hp _ => ?_⟩
            exact ⟨p, .book a, rfl, F4.same s5, k2.trans ((Ke.same s3).trans (k4.trans (.same s5))), hp, la⟩
          rintro σ' H2 ⟨p, r, rfl, F2, k2, hp, br⟩
          have hR2 := k2.lst hR nRf
          -- a cut
          refine Evl.q_cut (M := fun σ' H' => ∃ (p : Addr) (y4 : Option V) (r : Rw), σ' = [some (.ref f), some (.int m), some (.ref R), some (.ref p), y4] ∧ Feed H' f c (B + 1 + 8 * rows.length + 7) ∧ Ke (· = f) H1 H' ∧ H' p = some (.tup r.vs) ∧ RV rows.length r) ?_ ?_
          · refine ⟨_, rfl, f, c, 3, _, rfl, by decide, by decide, F2, by omega, fun d H3 d0 d1 F3 k3 => ?_⟩
            refine ⟨_, _, rfl, rfl, _, rfl, ite2 (fun e1 => ?_) (fun e1 => ?_)⟩
            · have hR3 := k3.lst hR2 nRf
              refine Evl.q_cut (M := fun σ' H' => ∃ (a : Nat), σ' = [some (.ref f), some (.int m), some (.ref R), some (.ref p), some (.int a)] ∧ Feed H' f c (B + 1 + 8 * rows.length + 5) ∧ Ke (· = f) H3 H' ∧ a < rows.length) ?_ ?_
              · refine ⟨_, rfl, R, _, rfl, .inl (.of hR3), _, _, rfl, rfl, _, rfl, _, rfl, R, _, rfl, .inl (.of hR3), f, c, _, _, rfl, by omega, by omega, F3, by omega, fun d' H4 d0' d1' F4 k4 => ?_⟩
                refine ⟨by show 2 ≤ sizeLine; decide, fun Lk H5 nL s5 hL _ => ⟨_, rfl, f, c, 2, _, rfl, by decide, by decide, F4.same s5, by omega, fun d2 H6 d20 d21 F6 k6 => ?_⟩⟩
                have hL6 := k6.lst hL ((F4.nf nL))
                obtain ⟨n, rfl⟩ : ∃ n : Nat, d' = (n : Int) := ⟨d'.toNat, by omega⟩
                have key : ∃ (j : Nat) (a : Nat), d2 = (j : Int) ∧ [V.int (((vs.length : Nat) : Int) - 1), V.int n][j]? = some (.int (a : Nat)) ∧ a < rows.length := by
                  rcases (by omega : d2 = 0 ∨ d2 = 1) with rfl | rfl
                  · exact ⟨0, vs.length - 1, rfl, by show some (V.int _) = _; rw [show ((vs.length : Nat) : Int) - 1 = ((vs.length - 1 : Nat) : Int) by omega], by omega⟩
                  · exact ⟨1, n, rfl, rfl, by omega⟩
                obtain ⟨j, a, rfl, ea, la⟩ := key
                exact ⟨Lk, _, _, _, rfl, rfl, .of hL6, at_of (j := j) rfl ea, a, rfl, F6, k4.trans ((Ke.same s5).trans k6), la⟩
              rintro σ' H4 ⟨a, rfl, F4, k4, la⟩
              have hR4 := k4.lst hR3 nRf
              refine ⟨_, rfl, _, rfl, _, rfl, R, _, rfl, .inl (.of hR4), f, c, _, _, rfl, by omega, by omega, F4, by omega, fun d' H5 d0' d1' F5 k5 => ?_⟩
              refine ⟨_, rfl, f, c, 8, _, rfl, by decide, by decide, F5, by omega, fun d2 H6 d20 d21 F6 k6 => ?_⟩
              obtain ⟨b, rfl⟩ : ∃ n : Nat, d' = (n : Int) := ⟨d'.toNat, by omega⟩
              obtain ⟨g, rfl⟩ : ∃ n : Nat, d2 = (n : Int) := ⟨d2.toNat, by omega⟩
              refine ⟨_, _, rfl, rfl, by show 4 ≤ sizeLine; decide, fun p2 H7 np s7 hp2 _ => ?_⟩
              refine ⟨p2, _, .cut a b (1 + g), rfl, F6.same s7, k2.trans (k3.trans (k4.trans (k5.trans (k6.trans (.same s7))))), ?_, ⟨la, by omega, by omega, by omega⟩⟩
              rw [hp2]
              show some (HO.tup [V.str "cut", V.int a, V.int b, V.int (1 + (g : Int))]) = some (HO.tup [V.str "cut", V.int a, V.int b, V.int ((1 + g : Nat) : Int)])
              rw [show (1 : Int) + (g : Int) = ((1 + g : Nat) : Int) by omega]
            · exact ⟨p, y4, r, rfl, F3.mono (by omega), k2.trans k3, k3.tups _ _ hp, br⟩
          clear hR2 br hp k2 F2 H2 r p y4
          rintro σ' H2 ⟨p, y4, r, rfl, F2, k2, hp, br⟩
          have hR2 := k2.lst hR nRf
          refine ⟨_, rfl, .inl ⟨rfl, _, .of hR2⟩, _, rfl, R, _, _, rfl, rfl, hR2, small1000 (by omega), ?_⟩
          refine ⟨⟨_, _, rows ++ [r], rfl, (F2.upd nRf nRc).mono (by rw [List.length_append, List.length_singleton]; omega), (k1.trans k2).write frR hR2, ⟨_, upd_same, All2.snoc (aR.imp fun _ _ h => (h.ke k2).wr hR2) (RowAt.wr ⟨p, rfl, hp⟩ hR2)⟩, ba.snoc br, by rw [List.length_append, List.length_singleton]; omega, by rw [List.length_append, List.length_singleton]; omega⟩, ?_⟩
          · rw [mL_lst upd_same, mL_lst hR, List.length_append, List.length_singleton]
            omega
        · exact ⟨y3, y4, rows, rfl, F1, k1, ⟨vs, hR, aR⟩, ba, l1, lm⟩
      · rintro σ H0 Q1 Q2 hq ⟨v, e, p, ys, e1, e2, w, e3, i, j, e5, e6, b, e7, z⟩
        exact ⟨v, e, p, ys, e1, e2, w, e3, i, j, e5, e6, b, e7, hq _ _ z⟩
    clear hR1 b1 k1 F1 H1
    rintro σ' H1 ⟨y3, y4, rows, rfl, F1, k1, hR, ba, l1, lm⟩
    exact ⟨_, rfl, q R rows H1 (F1.mono (by omega)) k1 nRf hR ba l1 (by omega)⟩
end
end Tc
namespace Tc
open PySem PySem.Spec PyProof.Rows L2 GxR Nw Dr Kp Ev1 Rk Tw Od Kc
/-! ### the claim of a row, as the law tells it -/
def BesC (a b : List Int) (k j : Int) : Prop := (j ∈ a ∨ j ∈ b) ∧ (j.natAbs : Int) ≠ k
def restC (k : Int) (a b : List Int) : List Int := a.filter (fun s => !decide (V.int s = V.int k)) ++ b.filter (fun s => !decide (V.int s = V.int (0 - k)) && !inV (.int s) (a.map V.int))
def RowIs (css cls : List (List Int)) : Rw → List Int → Prop
  | .book n, c => css[n]? = some c
  | .cut i j k, c => ∃ a b, cls[i]? = some a ∧ cls[j]? = some b ∧ (k : Int) ∈ a ∧ -(k : Int) ∈ b ∧ (∀ j, BesC a b k j → ¬ BesC a b k (-j)) ∧ c.Pairwise (· < ·) ∧ ∀ j, j ∈ c ↔ BesC a b k j
def RowG (m n : Nat) : Rw → Prop
  | .book x => x < m
  | .cut i j k => i < n ∧ j < n ∧ 1 ≤ k ∧ k ≤ 8
theorem mem_rest {a b : List Int} {k j : Int} (ha : Cl0 a) (hb : Cl0 b) (ka : k ∈ a) (kb : -k ∈ b) (k1 : 1 ≤ k) : j ∈ restC k a b ↔ BesC a b k j := by
  unfold restC BesC
  rw [List.mem_append, List.mem_filter, List.mem_filter, Bool.and_eq_true, Bool.not_eq_true', Bool.not_eq_true', Bool.not_eq_true', decide_eq_false_iff_not, decide_eq_false_iff_not, Bool.eq_false_iff]
  rw [show (inV (.int j) (a.map V.int) ≠ true) ↔ j ∉ a from not_congr (in_ints j a)]
  have na : -k ∉ a := ha.opp k ka
  have nb : k ∉ b := fun z => hb.opp k z kb
  constructor
  · rintro (⟨h, n⟩ | ⟨h, n, m⟩)
    · refine ⟨.inl h, fun e => ?_⟩
      have n : ¬ j = k := fun z => n (by rw [z])
      have : j = -k := by omega
      rw [this] at h
      exact na h
    · refine ⟨.inr h, fun e => ?_⟩
      have n : ¬ j = -k := fun z => n (by rw [z, show 0 - k = -k by omega])
      have : j = k := by omega
      rw [this] at m
      exact m ka
  · rintro ⟨h, n⟩
    by_cases m : j ∈ a
    · exact .inl ⟨m, fun z => n (by rw [V.int.inj z]; omega)⟩
    · rcases h with h | h
      · exact absurd h m
      · exact .inr ⟨h, fun z => n (by rw [V.int.inj z]; omega), m⟩
theorem up_nodup {l : List Int} (h : l.Pairwise (· < ·)) : l.Nodup := h.imp fun {a b} h e => by
  rw [e] at h
  exact absurd h (Int.lt_irrefl b)
theorem nodup_rest {a b : List Int} {k : Int} (ha : Cl0 a) (hb : Cl0 b) : (restC k a b).Nodup := by
  unfold restC
  rw [List.nodup_append]
  refine ⟨(up_nodup ha.up).filter _, (up_nodup hb.up).filter _, fun x hx y hy e => ?_⟩
  obtain ⟨h1, _⟩ := List.mem_filter.mp hx
  obtain ⟨_, h2⟩ := List.mem_filter.mp hy
  rw [Bool.and_eq_true, Bool.not_eq_true', Bool.not_eq_true', ← e] at h2
  rw [(in_ints x a).mpr h1] at h2
  cases h2.2
theorem lt_of_le {l : List Int} (h : l.Pairwise (· ≤ ·)) (n : l.Nodup) : l.Pairwise (· < ·) := by
  have := h.and n
  exact this.imp fun {a b} h => by have := h.1; have := h.2; omega
theorem rest_len {a b : List Int} {k : Int} (ha : Cl0 a) (hb : Cl0 b) : (restC k a b).length ≤ 34 := by
  unfold restC
  rw [List.length_append]
  have h1 := List.length_filter_le (fun s : Int => !decide (V.int s = V.int k)) a
  have h2 := List.length_filter_le (fun s : Int => !decide (V.int s = V.int (0 - k)) && !inV (.int s) (a.map V.int)) b
  have := cl0_len ha
  have := cl0_len hb
  omega
theorem bes_cl {a b c : List Int} {k : Int} (ha : Cl0 a) (hb : Cl0 b) (no : ∀ j, BesC a b k j → ¬ BesC a b k (-j)) (up : c.Pairwise (· < ·)) (me : ∀ j, j ∈ c ↔ BesC a b k j) : Cl0 c := ⟨up, fun j hj => (((me j).mp hj).1).elim (ha.says j) (hb.says j), fun j hj z => no j ((me j).mp hj) ((me (-j)).mp z)⟩
theorem filt_take {α : Type} {f : α → Bool} {l : List α} {i : Nat} {x : α} (h : l[i]? = some x) : (l.take (i + 1)).filter f = (l.take i).filter f ++ (if f x = true then [x] else []) := by
  rw [List.take_add_one, h, List.filter_append]
  congr 1
  show [x].filter f = _
  cases e : f x with
  | true => rw [List.filter_cons_of_pos e]; rfl
  | false => rw [List.filter_cons_of_neg (by rw [e]; decide)]; rfl
theorem not_in {k : Int} {l : List Int} : ((!inV (.int k) (l.map V.int)) = true) ↔ k ∉ l := by
  rw [Bool.not_eq_true', Bool.eq_false_iff]
  exact not_congr (in_ints k l)
structure Zl (mg : Str → Option Value) : Prop where
  z_len : mg "len" = none
  z_isinstance : mg "isinstance" = none
  z_tuple : mg "tuple" = none
  z_int : mg "int" = none
  z_bool : mg "bool" = none
  z_any : mg "any" = none
  z_sorted : mg "sorted" = none
section
variable {P : Program} {w : World} {K : PySem.W.Frag} {mg : Str → Option Value} {base : Heap}
abbrev sWho : Stmt := topS 36
theorem scWho : FnScope ["thing"] ["thing"] (defScope sWho) := ⟨rfl, rfl, rfl, by decide +kernel, rfl, by decide +kernel, by decide +kernel⟩
def spWhoI : Sp := fun vs H Q _ => ∃ n : Int, vs = [.int n] ∧ Q (.bl true) H
theorem ok_who {f : Addr} {fd : FuncData} {k : Nat} (F : Fun K "_law_e_whole" "_law_e_whole" sWho f fd) (T : Zl mg) : FnOk P w K mg base CX0 (k + 1) f fd ["thing"] spWhoI := by
  refine F.ok scWho (fun vs H Q E h => ?_) (fun cdv A outer s H vs Q E hr h => ?_)
  · obtain ⟨n, rfl, _⟩ := h
    rfl
  · obtain ⟨n, rfl, q⟩ := h
    refine ⟨_, (pss_one (ps_ret (pe_and (pe_callB call_isi (by rfl) T.z_isinstance (by decide +kernel) (pa_cons (pv 0) (pa_cons (pe_bltn (v := .ty "int") (u := .type "int") (by rfl) T.z_int (by decide +kernel) rfl) pa_nil))) (pe_one (pe_not (pe_callB call_isi (by rfl) T.z_isinstance (by decide +kernel) (pa_cons (pv 0) (pa_cons (pe_bltn (v := .ty "bool") (u := .type "bool") (by rfl) T.z_bool (by decide +kernel) rfl) pa_nil)))))))), ?_⟩
    exact ⟨_, rfl, .int n, .ty "int", .type "int", .type "int", true, rfl, .ty _, .base (.int n), kit_ty (by decide +kernel), _, rfl, _, rfl, .int n, .ty "bool", .type "int", .type "bool", false, rfl, .ty _, .base (.int n), kit_ty (by decide +kernel), _, rfl, q⟩
abbrev sIsn : Stmt := topS 39
theorem scIsn : FnScope ["thing", "many"] ["thing", "many"] (defScope sIsn) := ⟨rfl, rfl, rfl, by decide +kernel, rfl, by decide +kernel, by decide +kernel⟩
def spIsn : Sp := fun vs H Q _ => ∃ n m : Nat, vs = [.int (n : Int), .int (m : Int)] ∧ n < m ∧ Q (.bl true) H
theorem ok_isn {f fW : Addr} {fd fdW : FuncData} {k : Nat} (F : Fun K "_law_e_is_number" "_law_e_is_number" sIsn f fd) (FW : Fun K "_law_e_whole" "_law_e_whole" sWho fW fdW) (bW : Binds K fdW ["thing"] []) (gW : mg "_law_e_whole" = some (.ref fW)) (GW : FnOk P w K mg base CX0 1 fW fdW ["thing"] spWhoI) : FnOk P w K mg base CX0 (k + 2) f fd ["thing", "many"] spIsn := by
  refine F.ok scIsn (fun vs H Q E h => ?_) (fun cdv A outer s H vs Q E hr h => ?_)
  · obtain ⟨n, m, rfl, _⟩ := h
    rfl
  · obtain ⟨n, m, rfl, lt, q⟩ := h
    have hr1 : Room 1 _ := hr.mono (by omega)
    refine ⟨_, (pss_one (ps_ret (pe_and (pe_call GW hr1 (by rfl) gW FW.kp bW .nil pass0 (pa_cons (pv 0) pa_nil)) (pe_one (pe_chain op_le op_lt pe_int (pv 0) (pv 1)))))), ?_⟩
    refine ⟨_, rfl, n, rfl, true, rfl, _, rfl, _, _, rfl, rfl, true, ?_, _, rfl, _, _, rfl, rfl, ?_⟩
    · show V.bl (decide ((0 : Int) ≤ (n : Int))) = _
      rw [decide_eq_true (by omega)]
    · show Q (.bl (decide ((n : Int) < (m : Int)))) H
      rw [decide_eq_true (by omega)]
      exact q
abbrev sRcl : Stmt := topS 40
abbrev nRcl : List Str := ["book", "claims", "row", "one", "other", "k", "rest", "say"]
theorem scRcl : FnScope nRcl ["book", "claims", "row"] (defScope sRcl) := ⟨rfl, rfl, rfl, by decide +kernel, rfl, by decide +kernel, by decide +kernel⟩
def spRcl : Sp := fun vs H Q _ => ∃ (b : V) (C : Addr) (v : V) (css cls : List (List Int)) (r : Rw), vs = [b, .ref C, v] ∧ Bk H b css ∧ ClsL H C cls ∧ RowAt H v r ∧ (∀ c ∈ css, Cl0 c) ∧ (∀ c ∈ cls, Cl0 c) ∧ RowG css.length cls.length r ∧
  (∀ (c : List Int) (u : V) H', Same H H' → RowIs css cls r c → Cl0 c → TupI H' u c → Q u H') ∧ ((∀ c, ¬ RowIs css cls r c) → ∀ H', Same H H' → Q .non H')
theorem ok_rcl {f fW fN : Addr} {fd fdW fdN : FuncData} {k : Nat} (F : Fun K "_law_e_row_claim" "_law_e_row_claim" sRcl f fd) (T : Zl mg)
    (FW : Fun K "_law_e_whole" "_law_e_whole" sWho fW fdW) (bW : Binds K fdW ["thing"] []) (gW : mg "_law_e_whole" = some (.ref fW)) (GW : FnOk P w K mg base CX0 1 fW fdW ["thing"] spWhoI)
    (FN : Fun K "_law_e_is_number" "_law_e_is_number" sIsn fN fdN) (bN : Binds K fdN ["thing", "many"] []) (gN : mg "_law_e_is_number" = some (.ref fN)) (GN : FnOk P w K mg base CX0 2 fN fdN ["thing", "many"] spIsn) :
    FnOk P w K mg base CX0 (k + 3) f fd ["book", "claims", "row"] spRcl := by
  refine F.ok scRcl (fun vs H Q E h => ?_) (fun cdv A outer s H vs Q E hr h => ?_)
  · obtain ⟨b, C, v, css, cls, r, rfl, _⟩ := h
    rfl
  · obtain ⟨b, C, v, css, cls, r, rfl, hb, ⟨cvs, hC, aC⟩, ⟨p, rfl, hp⟩, ob, oc, rg, q1, q2⟩ := h
    obtain ⟨ba, bvs, rfl, hB, lB, aB⟩ := hb
    have hr1 : Room 1 _ := hr.mono (by omega)
    have hr2 : Room 2 _ := hr.mono (by omega)
    have lc := aC.1
    refine ⟨_, (Evl.pss_cut (ps_if (PW.pt (pw_or (pt_not (pt_val (pe_callB call_isi (by rfl) T.z_isinstance (by decide +kernel) (pa_cons (pv 2) (pa_cons (pe_bltn (v := .ty "tuple") (u := .type "tuple") (by rfl) T.z_tuple (by decide +kernel) rfl) pa_nil))))) (pw_or1 (pt_cmpR op_eq (pe_callB call_len_seq (by rfl) T.z_len (by decide +kernel) (pa_cons (pv 2) pa_nil)) pe_int (nomark _))))) (pss_one (ps_ret pe_non)) pss_nil)
      (Evl.pss_cut (ps_if (pt_cmpR op_eq (pe_ix ix_tup (pv 2) pe_int (fun _ _ => rfl)) pe_str (nomark _)) (pss_one (ps_ret (pe_ifExp (PW.pt (pw_and (pt_cmpR op_eq (pe_callB call_len_seq (by rfl) T.z_len (by decide +kernel) (pa_cons (pv 2) pa_nil)) pe_int (nomark _)) (pw_and1 (pt_val (pe_call GN hr2 (by rfl) gN FN.kp bN .nil pass0 (pa_cons (pe_ix ix_tup (pv 2) pe_int (fun _ _ => rfl)) (pa_cons (pe_callB call_len_seq (by rfl) T.z_len (by decide +kernel) (pa_cons (pv 0) pa_nil)) pa_nil))))))) (pe_ix ix_tup (pv 0) (pe_ix ix_tup (pv 2) pe_int (fun _ _ => rfl)) (fun _ _ => rfl)) pe_non))) pss_nil)
      (Evl.pss_cut (ps_if (PW.pt (pw_or (pt_cmpR op_ne (pe_ix ix_tup (pv 2) pe_int (fun _ _ => rfl)) pe_str (nomark _)) (pw_or (pt_cmpR op_ne (pe_callB call_len_seq (by rfl) T.z_len (by decide +kernel) (pa_cons (pv 2) pa_nil)) pe_int (nomark _)) (pw_or1 (pt_not (pt_val (pe_call GN hr2 (by rfl) gN FN.kp bN .nil pass0 (pa_cons (pe_ix ix_tup (pv 2) pe_int (fun _ _ => rfl)) (pa_cons (pe_callB call_len_seq (by rfl) T.z_len (by decide +kernel) (pa_cons (pv 1) pa_nil)) pa_nil))))))))) (pss_one (ps_ret pe_non)) pss_nil)
      (Evl.pss_cut (ps_if (PW.pt (pw_or (pt_not (pt_val (pe_call GN hr2 (by rfl) gN FN.kp bN .nil pass0 (pa_cons (pe_ix ix_tup (pv 2) pe_int (fun _ _ => rfl)) (pa_cons (pe_callB call_len_seq (by rfl) T.z_len (by decide +kernel) (pa_cons (pv 1) pa_nil)) pa_nil))))) (pw_or1 (pt_not (pt_val (pe_call GW hr1 (by rfl) gW FW.kp bW .nil pass0 (pa_cons (pe_ix ix_tup (pv 2) pe_int (fun _ _ => rfl)) pa_nil))))))) (pss_one (ps_ret pe_non)) pss_nil)
      (Evl.pss_cut (ps_asg (pe_tupN (pa_cons (pe_ix ix_list (pv 1) (pe_ix ix_tup (pv 2) pe_int (fun _ _ => rfl)) (fun _ _ => rfl)) (pa_cons (pe_ix ix_list (pv 1) (pe_ix ix_tup (pv 2) pe_int (fun _ _ => rfl)) (fun _ _ => rfl)) (pa_cons (pe_ix ix_tup (pv 2) pe_int (fun _ _ => rfl)) pa_nil)))) (pg_tup rfl (pgs_cons (pg_name (i := 3) scRcl.nd rfl (.inr rfl)) (pgs_cons (pg_name (i := 4) scRcl.nd rfl (.inl rfl)) (pgs_cons (pg_name (i := 5) scRcl.nd rfl (.inr rfl)) pgs_nil)))))
      (Evl.pss_cut (ps_if (PW.pt (pw_or (pt_not (pt_chain op_le op_le pe_int (pv 5) pe_int)) (pw_or (pt_cmpR op_notIn_seq (pv 5) (pv 3) (by rfl)) (pw_or1 (pt_cmpR op_notIn_seq (pe_op op_sub pe_int (pv 5)) (pv 4) (by rfl)))))) (pss_one (ps_ret pe_non)) pss_nil)
      (Evl.pss_cut (ps_set (i := 6) scRcl.nd rfl (.inr rfl) (pe_op op_catN (pe_lc (own := [("say", 7)]) (g := (gName 7))  rfl scRcl.nd (pi_tup (pv 3)) (blkOk_by (N := nRcl) (sc := defScope sRcl) (by decide +kernel)) (fun _ _ _ _ _ => (pg_name (i := 7) scRcl.nd rfl (.inl rfl))) (fun _ _ _ _ _ => (pts_one (pt_cmpR op_ne (pv 7) (pv 5) (nomark _)))) (fun _ _ _ _ _ => (pv 7))) (pe_lc (own := [("say", 7)]) (g := (gName 7))  rfl scRcl.nd (pi_tup (pv 4)) (blkOk_by (N := nRcl) (sc := defScope sRcl) (by decide +kernel)) (fun _ _ _ _ _ => (pg_name (i := 7) scRcl.nd rfl (.inl rfl))) (fun _ _ _ _ _ => (pts_one (PW.pt (pw_and (pt_cmpR op_ne (pv 7) (pe_op op_sub pe_int (pv 5)) (nomark _)) (pw_and1 (pt_cmpR (op_notIn_seqB (K := K) rfl) (pv 7) (pv 3) (by rfl))))))) (fun _ _ _ _ _ => (pv 7)))))
      (Evl.pss_cut (ps_if (pt_val (pe_callB (cr_any rfl) (by rfl) T.z_any (by decide +kernel) (pa_cons (pe_lc (own := [("say", 7)]) (g := (gName 7)) (tt := tYes) rfl scRcl.nd (pi_list (pv 6)) (blkOk_by (N := nRcl) (sc := defScope sRcl) (by decide +kernel)) (fun _ _ _ _ _ => (pg_name (i := 7) scRcl.nd rfl (.inl rfl))) (fun _ _ _ _ _ => pts_nil) (fun _ _ _ _ _ => (pe_cmpR (op_in_seqB (K := K) rfl) (pe_op op_sub pe_int (pv 7)) (pv 6) (by rfl)))) pa_nil))) (pss_one (ps_ret pe_non)) pss_nil)
      (pss_one (ps_ret (pe_callTy call_tuple_ofN (by rfl) T.z_tuple (by decide +kernel) (pa_cons (pe_callB cr_sortedN (by rfl) T.z_sorted (by decide +kernel) (pa_cons (pv 6) pa_nil)) pa_nil)))))))))))), ?_⟩
    refine Evl.q_cut (M := fun σ' G => σ' = some (.ref ba) :: some (.ref C) :: some (.ref p) :: List.replicate 5 none ∧ H = G) ?_ ?_
    · refine ⟨_, rfl, .ref p, .ty "tuple", .type "tuple", .type "tuple", true, rfl, .ty _, .base (.tup hp), kit_ty (by decide +kernel), true, rfl, ?_⟩
      refine ⟨_, rfl, p, _, rfl, .inr (.of hp), rfl, false, ?_, rfl, rfl⟩
      cases r <;> rfl
    rintro σ' G ⟨rfl, rfl⟩
    have bk : decide (V.str "book" = V.str "book") = true := decide_eq_true rfl
    have cb : decide (V.str "cut" = V.str "book") = false := decide_eq_false fun e => absurd (V.str.inj e) (by decide +kernel)
    have cc : decide (V.str "cut" = V.str "cut") = true := decide_eq_true rfl
    cases r with
    | book n =>
      have ln : n < css.length := rg
      have hc := List.getElem?_eq_getElem ln
      generalize css[n] = c at hc
      have hv := List.getElem?_eq_getElem (show n < bvs.length by omega)
      generalize bvs[n]'(by omega) = u at hv
      refine Evl.q_cut (M := fun _ _ => False) ?_ fun _ _ z => z.elim
      refine ⟨_, rfl, p, _, 0, .str "book", rfl, rfl, .of hp, rfl, rfl, true, by rw [bk], ?_⟩
      refine ⟨_, rfl, p, _, rfl, .inr (.of hp), rfl, true, rfl, ?_⟩
      refine ⟨_, rfl, p, _, 1, _, rfl, rfl, .of hp, rfl, _, rfl, ba, _, rfl, .inr (.of hB), n, bvs.length, rfl, by omega, true, rfl, ?_⟩
      refine ⟨_, rfl, _, rfl, p, _, 1, _, rfl, rfl, .of hp, rfl, ba, _, _, u, rfl, rfl, .of hB, at_of (j := n) rfl hv, ?_⟩
      exact q1 c u H (Same.refl _) hc (ob c (List.mem_of_getElem? hc)) (aB n u c hv hc)
    | cut i j k =>
      obtain ⟨li, lj, k1, k8⟩ := rg
      have ha := List.getElem?_eq_getElem li
      have hb := List.getElem?_eq_getElem lj
      generalize cls[i] = a at ha
      generalize cls[j] = b at hb
      have oa := oc a (List.mem_of_getElem? ha)
      have ob' := oc b (List.mem_of_getElem? hb)
      have va := List.getElem?_eq_getElem (show i < cvs.length by omega)
      have vb := List.getElem?_eq_getElem (show j < cvs.length by omega)
      generalize cvs[i]'(by omega) = x at va
      generalize cvs[j]'(by omega) = y at vb
      obtain ⟨ax, rfl, hx⟩ := aC.2 i x a va ha
      obtain ⟨ay, rfl, hy⟩ := aC.2 j y b vb hb
      have nope : (¬ ((k : Int) ∈ a ∧ -(k : Int) ∈ b ∧ ∀ j, BesC a b k j → ¬ BesC a b k (-j))) → ∀ c, ¬ RowIs css cls (.cut i j k) c := fun no c ⟨a', b', e1, e2, e3, e4, e5, _⟩ => by
        rw [ha] at e1
        rw [hb] at e2
        cases e1
        cases e2
        exact no ⟨e3, e4, e5⟩
      -- not of the book
      refine Evl.q_cut (M := fun σ' G => σ' = some (.ref ba) :: some (.ref C) :: some (.ref p) :: List.replicate 5 none ∧ H = G) ?_ ?_
      · exact ⟨_, rfl, p, _, 0, .str "cut", rfl, rfl, .of hp, rfl, rfl, false, by rw [cb], rfl, rfl⟩
      rintro σ' G ⟨rfl, rfl⟩
      refine Evl.q_cut (M := fun σ' G => σ' = some (.ref ba) :: some (.ref C) :: some (.ref p) :: List.replicate 5 none ∧ H = G) ?_ ?_
      · refine ⟨_, rfl, p, _, 0, .str "cut", rfl, rfl, .of hp, rfl, rfl, false, by rw [cc]; rfl, ?_⟩
        refine ⟨_, rfl, p, _, rfl, .inr (.of hp), rfl, false, rfl, ?_⟩
        exact ⟨_, rfl, p, _, 1, _, rfl, rfl, .of hp, rfl, _, rfl, C, _, rfl, .inl (.of hC), i, cvs.length, rfl, by omega, true, rfl, rfl, rfl⟩
      rintro σ' G ⟨rfl, rfl⟩
      refine Evl.q_cut (M := fun σ' G => σ' = some (.ref ba) :: some (.ref C) :: some (.ref p) :: List.replicate 5 none ∧ H = G) ?_ ?_
      · refine ⟨_, rfl, p, _, 2, _, rfl, rfl, .of hp, rfl, _, rfl, C, _, rfl, .inl (.of hC), j, cvs.length, rfl, by omega, true, rfl, ?_⟩
        exact ⟨_, rfl, p, _, 3, _, rfl, rfl, .of hp, rfl, _, rfl, true, rfl, rfl, rfl⟩
      rintro σ' G ⟨rfl, rfl⟩
      -- the two claims
      refine Evl.q_cut (M := fun σ' G => σ' = [some (.ref ba), some (.ref C), some (.ref p), some (.ref ax), some (.ref ay), some (.int (k : Nat)), none, none] ∧ Same H G) ?_ ?_
      · refine ⟨_, rfl, _, rfl, p, _, 1, _, rfl, rfl, .of hp, rfl, C, _, _, .ref ax, rfl, rfl, .of hC, at_of (j := i) rfl va, ?_⟩
        refine ⟨_, rfl, _, rfl, p, _, 2, _, rfl, rfl, .of hp, rfl, C, _, _, .ref ay, rfl, rfl, .of hC, at_of (j := j) rfl vb, ?_⟩
        refine ⟨_, rfl, p, _, 3, _, rfl, rfl, .of hp, rfl, by show 3 ≤ sizeLine; decide, fun t G nt s1 ht _ => ?_⟩
        exact ⟨t, _, rfl, .of ht, rfl, _, _, rfl, _, _, rfl, _, _, rfl, rfl, rfl, s1⟩
      rintro σ' H1 ⟨rfl, s1⟩
      have hx1 := s1 _ _ hx
      have hy1 := s1 _ _ hy
      refine Evl.q_cut (M := fun σ' G => σ' = [some (.ref ba), some (.ref C), some (.ref p), some (.ref ax), some (.ref ay), some (.int (k : Nat)), none, none] ∧ H1 = G ∧ (k : Int) ∈ a ∧ -(k : Int) ∈ b) ?_ ?_
      · refine ⟨_, rfl, _, _, rfl, rfl, true, ?_, _, _, rfl, rfl, true, ?_, ?_⟩
        · show V.bl (decide ((1 : Int) ≤ (k : Int))) = _
          rw [decide_eq_true (by omega)]
        · show V.bl (decide ((k : Int) ≤ (8 : Int))) = _
          rw [decide_eq_true (by omega)]
        refine ⟨_, rfl, _, rfl, ax, _, rfl, .inr (.of hx1), rfl, ints_flat a, _, rfl, ite2 (fun e => ?_) (fun e => ?_)⟩
        · exact q2 (nope fun z => not_in.mp e z.1) H1 s1
        have ka := Classical.byContradiction fun z => e (not_in.mpr z)
        refine ⟨_, rfl, _, _, rfl, rfl, _, rfl, ay, _, rfl, .inr (.of hy1), rfl, ints_flat b, _, rfl, ite2 (fun e => ?_) (fun e => ⟨rfl, rfl, ka, ?_⟩)⟩
        · exact q2 (nope fun z => not_in.mp e (by rw [show (0 : Int) - (k : Int) = -(k : Int) by omega]; exact z.2.1)) H1 s1
        · have := Classical.byContradiction fun z => e (not_in.mpr z)
          rw [show (0 : Int) - (k : Int) = -(k : Int) by omega] at this
          exact this
      rintro σ' G ⟨rfl, rfl, ka, kb⟩
      have me : ∀ j, j ∈ restC (k : Int) a b ↔ BesC a b k j := fun j => mem_rest oa ob' ka kb (by omega)
      have rl := rest_len (k := (k : Int)) oa ob'
      have la := cl0_len oa
      have lb := cl0_len ob'
      -- what is left
      refine Evl.q_cut (M := fun σ' G => ∃ (R : Addr) (z7 : Option V), σ' = [some (.ref ba), some (.ref C), some (.ref p), some (.ref ax), some (.ref ay), some (.int (k : Nat)), some (.ref R), z7] ∧ Same H1 G ∧ G R = some (.lst ((restC (k : Int) a b).map V.int))) ?_ ?_
      · refine ⟨_, rfl, ax, rfl, ⟨_, .of hx1⟩, fun D nD => ?_⟩
        refine lc_tup (xs := a.map V.int) (Pv := fun i H' => Same H1 H' ∧ H' D = some (.lst (((a.take i).filter fun s => !decide (V.int s = V.int (k : Int))).map V.int))) ⟨same_new nD, upd_same⟩ (fun i H' _ z => .of (z.1 _ _ hx1)) ?_ ?_
        · rintro i x H2 hz ⟨s2, hD⟩
          obtain ⟨z, hw, rfl⟩ := at_int hz
          have ft := filt_take (f := fun s : Int => !decide (V.int s = V.int (k : Int))) hw
          refine ⟨rfl, _, rfl, _, rfl, rfl, _, rfl, ite2 (fun y1 => ?_) (fun y1 => ?_)⟩
          · refine ⟨_, rfl, _, hD, small1000 (by rw [List.length_map]; exact Nat.le_trans (List.length_filter_le _ _) (by rw [List.length_take]; omega)), same_wr s2 nD, ?_⟩
            rw [upd_same, ft, if_pos y1, List.map_append]
            rfl
          · refine ⟨s2, ?_⟩
            rw [ft, if_neg y1, List.append_nil]
            exact hD
        rintro H2 ⟨s2, hD⟩
        rw [List.length_map, List.take_length] at hD
        have hx2 := s2 _ _ hx1
        have hy2 := s2 _ _ hy1
        refine ⟨_, rfl, ay, rfl, ⟨_, .of hy2⟩, fun D2 nD2 => ?_⟩
        refine lc_tup (xs := b.map V.int) (Pv := fun i H' => Same H2 H' ∧ H' D2 = some (.lst (((b.take i).filter fun s => !decide (V.int s = V.int (0 - (k : Int))) && !inV (.int s) (a.map V.int)).map V.int))) ⟨same_new nD2, upd_same⟩ (fun i H' _ z => .of (z.1 _ _ hy2)) ?_ ?_
        · rintro i x H3 hz ⟨s3, hD2⟩
          obtain ⟨z, hw, rfl⟩ := at_int hz
          have ft := filt_take (f := fun s : Int => !decide (V.int s = V.int (0 - (k : Int))) && !inV (.int s) (a.map V.int)) hw
          have keep : (!decide (V.int z = V.int (0 - (k : Int))) && !inV (.int z) (a.map V.int)) = true → ∃ acc, H3 D2 = some (.lst acc) ∧ acc.length < sizeLine ∧ (Same H2 (upd H3 D2 (.lst (acc ++ [.int z]))) ∧ (upd H3 D2 (.lst (acc ++ [.int z]))) D2 = some (.lst (((b.take (i + 1)).filter fun s => !decide (V.int s = V.int (0 - (k : Int))) && !inV (.int s) (a.map V.int)).map V.int))) := fun y1 => by
            refine ⟨_, hD2, small1000 (by rw [List.length_map]; exact Nat.le_trans (List.length_filter_le _ _) (by rw [List.length_take]; omega)), same_wr s3 nD2, ?_⟩
            rw [upd_same, ft, if_pos y1, List.map_append]
            rfl
          have skip : ¬ (!decide (V.int z = V.int (0 - (k : Int))) && !inV (.int z) (a.map V.int)) = true → Same H2 H3 ∧ H3 D2 = some (.lst (((b.take (i + 1)).filter fun s => !decide (V.int s = V.int (0 - (k : Int))) && !inV (.int s) (a.map V.int)).map V.int)) := fun y1 => by
            refine ⟨s3, ?_⟩
            rw [ft, if_neg y1, List.append_nil]
            exact hD2
          refine ⟨rfl, _, rfl, _, rfl, _, _, rfl, rfl, rfl, _, rfl, ite2 (fun y1 => ?_) (fun y1 => ite2 (fun z => nomatch z) fun _ => skip fun z => y1 (Bool.and_eq_true_iff.mp z).1)⟩
          refine ⟨_, rfl, _, rfl, ax, _, rfl, .inr (.of (s3 _ _ hx2)), rfl, ints_flat a, _, rfl, ite2 (fun y2 => ?_) (fun y2 => skip fun z => y2 (Bool.and_eq_true_iff.mp z).2)⟩
          exact ⟨_, rfl, keep (Bool.and_eq_true_iff.mpr ⟨y1, y2⟩)⟩
        rintro H3 ⟨s3, hD2⟩
        rw [List.length_map, List.take_length] at hD2
        refine ⟨D, D2, _, _, rfl, rfl, s3 _ _ hD, hD2, Nat.le_trans (?_ : _ ≤ 1000) (by decide), fun R H4 nR s4 hR _ => ?_⟩
        · rw [List.length_map, List.length_map]
          have := rl
          unfold restC at this
          rw [List.length_append] at this
          omega
        · refine ⟨R, _, rfl, s2.trans (s3.trans s4), ?_⟩
          rw [hR, ← List.map_append]
          rfl
      rintro σ' H2 ⟨R, z7, rfl, s2, hR⟩
      have nr := nodup_rest (k := (k : Int)) oa ob'
      generalize restC (k : Int) a b = rs at hR me rl nr
      -- no two of opposite
      refine Evl.q_cut (M := fun σ' G => ∃ z7 : Option V, σ' = [some (.ref ba), some (.ref C), some (.ref p), some (.ref ax), some (.ref ay), some (.int (k : Nat)), some (.ref R), z7] ∧ Same H2 G ∧ ∀ j, BesC a b k j → ¬ BesC a b k (-j)) ?_ ?_
      · refine ⟨_, rfl, R, rfl, ⟨_, .of hR⟩, fun D nD => ?_⟩
        refine lc_list (xs := rs.map V.int) (Pv := fun i H' => Same H2 H' ∧ H' D = some (.lst (((rs.take i).map fun s => inV (.int (0 - s)) (rs.map V.int)).map V.bl))) ⟨same_new nD, upd_same⟩ (fun i H' _ z => .of (z.1 _ _ hR)) ?_ ?_
        · rintro i x H3 hz ⟨s3, hD⟩
          obtain ⟨z, hw, rfl⟩ := at_int hz
          refine ⟨rfl, _, rfl, _, _, rfl, rfl, _, rfl, R, _, rfl, .inl (.of (s3 _ _ hR)), rfl, ints_flat rs, ?_⟩
          refine ⟨_, hD, small1000 (by rw [List.length_map, List.length_map, List.length_take]; omega), same_wr s3 nD, ?_⟩
          rw [upd_same, List.take_add_one, hw, List.map_append, List.map_append]
          rfl
        rintro H3 ⟨s3, hD⟩
        rw [List.length_map, List.take_length] at hD
        refine ⟨D, _, rfl, .of hD, _, rfl, ite2 (fun e => ?_) (fun e => ?_)⟩
        · obtain ⟨t, ht, e⟩ := List.any_eq_true.mp e
          obtain ⟨j, hj, rfl⟩ := List.mem_map.mp ht
          have e : inV (.int (0 - j)) (rs.map V.int) = true := e
          rw [in_ints, show 0 - j = -j by omega] at e
          exact q2 (nope fun z => z.2.2 j ((me j).mp hj) ((me (-j)).mp e)) H3 (s1.trans (s2.trans s3))
        · refine ⟨_, rfl, s3, fun j hj hn => e (List.any_eq_true.mpr ⟨true, List.mem_map.mpr ⟨j, (me j).mpr hj, ?_⟩, rfl⟩)⟩
          show inV (.int (0 - j)) (rs.map V.int) = true
          rw [in_ints, show 0 - j = -j by omega]
          exact (me (-j)).mpr hn
      rintro σ' H3 ⟨z7', rfl, s3, no⟩
      refine ⟨_, rfl, R, rs, rfl, .of (s3 _ _ hR), fun ns pm so S H4 nS s4 hS _ => ⟨S, _, rfl, .of hS, fun t H5 nt s5 ht _ => ?_⟩⟩
      have up := lt_of_le so (pm.nodup_iff.mpr nr)
      have mc : ∀ j, j ∈ ns ↔ BesC a b k j := fun j => (pm.mem_iff).trans (me j)
      exact q1 ns (.ref t) H5 (s1.trans (s2.trans (s3.trans (s4.trans s5)))) ⟨a, b, ha, hb, ka, kb, no, up, mc⟩ (bes_cl oa ob' no up mc) ⟨t, rfl, ht⟩
end
end Tc
namespace Tc
open PySem PySem.Spec PyProof.Rows L2 GxR Nw Dr Kp Ev1 Rk Tw Od Kc
/-! ### rows as data (k80) -/
def rdat : Rw → PyData
  | .book n => .tuple [.str "book", .int (n : Nat)]
  | .cut i j k => .tuple [.str "cut", .int (i : Nat), .int (j : Nat), .int (k : Nat)]
theorem dp_r {K : PySem.W.Frag} {H : Hp} {v : V} {r : Rw} (h : RowAt H v r) : Dp K H v (rdat r) := by
  obtain ⟨a, rfl, h⟩ := h
  cases r with
  | book n => exact .tup (.of h) (.cons (.str _) (.cons (.int _) .nil))
  | cut i j k => exact .tup (.of h) (.cons (.str _) (.cons (.int _) (.cons (.int _) (.cons (.int _) .nil))))
theorem dp_rs {K : PySem.W.Frag} {H : Hp} : ∀ {vs : List V} {rows : List Rw}, All2 (RowAt H) vs rows → DpAll K H vs (rows.map rdat)
  | [], [], _ => .nil
  | [], r :: t, h => by cases h.1
  | v :: t, [], h => by cases h.1
  | v :: t, r :: u, h => .cons (dp_r (h.2 0 v r rfl rfl)) (dp_rs ⟨by have := h.1; simp only [List.length_cons] at this; omega, fun i x y h1 h2 => h.2 (i + 1) x y h1 h2⟩)
theorem lay_rs : ∀ rows : List Rw, PyData.canLayAll0 (rows.map rdat) = true ∧ PyData.depthAll (rows.map rdat) ≤ 3
  | [] => ⟨rfl, by decide⟩
  | r :: t => by
    obtain ⟨h1, h2⟩ := lay_rs t
    have b1 : PyData.strOk "book" = true := by decide +kernel
    have b2 : PyData.strOk "cut" = true := by decide +kernel
    refine ⟨?_, Nat.max_le.mpr ⟨?_, h2⟩⟩
    · show (PyData.canLay0 (rdat r) && PyData.canLayAll0 (t.map rdat)) = true
      rw [h1]
      cases r <;> simp [rdat, PyData.canLay0, PyData.canLayAll0, b1, b2]
    · cases r <;> simp [rdat, PyData.depth, PyData.depthAll]
theorem shaped_rs (rows : List Rw) : SeqAt.shaped (.list (rows.map rdat)) = true := by
  obtain ⟨h1, h2⟩ := lay_rs rows
  show (PyData.canLayAll0 (rows.map rdat) && decide (PyData.depthAll (rows.map rdat) + 1 ≤ 64)) = true
  rw [h1, decide_eq_true (by omega)]
  rfl
theorem ne_nil_rs (rows : List Rw) : PyData.eqv (.list (rows.map rdat)) (.list []) = decide (rows.length = 0) := by cases rows <;> rfl
end Tc
namespace Tc
open PySem PySem.Spec PyProof.Rows L2 GxR Nw Dr Kp Ev1 Rk Tw Od Kc
/-! ### a ladder drawn, each row done by the law's own look -/
structure Lw (css : List (List Int)) (rows : List Rw) (cls : List (List Int)) : Prop where
  len : rows.length = cls.length
  ok : ∀ (i : Nat) (r : Rw) (c : List Int), rows[i]? = some r → cls[i]? = some c → RowIs css (cls.take i) r c ∧ RowG css.length i r
  cl : ∀ c ∈ cls, Cl0 c
theorem Lw.nil {css : List (List Int)} : Lw css [] [] := ⟨rfl, (fun i r c h => by cases h), (fun c h => nomatch h)⟩
theorem Lw.snoc {css cls : List (List Int)} {rows : List Rw} {r : Rw} {c : List Int} (h : Lw css rows cls) (g : RowIs css cls r c) (rg : RowG css.length rows.length r) (hc : Cl0 c) : Lw css (rows ++ [r]) (cls ++ [c]) := by
  have hl := h.len
  refine ⟨by rw [List.length_append, List.length_append, hl]; rfl, fun i r' c' h1 h2 => ?_, fun x hx => ?_⟩
  · by_cases l : i < rows.length
    · rw [List.getElem?_append_left l] at h1
      rw [List.getElem?_append_left (by omega)] at h2
      rw [List.take_append_of_le_length (by omega)]
      exact h.ok i r' c' h1 h2
    · have e : i = rows.length := by
        have := (List.getElem?_eq_some_iff.mp h1).1
        rw [List.length_append, List.length_singleton] at this
        omega
      subst e
      rw [List.getElem?_append_right (Nat.le_refl _), Nat.sub_self] at h1
      rw [List.getElem?_append_right (by omega), show rows.length - cls.length = 0 by omega] at h2
      cases h1
      cases h2
      rw [List.take_append_of_le_length (by omega), List.take_of_length_le (by omega)]
      exact ⟨g, rg⟩
  · rcases List.mem_append.mp hx with z | z
    · exact h.cl x z
    · rw [List.mem_singleton.mp z]
      exact hc
theorem Lw.rv {css cls : List (List Int)} {rows : List Rw} (h : Lw css rows cls) (l : css.length ≤ 16) : RVs rows := fun i r hr => by
  have li := (List.getElem?_eq_some_iff.mp hr).1
  have hl := h.len
  have hc := List.getElem?_eq_getElem (show i < cls.length by omega)
  have g := (h.ok i r _ hr hc).2
  cases r with
  | book n =>
    have g : n < css.length := g
    show n ≤ 15
    omega
  | cut a b k => exact g
theorem rows_ke {F : Addr → Prop} {H H' : Hp} {R : Addr} {rows : List Rw} (h : RowsL H R rows) (k : Ke F H H') (n : ¬ F R) : RowsL H' R rows := by
  obtain ⟨vs, h, a⟩ := h
  exact ⟨vs, k.lst h n, a.imp fun _ _ r => r.ke k⟩
theorem ClsL.ke' {F : Addr → Prop} {H H' : Hp} {R : Addr} {rows : List (List Int)} (h : ClsL H R rows) (k : Ke F H H') (n : ¬ F R) : ClsL H' R rows := by
  obtain ⟨vs, h, a⟩ := h
  exact ⟨vs, k.lst h n, a.imp fun _ _ r => r.ke k⟩
theorem rows_wr {H : Hp} {R D : Addr} {rows : List Rw} {o : HO} {ys : List V} (h : RowsL H R rows) (hD : H D = some (.lst ys)) (n : R ≠ D) : RowsL (upd H D o) R rows := by
  obtain ⟨vs, h, a⟩ := h
  exact ⟨vs, by rw [upd_ne n]; exact h, a.imp fun _ _ r => r.wr hD⟩
theorem ClsL.wr {H : Hp} {R D : Addr} {rows : List (List Int)} {o : HO} {ys : List V} (h : ClsL H R rows) (hD : H D = some (.lst ys)) (n : R ≠ D) : ClsL (upd H D o) R rows := by
  obtain ⟨vs, h, a⟩ := h
  exact ⟨vs, by rw [upd_ne n]; exact h, a.imp fun _ _ r => tupI_wr r hD⟩
theorem bk_wr {H : Hp} {D : Addr} {v : V} {css : List (List Int)} {o : HO} {ys : List V} (h : Bk H v css) (hD : H D = some (.lst ys)) : Bk (upd H D o) v css := by
  obtain ⟨a, vs, e, h, l, t⟩ := h
  exact ⟨a, vs, e, by rw [upd_ne (fun z => by rw [z, hD] at h; cases h)]; exact h, l, fun i x cs h1 h2 => tupI_wr (t i x cs h1 h2) hD⟩
/-- what the two lists hold -/
structure Two (H0 : Hp) (f c : Addr) (b : V) (css : List (List Int)) (R C : Addr) (B : Nat) (rows : List Rw) (cls : List (List Int)) (H : Hp) : Prop where
  F : Feed H f c B
  k : Ke (· = f) H0 H
  b : Bk H b css
  r : RowsL H R rows
  c : ClsL H C cls
structure Apt (H0 : Hp) (f c R C : Addr) : Prop where
  Rf : R ≠ f
  Rc : R ≠ c
  Cf : C ≠ f
  Cc : C ≠ c
  RC : R ≠ C
  fR : Frs H0 R
  fC : Frs H0 C
section
variable {H0 H H' : Hp} {f c R C : Addr} {b : V} {css cls : List (List Int)} {B B' : Nat} {rows : List Rw}
theorem Two.ke (h : Two H0 f c b css R C B rows cls H) (A : Apt H0 f c R C) (k : Ke (· = f) H H') (F : Feed H' f c B') : Two H0 f c b css R C B' rows cls H' := ⟨F, h.k.trans k, h.b.ke k, rows_ke h.r k A.Rf, h.c.ke' k A.Cf⟩
theorem Two.same (h : Two H0 f c b css R C B rows cls H) (A : Apt H0 f c R C) (s : Same H H') : Two H0 f c b css R C B rows cls H' := h.ke A (.same s) (h.F.same s)
theorem Two.mono (h : Two H0 f c b css R C B rows cls H) (l : B ≤ B') : Two H0 f c b css R C B' rows cls H := ⟨h.F.mono l, h.k, h.b, h.r, h.c⟩
theorem Two.row {vs : List V} {v : V} {r : Rw} (h : Two H0 f c b css R C B rows cls H) (A : Apt H0 f c R C) (hR : H R = some (.lst vs)) (aR : All2 (RowAt H) vs rows) (hr : RowAt H v r) : Two H0 f c b css R C B (rows ++ [r]) cls (upd H R (.lst (vs ++ [v]))) :=
  ⟨h.F.upd A.Rf A.Rc, h.k.write A.fR hR, bk_wr h.b hR, ⟨_, upd_same, All2.snoc (aR.imp fun _ _ r => r.wr hR) (hr.wr hR)⟩, h.c.wr hR (Ne.symm A.RC)⟩
theorem Two.cla {vs : List V} {v : V} {r : List Int} (h : Two H0 f c b css R C B rows cls H) (A : Apt H0 f c R C) (hC : H C = some (.lst vs)) (aC : All2 (TupI H) vs cls) (hr : TupI H v r) : Two H0 f c b css R C B rows (cls ++ [r]) (upd H C (.lst (vs ++ [v]))) :=
  ⟨h.F.upd A.Cf A.Cc, h.k.write A.fC hC, bk_wr h.b hC, rows_wr h.r hC A.RC, ⟨_, upd_same, All2.snoc (aC.imp fun _ _ r => tupI_wr r hC) (tupI_wr hr hC)⟩⟩
end
/-- rows that may be put behind these -/
def May (css cls : List (List Int)) (n : Nat) (r : Rw) : Prop := RowG css.length n r ∧ ∃ c, RowIs css cls r c
structure Zm (mg : Str → Option Value) : Prop where
  z_len : mg "len" = none
  z_range : mg "range" = none
  z_abs : mg "abs" = none
section
variable {P : Program} {w : World} {K : PySem.W.Frag} {mg : Str → Option Value} {base : Heap}
abbrev sErw : Stmt := topS 43
abbrev nErw : List Str := ["pen", "book", "rows", "claims", "turn", "number", "here", "some", "there", "say", "one", "two", "row"]
theorem scErw : FnScope nErw ["pen", "book"] (defScope sErw) := ⟨rfl, rfl, rfl, by decide +kernel, rfl, by decide +kernel, by decide +kernel⟩
def spErw : Sp := fun vs H Q _ => ∃ (f c : Addr) (b : V) (css : List (List Int)) (B : Nat), vs = [.ref f, b] ∧ Feed H f c B ∧ B ≤ 2 ^ 26 ∧ Bk H b css ∧ (∀ x ∈ css, Cl0 x) ∧ 1 ≤ css.length ∧ css.length ≤ 16 ∧
  ∀ (t R C : Addr) (rows : List Rw) (cls : List (List Int)) H', Feed H' f c (B + 200) → Ke (· = f) H H' → R ≠ f → C ≠ f → Frs H R → Frs H C → RowsL H' R rows → ClsL H' C cls → Lw css rows cls → 1 ≤ rows.length → rows.length ≤ 30 → H' t = some (.tup [.ref R, .ref C]) → Q (.ref t) H'
theorem ok_erw {f fD fC : Addr} {fd fdD fdC : FuncData} {k : Nat} (F : Fun K "_law_e_rows" "_law_e_rows" sErw f fd) (T : Zm mg)
    (FD : Fun K "_law_e_take" "_law_e_take" sDrw fD fdD) (bD : Binds K fdD ["pen", "many"] []) (gD : mg "_law_e_take" = some (.ref fD)) (GD : FnOk P w K mg base CX0 2 fD fdD ["pen", "many"] spDrw)
    (FC : Fun K "_law_e_row_claim" "_law_e_row_claim" sRcl fC fdC) (bC : Binds K fdC ["book", "claims", "row"] []) (gC : mg "_law_e_row_claim" = some (.ref fC)) (GC : FnOk P w K mg base CX0 3 fC fdC ["book", "claims", "row"] spRcl) :
    FnOk P w K mg base CX0 (k + 4) f fd ["pen", "book"] spErw := by
  refine F.ok scErw (fun vs H Q E h => ?_) (fun cdv A outer s H vs Q E hr h => ?_)
  · obtain ⟨f, c, b, css, B, rfl, _⟩ := h
    rfl
  · obtain ⟨f, c, b, css, B, rfl, hF, hB, hb, oc, l1, l16, q⟩ := h
    have hr2 : Room 2 _ := hr.mono (by omega)
    have hr3 : Room 3 _ := hr.mono (by omega)
    refine ⟨_, (Evl.pss_cut (ps_set (i := 2) scErw.nd rfl (.inl rfl) (pe_lstN pa_nil))
      (Evl.pss_cut (ps_set (i := 3) scErw.nd rfl (.inl rfl) (pe_lstN pa_nil))
      (Evl.pss_cut (ps_for PassesOwn.never rfl (pi_range1 (by rfl) T.z_range (pa_cons (pe_op op_add pe_int (pe_call GD hr2 (by rfl) gD FD.kp bD .nil pass0 (pa_cons (pv 0) (pa_cons pe_int pa_nil)))) pa_nil)) (pg_name (i := 4) scErw.nd rfl (.inl rfl)) (Evl.pss_cut (ps_set (i := 5) scErw.nd rfl (.inl rfl) (pe_call GD hr2 (by rfl) gD FD.kp bD .nil pass0 (pa_cons (pv 0) (pa_cons (pe_callB call_len_seq (by rfl) T.z_len (by decide +kernel) (pa_cons (pv 1) pa_nil)) pa_nil))))
      (Evl.pss_cut (ps_expr (pe_bm PySem.F.plainAttrs_list PySem.F.slot_list_append PySem.F.type_list_append mt_append (pv 2) (pa_cons (pe_tupN (pa_cons pe_str (pa_cons (pv 5) pa_nil))) pa_nil)))
      (pss_one (ps_expr (pe_bm PySem.F.plainAttrs_list PySem.F.slot_list_append PySem.F.type_list_append mt_append (pv 3) (pa_cons (pe_ix ix_tup (pv 1) (pv 5) (fun _ _ => rfl)) pa_nil)))))))
      (Evl.pss_cut (ps_for PassesOwn.never rfl (pi_range1 (by rfl) T.z_range (pa_cons (pe_call GD hr2 (by rfl) gD FD.kp bD .nil pass0 (pa_cons (pv 0) (pa_cons pe_int pa_nil))) pa_nil)) (pg_name (i := 4) scErw.nd rfl (.inl rfl)) (Evl.pss_cut (ps_set (i := 6) scErw.nd rfl (.inl rfl) (pe_ix ix_list (pe_lstN (pa_cons (pe_op op_sub (pe_callB call_len_seq (by rfl) T.z_len (by decide +kernel) (pa_cons (pv 2) pa_nil)) pe_int) (pa_cons (pe_call GD hr2 (by rfl) gD FD.kp bD .nil pass0 (pa_cons (pv 0) (pa_cons (pe_callB call_len_seq (by rfl) T.z_len (by decide +kernel) (pa_cons (pv 2) pa_nil)) pa_nil))) pa_nil))) (pe_call GD hr2 (by rfl) gD FD.kp bD .nil pass0 (pa_cons (pv 0) (pa_cons pe_int pa_nil))) (fun _ _ => rfl)))
      (Evl.pss_cut (ps_set (i := 7) scErw.nd rfl (.inl rfl) (pe_lstN pa_nil))
      (Evl.pss_cut (ps_for PassesOwn.never rfl (pi_range1 (by rfl) T.z_range (pa_cons (pe_callB call_len_seq (by rfl) T.z_len (by decide +kernel) (pa_cons (pv 2) pa_nil)) pa_nil)) (pg_name (i := 8) scErw.nd rfl (.inl rfl)) (pss_one (ps_for PassesOwn.never rfl (pi_tup (pe_ix ix_list (pv 3) (pv 6) (fun _ _ => rfl))) (pg_name (i := 9) scErw.nd rfl (.inl rfl)) (Evl.pss_cut (ps_asg (pe_ifExp (pt_cmpR op_gt (pv 9) pe_int (nomark _)) (pe_tupN (pa_cons (pv 6) (pa_cons (pv 8) pa_nil))) (pe_tupN (pa_cons (pv 8) (pa_cons (pv 6) pa_nil)))) (pg_tup rfl (pgs_cons (pg_name (i := 10) scErw.nd rfl (.inl rfl)) (pgs_cons (pg_name (i := 11) scErw.nd rfl (.inl rfl)) pgs_nil))))
      (Evl.pss_cut (ps_set (i := 12) scErw.nd rfl (.inl rfl) (pe_tupN (pa_cons pe_str (pa_cons (pv 10) (pa_cons (pv 11) (pa_cons (pe_callB call_abs (by rfl) T.z_abs (by decide +kernel) (pa_cons (pv 9) pa_nil)) pa_nil))))))
      (pss_one (ps_if (pt_cmpR op_notN (pe_call GC hr3 (by rfl) gC FC.kp bC .nil pass0 (pa_cons (pv 1) (pa_cons (pv 3) (pa_cons (pv 12) pa_nil)))) pe_non (nomark _)) (pss_one (ps_expr (pe_bm PySem.F.plainAttrs_list PySem.F.slot_list_append PySem.F.type_list_append mt_append (pv 7) (pa_cons (pv 12) pa_nil)))) pss_nil)))))))
      (Evl.pss_cut (ps_set (i := 12) scErw.nd rfl (.inl rfl) (pe_tupN (pa_cons pe_str (pa_cons (pe_call GD hr2 (by rfl) gD FD.kp bD .nil pass0 (pa_cons (pv 0) (pa_cons (pe_callB call_len_seq (by rfl) T.z_len (by decide +kernel) (pa_cons (pv 1) pa_nil)) pa_nil))) pa_nil))))
      (Evl.pss_cut (ps_if (pt_cmpR (op_neD hr.units) (pv 7) (pe_lstN pa_nil) (nomark _)) (pss_one (ps_set (i := 12) scErw.nd rfl (.inl rfl) (pe_ix ix_list (pv 7) (pe_call GD hr2 (by rfl) gD FD.kp bD .nil pass0 (pa_cons (pv 0) (pa_cons (pe_callB call_len_seq (by rfl) T.z_len (by decide +kernel) (pa_cons (pv 7) pa_nil)) pa_nil))) (fun _ _ => rfl)))) pss_nil)
      (Evl.pss_cut (ps_expr (pe_bm PySem.F.plainAttrs_list PySem.F.slot_list_append PySem.F.type_list_append mt_append (pv 3) (pa_cons (pe_call GC hr3 (by rfl) gC FC.kp bC .nil pass0 (pa_cons (pv 1) (pa_cons (pv 3) (pa_cons (pv 12) pa_nil)))) pa_nil)))
      (pss_one (ps_expr (pe_bm PySem.F.plainAttrs_list PySem.F.slot_list_append PySem.F.type_list_append mt_append (pv 2) (pa_cons (pv 12) pa_nil)))))))))))
      (pss_one (ps_ret (pe_tupN (pa_cons (pv 2) (pa_cons (pv 3) pa_nil))))))))), ?_⟩
    refine Evl.q_cut (M := fun σ' G => ∃ R : Addr, σ' = some (.ref f) :: some b :: some (.ref R) :: List.replicate 10 none ∧ H R = none ∧ Same H G ∧ G R = some (.lst [])) ?_ ?_
    · exact ⟨Nat.zero_le _, fun R G nR s1 hR _ => ⟨R, rfl, nR, s1, hR⟩⟩
    rintro σ' H1 ⟨R, rfl, nR, s1, hR⟩
    refine Evl.q_cut (M := fun σ' G => ∃ C : Addr, σ' = some (.ref f) :: some b :: some (.ref R) :: some (.ref C) :: List.replicate 9 none ∧ Apt H f c R C ∧ Two H f c b css R C B [] [] G) ?_ ?_
    · refine ⟨Nat.zero_le _, fun C G nC s2 hC _ => ⟨C, rfl, ⟨hF.nf nR, hF.nc nR, (hF.same s1).nf nC, (hF.same s1).nc nC, ne_of_none hR nC, .of nR, .of (s1.free nC)⟩, ?_⟩⟩
      have s12 := s1.trans s2
      exact ⟨hF.same s12, .same s12, hb.ke (.same s12) (F := Nof), ⟨[], s2 _ _ hR, .nil⟩, ⟨[], hC, .nil⟩⟩
    clear hR s1 nR H1 hF hb
    rintro σ' H1 ⟨C, rfl, A, W⟩
    -- rows of the book
    refine Evl.q_cut (M := fun σ' G => ∃ (y4 y5 : Option V) (rows : List Rw) (cls : List (List Int)), σ' = some (.ref f) :: some b :: some (.ref R) :: some (.ref C) :: y4 :: y5 :: List.replicate 7 none ∧ Two H f c b css R C (B + 10) rows cls G ∧ Lw css rows cls ∧ 1 ≤ rows.length ∧ rows.length ≤ 10) ?_ ?_
    · refine ⟨_, rfl, f, c, 6, B, rfl, by decide, by decide, W.F, by omega, fun d H2 d0 d1 F2 k2 => ?_⟩
      obtain ⟨n, rfl⟩ : ∃ n : Nat, d = (n : Int) := ⟨d.toNat, by omega⟩
      have W2 := W.ke A k2 F2
      refine ⟨_, _, rfl, rfl, 2 + (n : Int), rfl, by omega, by omega, for_range (n := (2 + (n : Int)).toNat) (Pv := fun i σ G => ∃ (y4 y5 : Option V) (rows : List Rw) (cls : List (List Int)), σ = some (.ref f) :: some b :: some (.ref R) :: some (.ref C) :: y4 :: y5 :: List.replicate 7 none ∧ Two H f c b css R C (B + 1 + i) rows cls G ∧ Lw css rows cls ∧ rows.length = i) ?_ ?_ ?_⟩
      · exact ⟨none, none, [], [], rfl, W2, .nil, rfl⟩
      · clear W2 F2 k2 H2 W H1
        rintro i σ H1 hi ⟨y4, y5, rows, cls, rfl, W, L, li⟩
        have hi : i < (2 + (n : Int)).toNat := hi
        -- the number
        refine Evl.q_cut (M := fun σ' G => ∃ (m : Nat), σ' = some (.ref f) :: some b :: some (.ref R) :: some (.ref C) :: some (.int (0 + (i : Int))) :: some (.int (m : Nat)) :: List.replicate 7 none ∧ Two H f c b css R C (B + 1 + (i + 1)) rows cls G ∧ m < css.length) ?_ ?_
        · obtain ⟨ba, bvs, rfl, hB2, lB, aB⟩ := W.b
          refine ⟨_, rfl, _, rfl, ba, _, rfl, .inr (.of hB2), f, c, _, _, rfl, by omega, by omega, W.F, by omega, fun d H2 d0 d1 F2 k2 => ?_⟩
          obtain ⟨m, rfl⟩ : ∃ m : Nat, d = (m : Int) := ⟨d.toNat, by omega⟩
          exact ⟨m, rfl, W.ke A k2 F2, by omega⟩
        clear W H1
        rintro σ' H1 ⟨m, rfl, W, lm⟩
        -- the row
        refine Evl.q_cut (M := fun σ' G => σ' = some (.ref f) :: some b :: some (.ref R) :: some (.ref C) :: some (.int (0 + (i : Int))) :: some (.int (m : Nat)) :: List.replicate 7 none ∧ Two H f c b css R C (B + 1 + (i + 1)) (rows ++ [.book m]) cls G) ?_ ?_
        · obtain ⟨vs, hR, aR⟩ := W.r
          refine ⟨_, rfl, .inl ⟨rfl, _, .of hR⟩, _, rfl, by show 2 ≤ sizeLine; decide, fun p H2 np s2 hp _ => ?_⟩
          have W2 := W.same A s2
          have hR2 := s2 _ _ hR
          refine ⟨R, _, _, rfl, rfl, hR2, small1000 (by rw [aR.1]; omega), rfl, ?_⟩
          exact W2.row A hR2 (aR.imp fun _ _ r => r.same s2) ⟨p, rfl, hp⟩
        clear W H1
        rintro σ' H1 ⟨rfl, W⟩
        obtain ⟨ba, bvs, eb, hB2, lB, aB⟩ := W.b
        obtain ⟨vs, hC, aC⟩ := W.c
        have hv := List.getElem?_eq_getElem (show m < bvs.length by omega)
        generalize bvs[m]'(by omega) = u at hv
        have hc := List.getElem?_eq_getElem lm
        generalize css[m] = x at hc
        have ti := aB m u x hv hc
        refine ⟨_, rfl, .inl ⟨rfl, _, .of hC⟩, _, rfl, _, rfl, ba, _, _, u, eb, rfl, .of hB2, at_of (j := m) rfl hv, ?_⟩
        refine ⟨C, _, _, rfl, rfl, hC, small1000 (by rw [aC.1, ← L.len]; omega), _, _, rows ++ [.book m], cls ++ [x], rfl, (W.cla A hC aC ti), L.snoc (r := .book m) hc lm (oc x (List.mem_of_getElem? hc)), ?_⟩
        rw [List.length_append, List.length_singleton, li]
      · rintro σ G ⟨y4, y5, rows, cls, rfl, W, L, li⟩
        exact ⟨y4, y5, rows, cls, rfl, W.mono (by omega), L, by omega, by omega⟩
    clear W H1
    rintro σ' H1 ⟨y4, y5, rows, cls, rfl, W, L, r1, r10⟩
    -- cuts
    refine Evl.q_cut (M := fun σ' G => ∃ (y4 y6 y7 y8 y9 y10 y11 y12 : Option V) (rows : List Rw) (cls : List (List Int)), σ' = [some (.ref f), some b, some (.ref R), some (.ref C), y4, y5, y6, y7, y8, y9, y10, y11, y12] ∧ Two H f c b css R C (B + 150) rows cls G ∧ Lw css rows cls ∧ 1 ≤ rows.length ∧ rows.length ≤ 30) ?_ ?_
    · refine ⟨_, rfl, f, c, 16, _, rfl, by decide, by decide, W.F, by omega, fun d H2 d0 d1 F2 k2 => ?_⟩
      obtain ⟨n, rfl⟩ : ∃ n : Nat, d = (n : Int) := ⟨d.toNat, by omega⟩
      have W2 := W.ke A k2 F2
      refine ⟨(n : Int), rfl, by omega, by omega, for_range (n := (n : Int).toNat) (Pv := fun i σ G => ∃ (y4 y6 y7 y8 y9 y10 y11 y12 : Option V) (rows : List Rw) (cls : List (List Int)), σ = [some (.ref f), some b, some (.ref R), some (.ref C), y4, y5, y6, y7, y8, y9, y10, y11, y12] ∧ Two H f c b css R C (B + 11 + 6 * i) rows cls G ∧ Lw css rows cls ∧ 1 ≤ rows.length ∧ rows.length ≤ 10 + i) ?_ ?_ ?_⟩
      · exact ⟨y4, none, none, none, none, none, none, none, rows, cls, rfl, W2, L, r1, r10⟩
      · clear W2 F2 k2 H2 W r1 r10 L rows cls y4 H1
        rintro i σ H1 hi ⟨y4, y6, y7, y8, y9, y10, y11, y12, rows, cls, rfl, W, L, r1, r10⟩
        have hi : i < (n : Int).toNat := hi
        have lcl := L.len
        -- here
        refine Evl.q_cut (M := fun σ' G => ∃ (h : Nat), σ' = [some (.ref f), some b, some (.ref R), some (.ref C), some (.int (0 + (i : Int))), y5, some (.int (h : Nat)), y7, y8, y9, y10, y11, y12] ∧ Two H f c b css R C (B + 11 + 6 * i + 2) rows cls G ∧ h < rows.length) ?_ ?_
        · obtain ⟨vs, hR, aR⟩ := W.r
          have lr := aR.1
          refine ⟨_, rfl, R, _, rfl, .inl (.of hR), _, _, rfl, rfl, _, rfl, _, rfl, R, _, rfl, .inl (.of hR), f, c, _, _, rfl, by omega, by omega, W.F, by omega, fun d' H4 d0' d1' F4 k4 => ?_⟩
          refine ⟨by show 2 ≤ sizeLine; decide, fun Lk H5 nL s5 hL _ => ⟨_, rfl, f, c, 2, _, rfl, by decide, by decide, F4.same s5, by omega, fun d2 H6 d20 d21 F6 k6 => ?_⟩⟩
          have hL6 := k6.lst hL (F4.nf nL)
          obtain ⟨n, rfl⟩ : ∃ n : Nat, d' = (n : Int) := ⟨d'.toNat, by omega⟩
          have key : ∃ (j : Nat) (a : Nat), d2 = (j : Int) ∧ [V.int (((vs.length : Nat) : Int) - 1), V.int n][j]? = some (.int (a : Nat)) ∧ a < rows.length := by
            rcases (by omega : d2 = 0 ∨ d2 = 1) with rfl | rfl
            · exact ⟨0, vs.length - 1, rfl, by show some (V.int _) = _; rw [show ((vs.length : Nat) : Int) - 1 = ((vs.length - 1 : Nat) : Int) by omega], by omega⟩
            · exact ⟨1, n, rfl, rfl, by omega⟩
          obtain ⟨j, a, rfl, ea, la⟩ := key
          exact ⟨Lk, _, _, _, rfl, rfl, .of hL6, at_of (j := j) rfl ea, a, rfl, ((W.ke A k4 F4).same A s5).ke A k6 F6, la⟩
        clear W H1
        rintro σ' H1 ⟨h, rfl, W, lh⟩
        -- some
        refine Evl.q_cut (M := fun σ' G => ∃ (S : Addr), σ' = [some (.ref f), some b, some (.ref R), some (.ref C), some (.int (0 + (i : Int))), y5, some (.int (h : Nat)), some (.ref S), y8, y9, y10, y11, y12] ∧ H1 S = none ∧ Same H1 G ∧ G S = some (.lst [])) ?_ ?_
        · exact ⟨Nat.zero_le _, fun S G nS s2 hS _ => ⟨S, rfl, nS, s2, hS⟩⟩
        rintro σ' H2 ⟨S, rfl, nS, s2, hS2⟩
        obtain ⟨rvs, hR, aR⟩ := W.r
        obtain ⟨cvs, hC, aC⟩ := W.c
        have lrv := aR.1
        have lcv := aC.1
        have hcl := List.getElem?_eq_getElem (show h < cls.length by omega)
        generalize cls[h]'(by omega) = ch at hcl
        have hcv := List.getElem?_eq_getElem (show h < cvs.length by omega)
        generalize cvs[h]'(by omega) = chv at hcv
        obtain ⟨ca, rfl, hca⟩ := aC.2 h chv ch hcv hcl
        have och := L.cl ch (List.mem_of_getElem? hcl)
        have lch := cl0_len och
        have nSC : C ≠ S := ne_of_none hC nS
        have nSR : R ≠ S := ne_of_none hR nS
        refine Evl.q_cut (M := fun σ' G => ∃ (y8 y9 y10 y11 y12 : Option V) (ms : List Rw), σ' = [some (.ref f), some b, some (.ref R), some (.ref C), some (.int (0 + (i : Int))), y5, some (.int (h : Nat)), some (.ref S), y8, y9, y10, y11, y12] ∧ Same H1 G ∧ RowsL G S ms ∧ (∀ r ∈ ms, May css cls rows.length r) ∧ ms.length ≤ 900) ?_ ?_
        · refine ⟨_, rfl, R, _, rfl, .inl (.of (s2 _ _ hR)), ((rvs.length : Nat) : Int), rfl, by omega, by omega, for_range (n := ((rvs.length : Nat) : Int).toNat) (Pv := fun j σ G => ∃ (y8 y9 y10 y11 y12 : Option V) (ms : List Rw), σ = [some (.ref f), some b, some (.ref R), some (.ref C), some (.int (0 + (i : Int))), y5, some (.int (h : Nat)), some (.ref S), y8, y9, y10, y11, y12] ∧ Same H1 G ∧ RowsL G S ms ∧ (∀ r ∈ ms, May css cls rows.length r) ∧ ms.length ≤ 20 * j) ?_ ?_ ?_⟩
          · exact ⟨y8, y9, y10, y11, y12, [], rfl, s2, ⟨[], hS2, .nil⟩, (fun r hr => nomatch hr), Nat.zero_le _⟩
          · clear hS2 s2 H2 y8 y9 y10 y11 y12
            rintro j σ H2 hj ⟨y8, y9, y10, y11, y12, ms, rfl, s2, hS, om, lm⟩
            have hj : j < ((rvs.length : Nat) : Int).toNat := hj
            rw [show (0 : Int) + (j : Int) = (j : Int) from Int.zero_add _]
            refine ⟨_, rfl, _, rfl, C, _, _, .ref ca, rfl, rfl, .of (s2 _ _ hC), at_of (j := h) rfl hcv, ca, rfl, ⟨_, .of (s2 _ _ hca)⟩, ?_⟩
            refine for_tup (xs := ch.map V.int) (Pv := fun u σ G => ∃ (y9 y10 y11 y12 : Option V) (ms : List Rw), σ = [some (.ref f), some b, some (.ref R), some (.ref C), some (.int (0 + (i : Int))), y5, some (.int (h : Nat)), some (.ref S), some (.int (j : Nat)), y9, y10, y11, y12] ∧ Same H1 G ∧ RowsL G S ms ∧ (∀ r ∈ ms, May css cls rows.length r) ∧ ms.length ≤ 20 * j + u) ?_ (fun u σ G _ z => ?_) ?_ ?_
            · exact ⟨y9, y10, y11, y12, ms, rfl, s2, hS, om, by omega⟩
            · obtain ⟨_, _, _, _, _, _, z, _⟩ := z
              exact .of (z _ _ hca)
            · clear hS s2 om lm ms y9 y10 y11 y12 H2
              rintro u x σ H2 hx ⟨y9, y10, y11, y12, ms, rfl, s2, hS, om, lm⟩
              rw [List.getElem?_map] at hx
              obtain ⟨sy, hsy, rfl⟩ := Option.map_eq_some_iff.mp hx
              have lu := (List.getElem?_eq_some_iff.mp hsy).1
              obtain ⟨sy0, sy1, sy2⟩ := och.says sy (List.mem_of_getElem? hsy)
              -- one, two
              refine Evl.q_cut (M := fun σ' G => ∃ (o t : Nat), σ' = [some (.ref f), some b, some (.ref R), some (.ref C), some (.int (0 + (i : Int))), y5, some (.int (h : Nat)), some (.ref S), some (.int (j : Nat)), some (.int sy), some (.int (o : Nat)), some (.int (t : Nat)), y12] ∧ Same H2 G ∧ o < rows.length ∧ t < rows.length) ?_ ?_
              · refine ⟨_, rfl, _, _, rfl, rfl, _, rfl, ite2 (fun e => ?_) (fun e => ?_)⟩
                · refine ⟨_, rfl, _, rfl, by show 2 ≤ sizeLine; decide, fun t G nt s3 ht _ => ?_⟩
                  exact ⟨t, _, rfl, .of ht, rfl, _, _, rfl, _, _, rfl, rfl, h, j, rfl, s3, lh, by omega⟩
                · refine ⟨_, rfl, _, rfl, by show 2 ≤ sizeLine; decide, fun t G nt s3 ht _ => ?_⟩
                  exact ⟨t, _, rfl, .of ht, rfl, _, _, rfl, _, _, rfl, rfl, j, h, rfl, s3, by omega, lh⟩
              rintro σ' H3 ⟨o, t, rfl, s3, lo, lt⟩
              -- row
              refine Evl.q_cut (M := fun σ' G => ∃ p : Addr, σ' = [some (.ref f), some b, some (.ref R), some (.ref C), some (.int (0 + (i : Int))), y5, some (.int (h : Nat)), some (.ref S), some (.int (j : Nat)), some (.int sy), some (.int (o : Nat)), some (.int (t : Nat)), some (.ref p)] ∧ Same H3 G ∧ G p = some (.tup (Rw.cut o t sy.natAbs).vs)) ?_ ?_
              · refine ⟨_, rfl, _, rfl, _, rfl, sy, rfl, by show 4 ≤ sizeLine; decide, fun p G np s4 hp _ => ⟨p, rfl, s4, ?_⟩⟩
                rw [hp, show (if sy < 0 then -sy else sy) = (sy.natAbs : Int) by split <;> omega]
                rfl
              rintro σ' H4 ⟨p, rfl, s4, hp⟩
              have s24 := s2.trans (s3.trans s4)
              have W4 := W.same A s24
              have rg : RowG css.length cls.length (.cut o t sy.natAbs) := ⟨by omega, by omega, by omega, by omega⟩
              have hS4 : RowsL H4 S ms := by
                obtain ⟨vs, h1, h2⟩ := hS
                exact ⟨vs, (s3.trans s4) _ _ h1, h2.imp fun _ _ r => r.same (s3.trans s4)⟩
              refine ⟨_, rfl, _, rfl, _, rfl, b, C, .ref p, css, cls, .cut o t sy.natAbs, rfl, W4.b, W4.c, ⟨p, rfl, hp⟩, oc, L.cl, rg, fun x v H5 s5 is _ tv => ?_, fun no H5 s5 => ?_⟩
              · obtain ⟨xa, rfl, hxa⟩ := tv
                refine ⟨rfl, true, rfl, ?_⟩
                obtain ⟨vs, h1, h2⟩ := hS4
                have hS5 := s5 _ _ h1
                refine ⟨_, rfl, .inl ⟨rfl, _, .of hS5⟩, _, rfl, S, _, _, rfl, rfl, hS5, small1000 (by rw [h2.1]; omega), ?_⟩
                refine ⟨_, _, _, _, ms ++ [.cut o t sy.natAbs], rfl, same_wr (s24.trans s5) nS, ⟨_, upd_same, All2.snoc (h2.imp fun _ _ r => (r.same s5).wr hS5) (RowAt.wr ⟨p, rfl, s5 _ _ hp⟩ hS5)⟩, fun r hr => ?_, by rw [List.length_append, List.length_singleton]; omega⟩
                rcases List.mem_append.mp hr with z | z
                · exact om r z
                · rw [List.mem_singleton.mp z]
                  exact ⟨by rw [lcl]; exact rg, x, is⟩
              · refine ⟨rfl, false, rfl, ?_⟩
                obtain ⟨vs, h1, h2⟩ := hS4
                exact ⟨_, _, _, _, ms, rfl, s24.trans s5, ⟨vs, s5 _ _ h1, h2.imp fun _ _ r => r.same s5⟩, om, by omega⟩
            · rintro σ G ⟨y9, y10, y11, y12, ms, rfl, s3, hS, om, lm⟩
              rw [List.length_map] at lm
              exact ⟨_, y9, y10, y11, y12, ms, rfl, s3, hS, om, by omega⟩
          · rintro σ G ⟨y8, y9, y10, y11, y12, ms, rfl, s3, hS, om, lm⟩
            exact ⟨y8, y9, y10, y11, y12, ms, rfl, s3, hS, om, by omega⟩
        clear hS2 s2 H2 y8 y9 y10 y11 y12
        rintro σ' H2 ⟨y8, y9, y10, y11, y12, ms, rfl, s2, hS, om, lm⟩
        have W2 := W.same A s2
        clear aR hR lrv rvs
        -- a row of the book
        refine Evl.q_cut (M := fun σ' G => ∃ (p : Addr) (m : Nat), σ' = [some (.ref f), some b, some (.ref R), some (.ref C), some (.int (0 + (i : Int))), y5, some (.int (h : Nat)), some (.ref S), y8, y9, y10, y11, some (.ref p)] ∧ Two H f c b css R C (B + 11 + 6 * i + 3) rows cls G ∧ RowsL G S ms ∧ G p = some (.tup (Rw.book m).vs) ∧ m < css.length) ?_ ?_
        · obtain ⟨ba, bvs, eb, hB2, lB, aB⟩ := W2.b
          refine ⟨_, rfl, _, rfl, ba, _, by rw [eb], .inr (.of hB2), f, c, _, _, rfl, by omega, by omega, W2.F, by omega, fun d H3 d0 d1 F3 k3 => ?_⟩
          obtain ⟨m, rfl⟩ : ∃ m : Nat, d = (m : Int) := ⟨d.toNat, by omega⟩
          refine ⟨by show 2 ≤ sizeLine; decide, fun p G np s4 hp _ => ?_⟩
          have nSf : S ≠ f := W.F.nf nS
          exact ⟨p, m, rfl, (W2.ke A k3 F3).same A s4, rows_ke (rows_ke hS k3 nSf) (.same s4) (F := Nof) (fun z => z), hp, by omega⟩
        clear W2 hS s2 H2
        rintro σ' H2 ⟨p, m, rfl, W2, hS, hp, lm'⟩
        -- one of those that may be
        refine Evl.q_cut (M := fun σ' G => ∃ (p : Addr) (r : Rw), σ' = [some (.ref f), some b, some (.ref R), some (.ref C), some (.int (0 + (i : Int))), y5, some (.int (h : Nat)), some (.ref S), y8, y9, y10, y11, some (.ref p)] ∧ Two H f c b css R C (B + 11 + 6 * i + 4) rows cls G ∧ G p = some (.tup r.vs) ∧ May css cls rows.length r) ?_ ?_
        · obtain ⟨vs, hS2, aS⟩ := hS
          refine ⟨_, rfl, Nat.zero_le _, fun Le G n1 u1 h1 _ => ⟨.list (ms.map rdat), .list [], .lst (.of (u1 _ _ hS2)) (dp_rs (aS.imp fun _ _ r => r.same u1)), .lst (.of h1) .nil, shaped_rs ms, by decide, _, rfl, ?_⟩⟩
          rw [ne_nil_rs]
          refine ite2 (fun e => ?_) (fun e => ?_)
          · have ne : ms.length ≠ 0 := fun z => by
              rw [decide_eq_true z] at e
              cases e
            have lv := aS.1
            refine ⟨_, rfl, _, rfl, _, rfl, S, _, rfl, .inl (.of (u1 _ _ hS2)), f, c, _, _, rfl, by omega, by omega, W2.F.same u1, by omega, fun d H3 d0 d1 F3 k3 => ?_⟩
            obtain ⟨m', rfl⟩ : ∃ m : Nat, d = (m : Int) := ⟨d.toNat, by omega⟩
            have nSf : S ≠ f := W.F.nf nS
            have hm := List.getElem?_eq_getElem (show m' < ms.length by omega)
            generalize ms[m']'(by omega) = r at hm
            obtain ⟨rv, hrv, rp, rfl, hrp⟩ := aS.atR hm
            refine ⟨S, _, _, .ref rp, rfl, rfl, .of (k3.lst (u1 _ _ hS2) nSf), at_of (j := m') rfl hrv, ?_⟩
            exact ⟨rp, r, rfl, (W2.same A u1).ke A k3 F3, k3.tups _ _ (u1 _ _ hrp), om r (List.mem_of_getElem? hm)⟩
          · exact ⟨p, .book m, rfl, (W2.same A u1).mono (by omega), u1 _ _ hp, lm', css[m], List.getElem?_eq_getElem lm'⟩
        clear W2 hS hp lm' m p H2
        rintro σ' H2 ⟨p, r, rfl, W2, hp, rg, x0, is0⟩
        -- its claim
        refine Evl.q_cut (M := fun σ' G => ∃ x : List Int, σ' = [some (.ref f), some b, some (.ref R), some (.ref C), some (.int (0 + (i : Int))), y5, some (.int (h : Nat)), some (.ref S), y8, y9, y10, y11, some (.ref p)] ∧ Two H f c b css R C (B + 11 + 6 * i + 4) rows (cls ++ [x]) G ∧ G p = some (.tup r.vs) ∧ RowIs css cls r x ∧ Cl0 x) ?_ ?_
        · obtain ⟨vs, hC2, aC2⟩ := W2.c
          refine ⟨_, rfl, .inl ⟨rfl, _, .of hC2⟩, _, rfl, _, rfl, _, rfl, b, C, .ref p, css, cls, r, rfl, W2.b, W2.c, ⟨p, rfl, hp⟩, oc, L.cl, by rw [← lcl]; exact rg, fun x v H5 s5 is cx tv => ?_, fun no H5 s5 => absurd is0 (no x0)⟩
          have hC5 := s5 _ _ hC2
          refine ⟨C, _, _, rfl, rfl, hC5, small1000 (by rw [aC2.1, ← lcl]; omega), x, rfl, (W2.same A s5).cla A hC5 (aC2.imp fun _ _ r => r.ke (.same s5) (F := Nof)) tv, ?_, is, cx⟩
          rw [upd_ne (fun z => by rw [z, hC2] at hp; cases hp)]
          exact s5 _ _ hp
        clear W2 hp H2
        rintro σ' H2 ⟨x, rfl, W2, hp, is, cx⟩
        obtain ⟨vs, hR2, aR2⟩ := W2.r
        refine ⟨_, rfl, .inl ⟨rfl, _, .of hR2⟩, _, rfl, R, _, _, rfl, rfl, hR2, small1000 (by rw [aR2.1]; omega), ?_⟩
        exact ⟨_, _, _, _, _, _, _, _, rows ++ [r], cls ++ [x], rfl, (W2.row A hR2 aR2 ⟨p, rfl, hp⟩).mono (by omega), L.snoc is rg cx, by rw [List.length_append, List.length_singleton]; omega, by rw [List.length_append, List.length_singleton]; omega⟩
      · rintro σ G ⟨y4, y6, y7, y8, y9, y10, y11, y12, rows, cls, rfl, W, L, r1, r10⟩
        exact ⟨y4, y6, y7, y8, y9, y10, y11, y12, rows, cls, rfl, W.mono (by omega), L, r1, by omega⟩
    clear W L r1 r10 rows cls H1
    rintro σ' H1 ⟨y4', y6, y7, y8, y9, y10, y11, y12, rows, cls, rfl, W, L, r1, r30⟩
    refine ⟨_, rfl, _, rfl, by show 2 ≤ sizeLine; decide, fun t G nt s2 ht _ => ?_⟩
    have W2 := W.same A s2
    exact q t R C rows cls G (W2.F.mono (by omega)) W2.k A.Rf A.Cf A.fR A.fC W2.r W2.c L r1 r30 ht
end
end Tc
namespace Tc
open PySem PySem.Spec PyProof.Rows L2 GxR Nw Dr Kp Ev1 Tw Kc Od
/-! ### claims as data -/
theorem sm_say : ∀ n : Fin 17, PyData.showable (.int ((n.val : Int) - 8)) = true ∧ (PyData.shown (.int ((n.val : Int) - 8))).length ≤ 4 := by decide +kernel
theorem sm_int {i : Int} (h : i ≠ 0 ∧ -8 ≤ i ∧ i ≤ 8) : Sm 45 (.int i) := by
  have := sm_say ⟨(i + 8).toNat, by omega⟩
  rw [show (((i + 8).toNat : Int) - 8) = i by omega] at this
  exact ⟨this.1, rfl, by show 0 ≤ 6; decide, Nat.le_trans this.2 (by decide)⟩
def cdat (c : List Int) : PyData := .tuple (c.map PyData.int)
def bdat (cls : List (List Int)) : PyData := .tuple (cls.map cdat)
theorem sm_cl {c : List Int} (h : Cl0 c) : Sm 2000 (cdat c) ∧ (cdat c).depth ≤ 5 := by
  constructor
  · exact (SmAll.of fun d hd => by
      obtain ⟨i, hi, rfl⟩ := List.mem_map.mp hd
      exact ⟨sm_int (h.says i hi), Nat.zero_le _⟩).tuple (n := 17) (by rw [List.length_map]; exact cl0_len h) (by decide)
  · have : PyData.depthAll (c.map PyData.int) ≤ 1 := flat_depth _ (by
      rw [List.all_eq_true]
      intro d hd
      obtain ⟨z, _, rfl⟩ := List.mem_map.mp hd
      rfl)
    show PyData.depthAll (c.map PyData.int) + 1 ≤ 5
    omega
theorem dep_cls : ∀ {cls : List (List Int)}, PyData.depthAll (cls.map cdat) ≤ 2
  | [] => by decide
  | c :: r => by
    have h1 : PyData.depthAll (c.map PyData.int) ≤ 1 := flat_depth _ (by
      rw [List.all_eq_true]
      intro d hd
      obtain ⟨z, _, rfl⟩ := List.mem_map.mp hd
      rfl)
    refine Nat.max_le.mpr ⟨?_, dep_cls (cls := r)⟩
    show PyData.depthAll (c.map PyData.int) + 1 ≤ 2
    omega
theorem smc_txt {d : PyData} (h : (d.showable && !d.hasDict && decide (d.depth ≤ 2) && decide (d.shown.length ≤ 45)) = true) : Sm 45 d := by
  simp only [Bool.and_eq_true, decide_eq_true_eq, Bool.not_eq_true'] at h
  obtain ⟨⟨⟨h1, h2⟩, h3⟩, h4⟩ := h
  exact ⟨h1, h2, by omega, h4⟩
theorem dp_cl {K : PySem.W.Frag} {H : Hp} {v : V} {c : List Int} (h : TupI H v c) : Dp K H v (cdat c) := by
  obtain ⟨a, rfl, h⟩ := h
  exact .tup (.of h) (dp_ints c)
theorem dp_cls {K : PySem.W.Frag} {H : Hp} : ∀ {vs : List V} {cls : List (List Int)}, All2 (TupI H) vs cls → DpAll K H vs (cls.map cdat)
  | [], [], _ => .nil
  | [], _ :: _, h => by cases h.1
  | _ :: _, [], h => by cases h.1
  | v :: t, r :: u, h => .cons (dp_cl (h.2 0 v r rfl rfl)) (dp_cls ⟨by have := h.1; simp only [List.length_cons] at this; omega, fun i x y h1 h2 => h.2 (i + 1) x y h1 h2⟩)
theorem dp_bk {K : PySem.W.Frag} {H : Hp} {v : V} {cls : List (List Int)} (h : Bk H v cls) : Dp K H v (bdat cls) := by
  obtain ⟨a, vs, rfl, h, l, r⟩ := h
  exact .tup (.of h) (dp_cls ⟨l, r⟩)
end Tc
namespace Tc
open PySem PySem.Spec PyProof.Rows L2 GxR Nw Dr Kp Ev1 Rk Tw Od Kc
/-! ### a ladder read again (k80) -/
theorem passF {X : Cx} : Passes (L2.CX X.prog X.w) X (fun _ _ _ => False) := fun _ _ _ _ _ _ _ h => by
  obtain ⟨_, _, _, _, _, _, _, _, _, _, _, _, z⟩ := h
  exact z.elim
theorem mid_ints : ∀ n : Fin 301, PyData.showable (.int (n.val : Int)) = true ∧ (PyData.shown (.int (n.val : Int))).length ≤ 4 := by decide +kernel
theorem sm_mid {n : Nat} (h : n ≤ 300) : Sm 45 (.int (n : Nat)) := by
  have := mid_ints ⟨n, by omega⟩
  exact ⟨this.1, rfl, by show 0 ≤ 6; decide, Nat.le_trans this.2 (by decide)⟩
theorem sm_row {r : Rw} (h : ∀ n ∈ rwN r, n < 300) : Sm 400 (rdat r) ∧ (rdat r).depth ≤ 5 := by
  cases r with
  | book n =>
    have h : n < 300 := h n List.mem_cons_self
    exact ⟨(SmAll.cons (smc_txt (d := .str "book") (by decide +kernel)) (Nat.zero_le _) (SmAll.cons (sm_mid (n := n) (by omega)) (Nat.zero_le _) .nil)).tuple (n := 4) (by show 2 ≤ 4; decide) (by decide), by show Nat.max 0 (Nat.max 0 0) + 1 ≤ 5; decide⟩
  | cut i j k =>
    have h1 : i < 300 := h i (by simp [rwN])
    have h2 : j < 300 := h j (by simp [rwN])
    have h3 : k < 300 := h k (by simp [rwN])
    exact ⟨(SmAll.cons (smc_txt (d := .str "cut") (by decide +kernel)) (Nat.zero_le _) (SmAll.cons (sm_mid (n := i) (by omega)) (Nat.zero_le _) (SmAll.cons (sm_mid (n := j) (by omega)) (Nat.zero_le _) (SmAll.cons (sm_mid (n := k) (by omega)) (Nat.zero_le _) .nil)))).tuple (n := 4) (by show 4 ≤ 4; decide) (by decide), by show Nat.max 0 (Nat.max 0 (Nat.max 0 (Nat.max 0 0))) + 1 ≤ 5; decide⟩
theorem sm_rows {rows : List Rw} (h : ∀ r ∈ rows, ∀ n ∈ rwN r, n < 300) (l : rows.length ≤ 300) : Sm 300000 (.list (rows.map rdat)) := (SmAll.of fun d hd => by
    obtain ⟨r, hr, rfl⟩ := List.mem_map.mp hd
    exact sm_row (h r hr)).list (n := 300) (by rw [List.length_map]; exact l) (by decide)
theorem sm_bk {cls : List (List Int)} (h : ∀ c ∈ cls, Cl0 c) (l : cls.length ≤ 20) : Sm 300000 (bdat cls) := (SmAll.of fun d hd => by
    obtain ⟨r, hr, rfl⟩ := List.mem_map.mp hd
    exact sm_cl (h r hr)).tuple (n := 20) (by rw [List.length_map]; exact l) (by decide)
structure Zy (mg : Str → Option Value) : Prop where
  z_range : mg "range" = none
  z_repr : mg "repr" = none
section
variable {P : Program} {w : World} {K : PySem.W.Frag} {mg : Str → Option Value} {base : Heap}
abbrev sRri : Stmt := topS 47
theorem scRri : FnScope ["text", "rows", "again", "found"] ["text", "rows"] (defScope sRri) := ⟨rfl, rfl, rfl, by decide +kernel, rfl, by decide +kernel, by decide +kernel⟩
def spRri : Sp := fun vs H Q _ => ∃ (R : Addr) (rows : List Rw), vs = [.str (ldT rows), .ref R] ∧ RowsL H R rows ∧ RVs rows ∧ 1 ≤ rows.length ∧ rows.length ≤ 200 ∧ ∀ H', Same H H' → Q (.bl true) H'
theorem ok_rri {f fL C : Addr} {fd fdL : FuncData} (F : Fun K "_law_e_read_right" "_law_e_read_right" sRri f fd) (T : Zy mg)
    (FL : Fun K "read_ladder" "read_ladder" sRla fL fdL) (bL : Binds K fdL ["text"] []) (gL : mg "read_ladder" = some (.ref fL)) (GL : Gx2.FnX P w K mg base (L2.CX P w) 6 fL fdL ["text"] (spRla C)) :
    Gx2.FnX P w K mg base CX0 7 f fd ["text", "rows"] spRri := by
  refine Gx2.okX F scRri (fun vs H Q E h => ?_) (fun cdv A outer s H vs Q E gd0 hr h => ?_)
  · obtain ⟨R, rows, rfl, _⟩ := h
    rfl
  · obtain ⟨R, rows, rfl, hR, rv, l1, l2, q⟩ := h
    have hr6 : Room 6 _ := hr
    have gd : (A.deeper (envOfC "_law_e_read_right" (defScope sRri) s.heap.objs.size f cdv)).guards = some [] := gd0
    have hu : (A.deeper (envOfC "_law_e_read_right" (defScope sRri) s.heap.objs.size f cdv)).units + 70 < cLine := by
      have := hr.un
      omega
    refine ⟨_, (PSs.nox (Evl.pss_cut (ps_for PassesOwn.never rfl (pi_range1 (by rfl) T.z_range (pa_cons pe_int pa_nil)) (pg_name (i := 2) scRri.nd rfl (.inl rfl)) (Evl.pss_cut (ps_set (i := 3) scRri.nd rfl (.inl rfl) (Gx2.pe_callX GL gd hr6 (by rfl) gL FL.kp bL .nil passF (pa_cons (pv 0) pa_nil)))
      (Evl.pss_cut (ps_if (pt_cmpR op_ne (pe_callB (Rpa.cr_reprA gd hu) (by rfl) T.z_repr (by decide +kernel) (pa_cons (pv 3) pa_nil)) (pe_callB (Rpa.cr_reprA gd hu) (by rfl) T.z_repr (by decide +kernel) (pa_cons (pv 1) pa_nil)) (nomark _)) (pss_one (ps_ret pe_bl)) pss_nil)
      (pss_one (ps_expr (pe_bm PySem.F.plainAttrs_list PySem.F.slot_list_append PySem.F.type_list_append mt_append (pv 3) (pa_cons (pe_tupN pa_nil) pa_nil)))))))
      (pss_one (ps_ret pe_bl)))), ?_⟩
    obtain ⟨vs, hL, aR⟩ := hR
    have bd := rv.bd (by omega)
    have sm := sm_rows bd (by omega)
    have tb := ladder_back (rows := rows) (fun z => by rw [z] at l1; cases l1) l2 rv
    have lx := ldT_len bd (by omega)
    generalize ldT rows = x at tb lx
    refine Evl.q_cut (M := fun σ' G => Same H G) ?_ ?_
    · refine ⟨2, rfl, by decide, by decide, for_range (n := 2) (Pv := fun i σ G => ∃ y2 y3 : Option V, σ = [some (.str x), some (.ref R), y2, y3] ∧ Same H G) ?_ ?_ ?_⟩
      · exact ⟨none, none, rfl, Same.refl _⟩
      · rintro i σ G hi ⟨y2, y3, rfl, s1⟩
        refine Evl.q_cut (M := fun σ' G' => ∃ F : Addr, σ' = [some (.str x), some (.ref R), some (.int (0 + (i : Int))), some (.ref F)] ∧ H F = none ∧ Same H G' ∧ RowsL G' F rows) ?_ ?_
        · refine ⟨_, rfl, x, rfl, by omega, fun F rows' G1 nF s2 td l2' hF => ?_, fun e G1 s2 bad => (bad.told tb).elim⟩
          obtain rfl := td.one tb
          exact ⟨F, rfl, s1.free nF, s1.trans s2, hF⟩
        rintro σ' G1 ⟨F, rfl, nF, s2, fvs, hF, aF⟩
        have aR1 : All2 (RowAt G1) vs rows := aR.imp fun _ _ r => r.same s2
        refine Evl.q_cut (M := fun σ' G' => σ' = [some (.str x), some (.ref R), some (.int (0 + (i : Int))), some (.ref F)] ∧ G1 = G') ?_ ?_
        · refine ⟨_, rfl, .ref F, .list (rows.map rdat), rfl, .lst (.of hF) (dp_rs aF), sm.sh, sm.nd, Nat.le_trans sm.dp (by decide), Nat.le_trans sm.sz (by decide), ?_⟩
          refine ⟨_, rfl, .ref R, .list (rows.map rdat), rfl, .lst (.of (s2 _ _ hL)) (dp_rs aR1), sm.sh, sm.nd, Nat.le_trans sm.dp (by decide), Nat.le_trans sm.sz (by decide), rfl, false, ?_, rfl, rfl⟩
          rw [decide_eq_true rfl]
          rfl
        rintro σ' G' ⟨rfl, rfl⟩
        refine ⟨_, rfl, .inl ⟨rfl, _, .of hF⟩, Nat.zero_le _, fun t G2 nt s3 ht _ => ⟨F, _, _, rfl, rfl, s3 _ _ hF, small1000 (by rw [aF.1]; omega), ?_⟩⟩
        exact ⟨_, _, rfl, same_wr (s2.trans s3) nF⟩
      · rintro σ G ⟨y2, y3, rfl, s1⟩
        exact s1
    rintro σ' G s1
    exact q G s1
end
end Tc
namespace K80
open PySem PySem.Spec PyProof.Rows L2 GxR Nw Dr Kp Ev1 Rk Od Tw Kc Tc
structure Zk (mg : Str → Option Value) : Prop where
  z_range : mg "range" = none
  z_all : mg "all" = none
  z_int : mg "int" = none
  z_list : mg "list" = none
  z_repr : mg "repr" = none
theorem cut_t {xs : List V} (n : Nat) : cutV xs none (some (n : Int)) = xs.take n := by
  unfold cutV
  rw [HT.sIx_none, HT.sIx_nat, List.drop_zero, Nat.sub_zero]
  by_cases h : n ≤ xs.length
  · rw [Nat.min_eq_left h]
  · rw [Nat.min_eq_right (by omega), List.take_length, List.take_of_length_le (by omega)]
theorem cl0_of {c : List Int} (h : IsCl c) : Cl0 c := ⟨h.up, h.says, h.opp⟩
/-- the three tables -/
def Tt (Pc Pr Po : Addr) (H : Hp) : Prop := TabG H Pc ∧ TabG H Pr ∧ TabG H Po
theorem Tt.ke {Pc Pr Po : Addr} {F : Addr → Prop} {H H' : Hp} (h : Tt Pc Pr Po H) (k : Ke F H H') : Tt Pc Pr Po H' := ⟨k.tabs _ h.1, k.tabs _ h.2.1, k.tabs _ h.2.2⟩
/-- feed and tables -/
structure Cx2 (Pc Pr Po f c : Addr) (B : Nat) (H : Hp) : Prop where
  F : Feed H f c B
  t : Tt Pc Pr Po H
theorem Cx2.ke {Pc Pr Po f c : Addr} {B B' : Nat} {H H' : Hp} (h : Cx2 Pc Pr Po f c B H) (k : Ke (· = f) H H') (F : Feed H' f c B') : Cx2 Pc Pr Po f c B' H' := ⟨F, h.t.ke k⟩
theorem Cx2.ke0 {Pc Pr Po f c : Addr} {B : Nat} {H H' : Hp} (h : Cx2 Pc Pr Po f c B H) (k : Ke Nof H H') : Cx2 Pc Pr Po f c B H' := ⟨k.feed h.F, h.t.ke k⟩
theorem Cx2.same {Pc Pr Po f c : Addr} {B : Nat} {H H' : Hp} (h : Cx2 Pc Pr Po f c B H) (s : Same H H') : Cx2 Pc Pr Po f c B H' := h.ke0 (.same s)
theorem Cx2.mono {Pc Pr Po f c : Addr} {B B' : Nat} {H : Hp} (h : Cx2 Pc Pr Po f c B H) (l : B ≤ B') : Cx2 Pc Pr Po f c B' H := ⟨h.F.mono l, h.t⟩
theorem neq_self (x : Str) : V.bl (!decide (V.str x = V.str x)) = V.bl false := by rw [decide_eq_true rfl]; rfl
theorem eqv_rs {rows : List Rw} : PyData.eqv (.list (rows.map rdat)) (.list (rows.map rdat)) = true := by
  have key : ∀ {rows : List Rw}, PyData.eqvAll (rows.map rdat) (rows.map rdat) = true := by
    intro rows
    induction rows with
    | nil => rfl
    | cons r t ih =>
      show (PyData.eqv (rdat r) (rdat r) && PyData.eqvAll (t.map rdat) (t.map rdat)) = true
      rw [ih, Bool.and_true]
      cases r <;> simp [rdat, PyData.eqv, PyData.eqvAll]
  exact key
section
variable {P : Program} {w : World} {K : PySem.W.Frag} {mg : Str → Option Value} {base : Heap}
abbrev sLaw : Stmt := topS 48
abbrev nL : List Str := ["script", "pen", "turn", "book", "text", "rows", "kept", "claim"]
theorem scL : FnScope nL ["script"] (defScope sLaw) := ⟨rfl, rfl, rfl, by decide +kernel, rfl, by decide +kernel, by decide +kernel⟩
def spLaw (Pc Pr Po : Addr) (K : PySem.W.Frag) : Sp := fun vs H Q _ => ∃ (a : Addr) (ns : List Int), vs = [.ref a] ∧ SqL K H a (ns.map V.int) ∧ TabG H Pc ∧ TabG H Pr ∧ TabG H Po ∧ ∀ H', Q (.bl true) H'
theorem ok_law {f fO fD fB fC fS fH fW fR fL fT fV fK fI C6 Pc Pr Po : Addr} {fd fdO fdD fdB fdC fdS fdH fdW fdR fdL fdT fdV fdK fdI : FuncData} (FL' : Fun K "law" "law" sLaw f fd) (T : Zk mg)
    (FO : Fun K "_law_e_pen" "_law_e_pen" sOpn fO fdO) (bO : Binds K fdO ["script"] []) (gO : mg "_law_e_pen" = some (.ref fO)) (GO : FnOk P w K mg base CX0 1 fO fdO ["script"] (spOpn K))
    (FD : Fun K "_law_e_take" "_law_e_take" sDrw fD fdD) (bD : Binds K fdD ["pen", "many"] []) (gD : mg "_law_e_take" = some (.ref fD)) (GD : FnOk P w K mg base CX0 2 fD fdD ["pen", "many"] spDrw)
    (FB : Fun K "_law_e_book" "_law_e_book" Cl.sBok fB fdB) (bB : Binds K fdB ["pen", "most"] []) (gB : mg "_law_e_book" = some (.ref fB)) (GB : FnOk P w K mg base CX0 4 fB fdB ["pen", "most"] Cl.spBok)
    (FC : Fun K "_law_e_claim" "_law_e_claim" Cl.sClm fC fdC) (bC : Binds K fdC ["pen", "most", "wide"] []) (gC : mg "_law_e_claim" = some (.ref fC)) (GC : FnOk P w K mg base CX0 3 fC fdC ["pen", "most", "wide"] Cl.spClm)
    (FS : Fun K "show_book" "show_book" sShb fS fdS) (bS : Binds K fdS ["book"] []) (gS : mg "show_book" = some (.ref fS)) (GS : FnOk P w K mg base CX0 2 fS fdS ["book"] spShb)
    (FH : Fun K "show_claim" "show_claim" sShc fH fdH) (bH : Binds K fdH ["claim"] []) (gH : mg "show_claim" = some (.ref fH)) (GH : FnOk P w K mg base CX0 1 fH fdH ["claim"] spShc)
    (FW : Fun K "_law_e_words" "_law_e_words" sWds fW fdW) (bW : Binds K fdW ["claim"] []) (gW : mg "_law_e_words" = some (.ref fW)) (GW : FnOk P w K mg base CX0 1 fW fdW ["claim"] spShc)
    (FR : Fun K "_law_e_rows" "_law_e_rows" sErw fR fdR) (bR : Binds K fdR ["pen", "book"] []) (gR : mg "_law_e_rows" = some (.ref fR)) (GR : FnOk P w K mg base CX0 4 fR fdR ["pen", "book"] spErw)
    (FL : Fun K "show_ladder" "show_ladder" sShl fL fdL) (bL : Binds K fdL ["ladder"] []) (gL : mg "show_ladder" = some (.ref fL)) (GL : FnOk P w K mg base CX0 2 fL fdL ["ladder"] spShl)
    (FT : Fun K "_law_e_rows_text" "_law_e_rows_text" sRtx fT fdT) (bT : Binds K fdT ["rows"] []) (gT : mg "_law_e_rows_text" = some (.ref fT)) (GT : FnOk P w K mg base CX0 1 fT fdT ["rows"] spShl)
    (FV : Fun K "_law_e_drawn_rows" "_law_e_drawn_rows" sDro fV fdV) (bV : Binds K fdV ["pen", "many"] []) (gV : mg "_law_e_drawn_rows" = some (.ref fV)) (GV : FnOk P w K mg base CX0 3 fV fdV ["pen", "many"] spDrv)
    (FK : Fun K "read_book" "read_book" sRbk fK fdK) (bK : Binds K fdK ["text"] []) (gK : mg "read_book" = some (.ref fK)) (GK : Gx2.FnX P w K mg base (L2.CX P w) 9 fK fdK ["text"] (spRbk C6 Pc Pr Po))
    (FI : Fun K "_law_e_read_right" "_law_e_read_right" sRri fI fdI) (bI : Binds K fdI ["text", "rows"] []) (gI : mg "_law_e_read_right" = some (.ref fI)) (GI : Gx2.FnX P w K mg base CX0 7 fI fdI ["text", "rows"] spRri) :
    Gd.FnG P w K mg base 10 f fd ["script"] (spLaw Pc Pr Po K) := by
  refine Gd.okG FL' scL (fun vs H Q E h => ?_) (fun cdv A outer s H vs Q E gd0 hr h => ?_)
  · obtain ⟨a, ns, rfl, _⟩ := h
    rfl
  · obtain ⟨a, ns, rfl, hS, t1, t2, t3, q⟩ := h
    have gd : (A.deeper (envOfC "law" (defScope sLaw) s.heap.objs.size f cdv)).guards = some [] := gd0
    have hu : (A.deeper (envOfC "law" (defScope sLaw) s.heap.objs.size f cdv)).units + 70 < cLine := by
      have := hr.un
      omega
    have hr1 : Room 1 _ := hr.mono (by decide)
    have hr2 : Room 2 _ := hr.mono (by decide)
    have hr3 : Room 3 _ := hr.mono (by decide)
    have hr4 : Room 4 _ := hr.mono (by decide)
    have hr7 : Room 7 _ := hr.mono (by decide)
    have hr9 : Room 9 _ := hr.mono (by decide)
    have tt : Tt Pc Pr Po H := ⟨t1, t2, t3⟩
    clear t1 t2 t3
    refine ⟨_, (Evl.pss_cut (ps_set (i := 1) scL.nd rfl (.inl rfl) (pe_call GO hr1 (by rfl) gO FO.kp bO .nil pass0 (pa_cons (pv 0) pa_nil)))
      (Evl.pss_cut (ps_for PassesOwn.never rfl (pi_range1 (by rfl) T.z_range (pa_cons pe_int pa_nil)) (pg_name (i := 2) scL.nd rfl (.inl rfl)) (Evl.pss_cut (ps_set (i := 3) scL.nd rfl (.inl rfl) (pe_call GB hr4 (by rfl) gB FB.kp bB .nil pass0 (pa_cons (pv 1) (pa_cons (pe_ix ix_list (pe_lstN (pa_cons pe_int (pa_cons pe_int (pa_cons pe_int pa_nil)))) (pe_call GD hr2 (by rfl) gD FD.kp bD .nil pass0 (pa_cons (pv 1) (pa_cons pe_int pa_nil))) (fun _ _ => rfl)) pa_nil))))
      (Evl.pss_cut (ps_set (i := 3) scL.nd rfl (.inl rfl) (pe_op op_catTN (pe_slice sl_tupN (pv 3) po_none (po_some pe_int)) (pe_tupN (pa_cons (pe_call GC hr3 (by rfl) gC FC.kp bC .nil pass0 (pa_cons (pv 1) (pa_cons pe_int (pa_cons pe_int pa_nil)))) pa_nil))))
      (Evl.pss_cut (ps_if (pt_not (pt_val (pe_callB (cr_all rfl) (by rfl) T.z_all (by decide +kernel) (pa_cons (pe_lc (own := [("claim", 7)]) (g := (gName 7)) (tt := tYes) rfl scL.nd (pi_tup (pe_op op_catTN (pv 3) (pe_tupN (pa_cons (pe_tupN pa_nil) pa_nil)))) (blkOk_by (N := nL) (sc := defScope sLaw) (by decide +kernel)) (fun _ _ _ _ _ => (pg_name (i := 7) scL.nd rfl (.inl rfl))) (fun _ _ _ _ _ => pts_nil) (fun _ _ _ _ _ => (pe_cmpR op_eq (pe_call GH hr1 (by rfl) gH FH.kp bH .nil pass0 (pa_cons (pv 7) pa_nil)) (pe_call GW hr1 (by rfl) gW FW.kp bW .nil pass0 (pa_cons (pv 7) pa_nil)) (nomark _)))) pa_nil)))) (pss_one (ps_ret pe_bl)) pss_nil)
      (Evl.pss_cut (ps_set (i := 4) scL.nd rfl (.inl rfl) (pe_call GS hr2 (by rfl) gS FS.kp bS .nil pass0 (pa_cons (pv 3) pa_nil)))
      (Evl.pss_cut (ps_if (PW.pt (pw_or (pt_cmpR op_ne (pv 4) (L2.pe_join pe_str (pe_lc (own := [("claim", 7)]) (g := (gName 7)) (tt := tYes) rfl scL.nd (pi_tup (pv 3)) (blkOk_by (N := nL) (sc := defScope sLaw) (by decide +kernel)) (fun _ _ _ _ _ => (pg_name (i := 7) scL.nd rfl (.inl rfl))) (fun _ _ _ _ _ => pts_nil) (fun _ _ _ _ _ => (pe_call GW hr1 (by rfl) gW FW.kp bW .nil pass0 (pa_cons (pv 7) pa_nil))))) (nomark _)) (pw_or1 (pt_cmpR op_ne (pe_callB (Rpa.cr_reprA gd hu) (by rfl) T.z_repr (by decide +kernel) (pa_cons (Gx2.pe_callX GK gd hr9 (by rfl) gK FK.kp bK .nil passF (pa_cons (pv 4) pa_nil)) pa_nil)) (pe_callB (Rpa.cr_reprA gd hu) (by rfl) T.z_repr (by decide +kernel) (pa_cons (pv 3) pa_nil)) (nomark _))))) (pss_one (ps_ret pe_bl)) pss_nil)
      (Evl.pss_cut (ps_set (i := 5) scL.nd rfl (.inl rfl) (pe_ix ix_tup (pe_call GR hr4 (by rfl) gR FR.kp bR .nil pass0 (pa_cons (pv 1) (pa_cons (pv 3) pa_nil))) pe_int (fun _ _ => rfl)))
      (Evl.pss_cut (ps_set (i := 6) scL.nd rfl (.inl rfl) (pe_callTy call_list_ofN (by rfl) T.z_list (by decide +kernel) (pa_cons (pv 5) pa_nil)))
      (Evl.pss_cut (ps_set (i := 4) scL.nd rfl (.inl rfl) (pe_call GL hr2 (by rfl) gL FL.kp bL .nil pass0 (pa_cons (pv 5) pa_nil)))
      (Evl.pss_cut (ps_if (PW.pt (pw_or (pt_cmpR op_ne (pv 4) (pe_call GT hr1 (by rfl) gT FT.kp bT .nil pass0 (pa_cons (pv 5) pa_nil)) (nomark _)) (pw_or (pt_cmpR (op_neD hr.units) (pv 5) (pv 6) (nomark _)) (pw_or1 (pt_not (pt_val (Gx2.pe_callX GI gd hr7 (by rfl) gI FI.kp bI .nil pass0 (pa_cons (pv 4) (pa_cons (pv 5) pa_nil))))))))) (pss_one (ps_ret pe_bl)) pss_nil)
      (Evl.pss_cut (ps_set (i := 5) scL.nd rfl (.inl rfl) (pe_call GV hr3 (by rfl) gV FV.kp bV .nil pass0 (pa_cons (pv 1) (pa_cons (pe_ix ix_list (pe_lstN (pa_cons (pe_op op_add pe_int (pe_call GD hr2 (by rfl) gD FD.kp bD .nil pass0 (pa_cons (pv 1) (pa_cons pe_int pa_nil)))) (pa_cons pe_int pa_nil))) (pe_callTy call_int1 (by rfl) T.z_int (by decide +kernel) (pa_cons (pe_cmpR op_eq (pe_call GD hr2 (by rfl) gD FD.kp bD .nil pass0 (pa_cons (pv 1) (pa_cons pe_int pa_nil))) pe_int (nomark _)) pa_nil)) (fun _ _ => rfl)) pa_nil))))
      (pss_one (ps_if (pt_not (pt_val (Gx2.pe_callX GI gd hr7 (by rfl) gI FI.kp bI .nil pass0 (pa_cons (pe_call GT hr1 (by rfl) gT FT.kp bT .nil pass0 (pa_cons (pv 5) pa_nil)) (pa_cons (pv 5) pa_nil))))) (pss_one (ps_ret pe_bl)) pss_nil)))))))))))))
      (pss_one (ps_ret pe_bl)))), ?_⟩
    refine Evl.q_cut (M := fun σ' H' => ∃ f c : Addr, σ' = some (.ref a) :: some (.ref f) :: List.replicate 6 none ∧ Cx2 Pc Pr Po f c 0 H') ?_ ?_
    · exact ⟨.ref a, rfl, a, ns, rfl, hS, fun fe c H1 nf nc s1 F1 => ⟨fe, c, rfl, F1, tt.ke (.same s1) (F := Nof)⟩⟩
    clear tt
    rintro σ' H1 ⟨f, c, rfl, W⟩
    refine Evl.q_cut (M := fun _ _ => True) ?_ fun _ G _ => q G
    refine ⟨4, rfl, by decide, by decide, for_range (n := 4) (Pv := fun i σ G => ∃ y2 y3 y4 y5 y6 y7 : Option V, σ = [some (.ref a), some (.ref f), y2, y3, y4, y5, y6, y7] ∧ Cx2 Pc Pr Po f c (10000 * i) G) ?_ ?_ fun _ _ _ => trivial⟩
    · exact ⟨none, none, none, none, none, none, rfl, W⟩
    clear W H1
    rintro i σ H1 hi ⟨y2, y3, y4, y5, y6, y7, rfl, W⟩
    have hi : i < 4 := hi
    -- the book
    refine Evl.q_cut (M := fun σ' G => ∃ (p : Addr) (css : List (List Int)), σ' = [some (.ref a), some (.ref f), some (.int (0 + (i : Int))), some (.ref p), y4, y5, y6, y7] ∧ Cx2 Pc Pr Po f c (10000 * i + 600) G ∧ Bk G (.ref p) css ∧ (∀ cs ∈ css, IsCl cs) ∧ css.length ≤ 16) ?_ ?_
    · refine ⟨_, rfl, by show 3 ≤ sizeLine; decide, fun Lk G1 n1 u1 h1 _ => ?_⟩
      refine ⟨_, rfl, f, c, 3, _, rfl, by decide, by decide, W.F.same u1, by omega, fun d H2 d0 d1 F2 k2 => ?_⟩
      have nLf : Lk ≠ f := W.F.nf n1
      obtain ⟨m, hm, em⟩ : ∃ m : Int, atI [V.int 2, V.int 5, V.int 8] d = some (.int m) ∧ (1 ≤ m ∧ m ≤ 8) := by
        rcases (by omega : d = 0 ∨ d = 1 ∨ d = 2) with rfl | rfl | rfl
        · exact ⟨2, rfl, by decide⟩
        · exact ⟨5, rfl, by decide⟩
        · exact ⟨8, rfl, by decide⟩
      refine ⟨Lk, _, _, _, rfl, rfl, .of (k2.lst h1 nLf), hm, f, c, m, _, rfl, em.1, em.2, F2, by omega, fun css p H3 F3 k3 _ hb of_ _ l16 => ?_⟩
      exact ⟨p, css, rfl, (((W.same u1).ke k2 F2).ke k3 F3).mono (by omega), hb, fun cs h => (of_ cs h).1, l16⟩
    clear W H1
    rintro σ' H1 ⟨p, css, rfl, W, hb, oc, l16⟩
    refine Evl.q_cut (M := fun σ' G => ∃ (p : Addr) (css : List (List Int)), σ' = [some (.ref a), some (.ref f), some (.int (0 + (i : Int))), some (.ref p), y4, y5, y6, y7] ∧ Cx2 Pc Pr Po f c (10000 * i + 700) G ∧ Bk G (.ref p) css ∧ (∀ cs ∈ css, IsCl cs) ∧ 1 ≤ css.length ∧ css.length ≤ 16) ?_ ?_
    · obtain ⟨p', vs, ep, ha, lv, at_⟩ := hb
      cases ep
      refine ⟨_, rfl, _, rfl, _, _, rfl, ha, fun b1 H2 s2 hb1 => ?_⟩
      rw [show ((15 : Int)) = ((15 : Nat) : Int) from rfl, cut_t] at hb1
      refine ⟨_, rfl, f, c, 8, 8, _, rfl, by decide, by decide, by decide, by decide, W.F.same s2, by omega, fun cs pc H3 F3 k3 _ hpc ic _ _ => ?_⟩
      refine ⟨by show 1 ≤ sizeLine; decide, fun t H4 nt s4 ht _ => ⟨b1, t, _, _, rfl, rfl, s4 _ _ (k3.tups _ _ hb1), ht, ?_, fun p2 H5 s5 hp2 => ?_⟩⟩
      · rw [List.length_take]
        exact Nat.le_trans (by show min 15 vs.length + 1 ≤ 1000; omega : _ ≤ 1000) (by decide)
      have s45 := s4.trans s5
      have kk : Ke (· = f) H1 H5 := (Ke.same s2).trans (k3.trans (.same s45))
      refine ⟨p2, css.take 15 ++ [cs], rfl, (W.ke kk (F3.same s45)).mono (by omega), ?_, fun x hx => ?_, ?_, ?_⟩
      · refine bk_of hp2 (All2.snoc (All2.take (⟨lv, at_⟩ : All2 (TupI H1) vs css) 15 |>.imp fun _ _ r => r.ke kk) ⟨pc, rfl, s45 _ _ hpc⟩)
      · rcases List.mem_append.mp hx with z | z
        · exact oc x (List.mem_of_mem_take z)
        · rw [List.mem_singleton.mp z]
          exact ic
      · rw [List.length_append, List.length_singleton]
        omega
      · rw [List.length_append, List.length_take, List.length_singleton]
        omega
    clear W hb oc l16 css p H1
    rintro σ' H1 ⟨p, css, rfl, W, ⟨p', bvs, ep, hB, lB, aB⟩, oc, l1, l16⟩
    cases ep
    have ob : ∀ c ∈ css, ClS c := fun c hc => cls_of (oc c hc)
    have o0 : ∀ c ∈ css, Cl0 c := fun c hc => cl0_of (oc c hc)
    -- each claim
    refine Evl.q_cut (M := fun σ' G => ∃ y7 : Option V, σ' = [some (.ref a), some (.ref f), some (.int (0 + (i : Int))), some (.ref p), y4, y5, y6, y7] ∧ Same H1 G) ?_ ?_
    · refine ⟨_, rfl, Nat.zero_le _, fun e1 G1 n1 u1 h1 _ => ⟨by show 1 ≤ sizeLine; decide, fun e2 G2 n2 u2 h2 _ => ?_⟩⟩
      have hB2 := u2 _ _ (u1 _ _ hB)
      refine ⟨p, e2, _, _, rfl, rfl, hB2, h2, Nat.le_trans (by show bvs.length + 1 ≤ 1000; omega : _ ≤ 1000) (by decide), fun bb G3 s3 h3 => ?_⟩
      have s03 := u1.trans (u2.trans s3)
      have aa : All2 (TupI G3) (bvs ++ [.ref e1]) (css ++ [[]]) := All2.snoc (All2.imp (R := TupI H1) (xs := bvs) (ys := css) ⟨lB, aB⟩ fun _ _ r => TupI.ke r (.same s03) (F := Nof)) ⟨e1, rfl, s3 _ _ (u2 _ _ h1)⟩
      refine ⟨bb, rfl, ⟨_, .of h3⟩, fun D nD => ?_⟩
      refine lc_tup (xs := bvs ++ [.ref e1]) (Pv := fun j H' => Same G3 H' ∧ H' D = some (.lst ((List.replicate j true).map V.bl))) ⟨same_new nD, upd_same⟩ (fun j H' _ z => .of (z.1 _ _ h3)) ?_ ?_
      · rintro j v H2 hv ⟨s2, hD⟩
        obtain ⟨cs, hcs, tv⟩ := aa.at hv
        have lj := (List.getElem?_eq_some_iff.mp hv).1
        rw [List.length_append, List.length_singleton] at lj
        have cc : ClS cs := by
          rcases List.mem_append.mp (List.mem_of_getElem? hcs) with z | z
          · exact ob cs z
          · rw [List.mem_singleton.mp z]
            exact ⟨(fun k hk => nomatch hk), Nat.zero_le _⟩
        have tv2 : TupI H2 v cs := tv.ke (.same s2) (F := Nof)
        refine ⟨rfl, _, rfl, v, cs, rfl, tv2, cc, fun H3 s3 => ⟨_, rfl, v, cs, rfl, tv2.ke (.same s3) (F := Nof), cc, fun H4 s4 => ⟨rfl, ?_⟩⟩⟩
        have s34 := s3.trans s4
        refine ⟨_, s34 _ _ hD, small1000 (by rw [List.length_map, List.length_replicate]; omega), same_wr (s2.trans s34) nD, ?_⟩
        rw [upd_same, List.replicate_succ', List.map_append, decide_eq_true rfl]
        rfl
      · rintro H2 ⟨s2, hD⟩
        have e : ∀ n : Nat, (List.replicate n true).all id = true := fun n => by
          rw [List.all_eq_true]
          intro x hx
          rw [List.eq_of_mem_replicate hx]
          rfl
        refine ⟨D, _, rfl, .of hD, _, rfl, ?_⟩
        rw [e]
        exact ⟨_, rfl, s03.trans s2⟩
    rintro σ' H2 ⟨y7', rfl, s2⟩
    have W2 := W.same s2
    have hb2 : Bk H2 (.ref p) css := Bk.ke ⟨p, bvs, rfl, hB, lB, aB⟩ (.same s2) (F := Nof)
    clear W hB aB s2 H1
    refine Evl.q_cut (M := fun σ' G => σ' = [some (.ref a), some (.ref f), some (.int (0 + (i : Int))), some (.ref p), some (.str (bkT css)), y5, y6, y7'] ∧ Same H2 G) ?_ ?_
    · exact ⟨_, rfl, .ref p, css, rfl, hb2, ob, by omega, fun G s => ⟨rfl, s⟩⟩
    rintro σ' H3 ⟨rfl, s3⟩
    have W3 := W2.same s3
    have hb3 := hb2.ke (.same s3) (F := Nof)
    have bk := book_back (css := css) (fun z => by rw [z] at l1; cases l1) l16 o0
    have lx := bkT_len ob (by omega)
    clear W2 hb2 s3 H2
    -- the book's text
    refine Evl.q_cut (M := fun σ' G => ∃ y7 : Option V, σ' = [some (.ref a), some (.ref f), some (.int (0 + (i : Int))), some (.ref p), some (.str (bkT css)), y5, y6, y7] ∧ Ke Nof H3 G) ?_ ?_
    · obtain ⟨p', vs, ep, hB, lB', aB⟩ := id hb3
      cases ep
      refine ⟨_, rfl, ⟨_, rfl⟩, _, rfl, p, rfl, ⟨_, .of hB⟩, fun D nD => ?_⟩
      refine lc_tup (xs := vs) (Pv := fun u H' => Same H3 H' ∧ H' D = some (.lst (((css.take u).map clT).map V.str))) ⟨same_new nD, upd_same⟩ (fun u H' _ z => .of (z.1 _ _ hB)) ?_ ?_
      · rintro u x H4 hx ⟨s4, hZ⟩
        have lu := (List.getElem?_eq_some_iff.mp hx).1
        have hc := List.getElem?_eq_getElem (show u < css.length by omega)
        generalize css[u]'(by omega) = cs at hc
        have ti := aB u x cs hx hc
        refine ⟨rfl, _, rfl, x, cs, rfl, ti.ke (.same s4) (F := Nof), ob cs (List.mem_of_getElem? hc), fun H5 s5 => ?_⟩
        refine ⟨_, s5 _ _ hZ, small1000 (by rw [List.length_map, List.length_map, List.length_take]; omega), same_wr (s4.trans s5) nD, ?_⟩
        rw [upd_same, List.take_add_one, hc, List.map_append, List.map_append]
        rfl
      · rintro H4 ⟨s4, hZ⟩
        rw [lB', List.take_length] at hZ
        refine ⟨_, D, css.map clT, rfl, rfl, .inl (.of hZ), Nat.le_trans (cls_sum ob (by omega)) (by decide), rfl, false, neq_self _, ?_⟩
        have t4 := W3.t.ke (.same s4) (F := Nof)
        refine ⟨_, rfl, bkT css, rfl, by omega, t4.1, t4.2.1, t4.2.2, fun b' cls H5 k5 td _ hb5 => ?_, fun e H5 k5 bad => (bad.told bk).elim⟩
        obtain rfl := td.one bk
        have sm := sm_bk o0 (by omega)
        have k35 : Ke Nof H3 H5 := (Ke.same s4).trans k5
        refine ⟨b', bdat cls, rfl, dp_bk hb5, sm.sh, sm.nd, Nat.le_trans sm.dp (by decide), Nat.le_trans sm.sz (by decide), ?_⟩
        refine ⟨_, rfl, .ref p, bdat cls, rfl, dp_bk (hb3.ke k35), sm.sh, sm.nd, Nat.le_trans sm.dp (by decide), Nat.le_trans sm.sz (by decide), rfl, false, neq_self _, ?_⟩
        exact ⟨_, rfl, k35⟩
    rintro σ' H4 ⟨y7, rfl, k4⟩
    have W4 := W3.ke0 k4
    have hb4 := hb3.ke k4
    clear W3 hb3 k4 H3 bk lx y7'
    -- a ladder
    refine Evl.q_cut (M := fun σ' G => ∃ (R : Addr) (rows : List Rw), σ' = [some (.ref a), some (.ref f), some (.int (0 + (i : Int))), some (.ref p), some (.str (bkT css)), some (.ref R), y6, y7] ∧ Cx2 Pc Pr Po f c (10000 * i + 1000) G ∧ RowsL G R rows ∧ RVs rows ∧ 1 ≤ rows.length ∧ rows.length ≤ 30) ?_ ?_
    · refine ⟨_, rfl, _, rfl, f, c, .ref p, css, _, rfl, W4.F, by omega, hb4, o0, l1, l16, fun t R C rows cls H5 F5 k5 _ _ _ _ hR _ L r1 r30 ht => ?_⟩
      exact ⟨t, _, 0, .ref R, rfl, rfl, .of ht, rfl, R, rows, rfl, (W4.ke k5 F5).mono (by omega), hR, L.rv l16, r1, r30⟩
    clear W4 hb4 ob o0 oc l1 l16 lB H4
    rintro σ' H1 ⟨R, rows, rfl, W, ⟨rvs, hR, aR⟩, rv, r1, r30⟩
    have bd := rv.bd (by omega)
    -- kept
    refine Evl.q_cut (M := fun σ' G => ∃ D : Addr, σ' = [some (.ref a), some (.ref f), some (.int (0 + (i : Int))), some (.ref p), some (.str (bkT css)), some (.ref R), some (.ref D), y7] ∧ Same H1 G ∧ G D = some (.lst rvs)) ?_ ?_
    · exact ⟨_, rfl, R, _, rfl, .inl (.of hR), fun D G nD s hD _ => ⟨D, rfl, s, hD⟩⟩
    rintro σ' H2 ⟨D, rfl, s2, hD⟩
    have hR2 : RowsL H2 R rows := ⟨rvs, s2 _ _ hR, aR.imp fun _ _ r => r.same s2⟩
    refine Evl.q_cut (M := fun σ' G => σ' = [some (.ref a), some (.ref f), some (.int (0 + (i : Int))), some (.ref p), some (.str (ldT rows)), some (.ref R), some (.ref D), y7] ∧ Same H2 G) ?_ ?_
    · exact ⟨_, rfl, R, rows, rfl, hR2, bd, by omega, fun G s => ⟨rfl, s⟩⟩
    rintro σ' H3 ⟨rfl, s3⟩
    have s13 := s2.trans s3
    refine Evl.q_cut (M := fun σ' G => σ' = [some (.ref a), some (.ref f), some (.int (0 + (i : Int))), some (.ref p), some (.str (ldT rows)), some (.ref R), some (.ref D), y7] ∧ Same H1 G) ?_ ?_
    · have hR3 : RowsL H3 R rows := ⟨rvs, s13 _ _ hR, aR.imp fun _ _ r => r.same s13⟩
      refine ⟨_, rfl, _, rfl, R, rows, rfl, hR3, bd, by omega, fun H4 s4 => ⟨rfl, false, neq_self _, ?_⟩⟩
      have s14 := s13.trans s4
      have aR4 : All2 (RowAt H4) rvs rows := aR.imp fun _ _ r => r.same s14
      refine ⟨_, rfl, _, rfl, .list (rows.map rdat), .list (rows.map rdat), .lst (.of (s14 _ _ hR)) (dp_rs aR4), .lst (.of (s4 _ _ (s3 _ _ hD))) (dp_rs aR4), shaped_rs rows, shaped_rs rows, false, by rw [eqv_rs]; rfl, ?_⟩
      exact ⟨_, rfl, _, rfl, R, rows, rfl, ⟨rvs, s14 _ _ hR, aR4⟩, rv, r1, by omega, fun H5 s5 => ⟨true, rfl, rfl, s14.trans s5⟩⟩
    clear hR2 hD s2 s3 s13 H2 H3
    rintro σ' H2 ⟨rfl, s2⟩
    have W2 := W.same s2
    clear W hR aR s2 rv r1 r30 bd H1
    -- drawn rows
    refine Evl.q_cut (M := fun σ' G => ∃ (R : Addr) (rows' : List Rw), σ' = [some (.ref a), some (.ref f), some (.int (0 + (i : Int))), some (.ref p), some (.str (ldT rows)), some (.ref R), some (.ref D), y7] ∧ Cx2 Pc Pr Po f c (10000 * i + 5000) G ∧ RowsL G R rows' ∧ RVs rows' ∧ 1 ≤ rows'.length ∧ rows'.length ≤ 200) ?_ ?_
    · refine ⟨_, rfl, _, rfl, f, c, 12, _, rfl, by decide, by decide, W2.F, by omega, fun d H3 d0 d1 F3 k3 => ?_⟩
      obtain ⟨n, rfl⟩ : ∃ n : Nat, d = (n : Int) := ⟨d.toNat, by omega⟩
      refine ⟨_, _, rfl, rfl, by show 2 ≤ sizeLine; decide, fun Lk G1 n1 u1 h1 _ => ?_⟩
      refine ⟨_, rfl, f, c, 8, _, rfl, by decide, by decide, F3.same u1, by omega, fun d' H4 d0' d1' F4 k4 => ?_⟩
      have nLf : Lk ≠ f := F3.nf n1
      have key : ∃ m : Nat, atI [V.int (1 + (n : Int)), V.int 200] (if decide (V.int d' = V.int 0) = true then 1 else 0) = some (.int (m : Nat)) ∧ 1 ≤ m ∧ m ≤ 200 := by
        by_cases z : d' = 0
        · subst z
          exact ⟨200, rfl, by decide, by decide⟩
        · refine ⟨1 + n, ?_, by omega, by omega⟩
          rw [decide_eq_false (fun y => z (V.int.inj y))]
          show some (V.int (1 + (n : Int))) = _
          rw [show (1 : Int) + (n : Int) = ((1 + n : Nat) : Int) by omega]
      obtain ⟨m, hm, m1, m2⟩ := key
      refine ⟨rfl, .inr ⟨_, rfl, Lk, _, _, _, rfl, rfl, .of (k4.lst h1 nLf), hm, f, c, m, _, rfl, m1, m2, F4, by omega, fun R rows' H5 F5 k5 _ hR rv r1 r2 => ?_⟩⟩
      exact ⟨R, rows', rfl, ((((W2.ke k3 F3).same u1).ke k4 F4).ke k5 F5).mono (by omega), hR, rv, r1, r2⟩
    clear W2 H2
    rintro σ' H1 ⟨R', rows', rfl, W, hR, rv, r1, r2⟩
    have bd := rv.bd (by omega)
    refine ⟨_, rfl, R', rows', rfl, hR, bd, by omega, fun H2 s2 => ?_⟩
    have hR2 : RowsL H2 R' rows' := by
      obtain ⟨vs, h, a⟩ := hR
      exact ⟨vs, s2 _ _ h, a.imp fun _ _ r => r.same s2⟩
    refine ⟨_, rfl, R', rows', rfl, hR2, rv, r1, r2, fun H3 s3 => ⟨true, rfl, ?_⟩⟩
    exact ⟨_, _, _, _, _, _, rfl, ((W.same s2).same s3).mono (by omega)⟩
end
end K80
namespace Eg
open PySem PySem.Spec PyProof.Rows L2 GxR Nw Dr Kp
/-! ### the end of a law that shows lists: defs whose code objects have tables -/
/-- what stands where a def's code object has its table -/
abbrev Own (K : PySem.W.Frag) (h : Heap) (mg : Str → Option Value) (ys : List Str) : Prop := ∀ y ∈ ys, ∀ f, mg y = some (.ref f) → LamX.OwnTab K f h
/-- what is to be known of a law at the heap h -/
def LawG (l : PySem.W.OpenLaw) (w : World) (K : PySem.W.Frag) (k m : Nat) (x : Str) (mg : Str → Option Value) (g : Addr) (h : Heap) : Prop :=
  ∃ (fd : FuncData) (cs : List (Addr × Addr)) (sp : Sp), (∀ p ∈ cs, h.get? p.2 = some (PySem.W.tabObj #[])) ∧ (∀ p ∈ cs, K.lookup p.2 = none) ∧ (∀ p ∈ cs, PySem.W.CodeHd h p.1 p.2) ∧ (∀ (s : Shared) (u : Value), BindsTo s fd ⟨[u], []⟩ [(x, u)]) ∧
    (∀ (H : Hp) (a : Addr) (ns : List Int), ns.length ≤ m → (∀ p ∈ cs, H p.2 = some (.tbl #[])) → SqL K H a (ns.map V.int) → sp [.ref a] H (fun v _ => v = .bl true) fun _ _ _ => False) ∧
    ∀ base : Heap, K.In base → base.Ns mainGlobals mg → (∀ p ∈ cs, LamX.TabB base mg p.1 p.2) → Gd.FnG l.prog w K mg base k g fd [x] sp
theorem walk_own {l : PySem.W.OpenLaw} {m k : Nat} {pr : Program} {ls : List Str} {XP : (Str → Option Value) → Heap → Prop} {YP : World → Heap → Prop} {d : DefRec} {K : Params → PySem.W.Frag} {x : Str} (ys : List Str)
    (e1 : l.most = some m) (e2 : m ≤ sizeLine) (e3 : d.params.defaults = []) (room : Room k callerA) (named : ∀ y ∈ ys, ((recsOf pr).any fun e => e.name == y) = true) (inK : ∀ (w : World) (h : Heap), YP w h → (K w.params).In h)
    (go : ∀ (w : World) (mg : Str → Option Value) (g : Addr) (h : Heap), YP w h → (K w.params).In h → h.Ns mainGlobals mg → mg d.name = some (.ref g) → Own (K w.params) h mg ys → LawG l w (K w.params) k m x mg g h) :
    PySem.W.WalkO pr ls XP YP l.row.toRowW d [] (fun f vs => PySem.call f vs) := by
  refine Att.attach_callB e1 e3 fun w s0 s1 mg mb fa o pm cd doc a us ns G Y ho hd hcd hmg hobj hints hlen hbits hg => ?_
  have inH := inK w _ Y
  have tabs : Own (K w.params) s1.heap mg ys := fun y hy f hf c P ob fd e dd vs sl q1 q2 q3 q4 q5 => by
    obtain ⟨r, hr1, hr2⟩ := List.any_eq_true.mp (named y hy)
    obtain ⟨f', ob', fd', c', P', t1, t2, t3, t4, t5, ⟨⟨oc, vc, u1, _, u3, u4⟩, u5⟩⟩ := G.T.tab r hr1
    rw [show r.name = y from beq_iff_eq.mp hr2, hf] at t1
    cases t1
    rw [inH _ _ q1] at t2
    cases t2
    rw [q2] at t3
    cases t3
    rw [q3] at t4
    cases t4
    rw [inH _ _ q4] at u1
    cases u1
    cases u3
    rw [q5] at u4
    cases u4
    exact u5
  obtain ⟨fd, cs, sp, h1, h2, h3, h4, h5, h6⟩ := go w mg fa _ Y inH G.T.g hmg tabs
  exact Gd.law_at inH G.T.g G.T.b G.T.builtins G.T.nolimit hg h1 h2 h3 G.T.bmain hobj hints (Nat.le_trans hlen e2) room h6 h4 fun H z1 z2 => h5 H a ns hlen z1 z2
end Eg
namespace Cf
open PySem PySem.Spec PyProof.Rows L2
/-! ### classes of the program: isinstance, except -/
theorem cls_s {K : PySem.W.Frag} {C : Addr} (h : PySem.W.isClsIn K C = true) : (PySem.W.clsIn K C).isSome = true := h
theorem kit_cls {K : PySem.W.Frag} {t : Value} {D : Addr} {b : Bool} (h1 : (PySem.W.clsIn K D).isSome = true) (h2 : PySem.W.typeIn K (.ref D) = some (.type "type")) (h : PySem.W.subIn K t (.ref D) = some b) : PySem.W.kitCls K t (.ref D) = some b := by
  have e : ((PySem.W.clsIn K D).isSome && PySem.W.typeIn K (.ref D) == some (.type "type")) = true := by
    rw [h1, h2]
    rfl
  show (if ((PySem.W.clsIn K D).isSome && PySem.W.typeIn K (.ref D) == some (.type "type")) = true then PySem.W.subIn K t (.ref D) else none) = some b
  rw [if_pos e, h]
theorem kit_t {K : PySem.W.Frag} {t : Value} {D : Addr} (h1 : (PySem.W.clsIn K D).isSome = true) (h2 : PySem.W.typeIn K (.ref D) = some (.type "type")) (h : PySem.W.subIn K t (.ref D) = some true) : PySem.W.kitOne K t (.ref D) = some true := by
  unfold PySem.W.kitOne
  split
  · rfl
  · exact kit_cls h1 h2 h
theorem kit_f {K : PySem.W.Frag} {C D : Addr} (h1 : (PySem.W.clsIn K D).isSome = true) (h2 : PySem.W.typeIn K (.ref D) = some (.type "type")) (h : PySem.W.subIn K (.ref C) (.ref D) = some false) (hs : PySem.W.subIn K (.ref C) (.ref C) = some true) : PySem.W.kitOne K (.ref C) (.ref D) = some false := by
  unfold PySem.W.kitOne
  split
  · rename_i e
    have z : C = D := Value.ref.inj (beq_iff_eq.mp e)
    subst z
    rw [h] at hs
    cases hs
  · exact kit_cls h1 h2 h
theorem kit_v {K : PySem.W.Frag} {C : Addr} (h : PySem.W.subIn K (.ref C) (.type "ValueError") = some true) : PySem.W.kitOne K (.ref C) (.type "ValueError") = some true := by
  unfold PySem.W.kitOne
  split
  · rfl
  · show (if PySem.W.kitMeta "ValueError" = true then PySem.W.subIn K (.ref C) (.type "ValueError") else none) = some true
    rw [if_pos (by decide +kernel), h]
theorem exm_t {K : PySem.W.Frag} {t : Value} {D : Addr} (hb : PySem.W.subIn K (.ref D) (.type "BaseException") = some true) (h1 : (PySem.W.clsIn K D).isSome = true) (h2 : PySem.W.typeIn K (.ref D) = some (.type "type")) (h : PySem.W.subIn K t (.ref D) = some true) : PySem.W.exmOne K t (.ref D) = some true := by
  unfold PySem.W.exmOne
  rw [hb, if_pos (by decide)]
  exact kit_cls h1 h2 h
end Cf
namespace K80
open PySem PySem.Spec PyProof.Rows L2 GxR Nw Dr Kp Ev1 Rk Od Tw Kc Tc Se Eg
theorem all_mk {l : PySem.W.OpenLaw} {w : World} {K : PySem.W.Frag} {h : Heap} {mg : Str → Option Value} {top : Addr} (X : K.In h) (G : h.Ns mainGlobals mg) (htop : mg "law" = some (.ref top)) (ow : Own K h mg ["is_rising", "has_opposites", "is_claim"]) {fM fD fO dc db dw dn dq dr dv dx ds di pw pa pn pb pf pr pl pz pc pk pd ps pt pu pv_ qw qs gR gO gI fL cR PR cO PO cI PI  c6 g6 : Addr}
    {od_fM an_fM : Option Addr} {sl_fM : Array (Option Value)} {oc_fM kV_fM dc_fM pm_fM ct_fM : Value} {cd_fM : Value} {od_fD an_fD : Option Addr} {sl_fD : Array (Option Value)} {oc_fD kV_fD dc_fD pm_fD ct_fD : Value} {cd_fD : Value} {od_fO an_fO : Option Addr} {sl_fO : Array (Option Value)} {oc_fO kV_fO dc_fO pm_fO ct_fO : Value} {cd_fO : Value} {od_dc an_dc : Option Addr} {sl_dc : Array (Option Value)} {oc_dc kV_dc dc_dc pm_dc ct_dc : Value} {cd_dc : Value} {od_db an_db : Option Addr} {sl_db : Array (Option Value)} {oc_db kV_db dc_db pm_db ct_db : Value} {cd_db : Value} {od_dw an_dw : Option Addr} {sl_dw : Array (Option Value)} {oc_dw kV_dw dc_dw pm_dw ct_dw : Value} {cd_dw : Value} {od_dn an_dn : Option Addr} {sl_dn : Array (Option Value)} {oc_dn kV_dn dc_dn pm_dn ct_dn : Value} {cd_dn : Value} {od_dq an_dq : Option Addr} {sl_dq : Array (Option Value)} {oc_dq kV_dq dc_dq pm_dq ct_dq : Value} {cd_dq : Value} {od_dr an_dr : Option Addr} {sl_dr : Array (Option Value)} {oc_dr kV_dr dc_dr pm_dr ct_dr : Value} {cd_dr : Value} {od_dv an_dv : Option Addr} {sl_dv : Array (Option Value)} {oc_dv kV_dv dc_dv pm_dv ct_dv : Value} {cd_dv : Value} {od_dx an_dx : Option Addr} {sl_dx : Array (Option Value)} {oc_dx kV_dx dc_dx pm_dx ct_dx : Value} {cd_dx : Value} {od_ds an_ds : Option Addr} {sl_ds : Array (Option Value)} {oc_ds kV_ds dc_ds pm_ds ct_ds : Value} {cd_ds : Value} {od_di an_di : Option Addr} {sl_di : Array (Option Value)} {oc_di kV_di dc_di pm_di ct_di : Value} {cd_di : Value} {od_pw an_pw : Option Addr} {sl_pw : Array (Option Value)} {oc_pw kV_pw dc_pw pm_pw ct_pw : Value} {cd_pw : Value} {od_pa an_pa : Option Addr} {sl_pa : Array (Option Value)} {oc_pa kV_pa dc_pa pm_pa ct_pa : Value} {cd_pa : Value} {od_pn an_pn : Option Addr} {sl_pn : Array (Option Value)} {oc_pn kV_pn dc_pn pm_pn ct_pn : Value} {cd_pn : Value} {od_pb an_pb : Option Addr} {sl_pb : Array (Option Value)} {oc_pb kV_pb dc_pb pm_pb ct_pb : Value} {cd_pb : Value} {od_pf an_pf : Option Addr} {sl_pf : Array (Option Value)} {oc_pf kV_pf dc_pf pm_pf ct_pf : Value} {cd_pf : Value} {od_pr an_pr : Option Addr} {sl_pr : Array (Option Value)} {oc_pr kV_pr dc_pr pm_pr ct_pr : Value} {cd_pr : Value} {od_pl an_pl : Option Addr} {sl_pl : Array (Option Value)} {oc_pl kV_pl dc_pl pm_pl ct_pl : Value} {cd_pl : Value} {od_pz an_pz : Option Addr} {sl_pz : Array (Option Value)} {oc_pz kV_pz dc_pz pm_pz ct_pz : Value} {cd_pz : Value} {od_pc an_pc : Option Addr} {sl_pc : Array (Option Value)} {oc_pc kV_pc dc_pc pm_pc ct_pc : Value} {cd_pc : Value} {od_pk an_pk : Option Addr} {sl_pk : Array (Option Value)} {oc_pk kV_pk dc_pk pm_pk ct_pk : Value} {cd_pk : Value} {od_pd an_pd : Option Addr} {sl_pd : Array (Option Value)} {oc_pd kV_pd dc_pd pm_pd ct_pd : Value} {cd_pd : Value} {od_ps an_ps : Option Addr} {sl_ps : Array (Option Value)} {oc_ps kV_ps dc_ps pm_ps ct_ps : Value} {cd_ps : Value} {od_pt an_pt : Option Addr} {sl_pt : Array (Option Value)} {oc_pt kV_pt dc_pt pm_pt ct_pt : Value} {cd_pt : Value} {od_pu an_pu : Option Addr} {sl_pu : Array (Option Value)} {oc_pu kV_pu dc_pu pm_pu ct_pu : Value} {cd_pu : Value} {od_pv_ an_pv_ : Option Addr} {sl_pv_ : Array (Option Value)} {oc_pv_ kV_pv_ dc_pv_ pm_pv_ ct_pv_ : Value} {cd_pv_ : Value} {od_qw an_qw : Option Addr} {sl_qw : Array (Option Value)} {oc_qw kV_qw dc_qw pm_qw ct_qw : Value} {cd_qw : Value} {od_qs an_qs : Option Addr} {sl_qs : Array (Option Value)} {oc_qs kV_qs dc_qs pm_qs ct_qs : Value} {cd_qs : Value} {od_gR an_gR : Option Addr} {sl_gR : Array (Option Value)} {oc_gR kV_gR dc_gR pm_gR ct_gR : Value} {od_gO an_gO : Option Addr} {sl_gO : Array (Option Value)} {oc_gO kV_gO dc_gO pm_gO ct_gO : Value} {od_gI an_gI : Option Addr} {sl_gI : Array (Option Value)} {oc_gI kV_gI dc_gI pm_gI ct_gI : Value} {od_fL an_fL : Option Addr} {sl_fL : Array (Option Value)} {oc_fL kV_fL dc_fL pm_fL ct_fL : Value} {cd_fL : Value} {e_R : Value} {dd_R : Option Addr} {vs_R : Array Value} {sf_R : Array (Option Value)} {e_O : Value} {dd_O : Option Addr} {vs_O : Array Value} {sf_O : Array (Option Value)} {e_I : Value} {dd_I : Option Addr} {vs_I : Array Value} {sf_I : Array (Option Value)} {tk_MOST_THINGS : Tok} {tk_MOST_CLAIMS : Tok} {tk_MOST_ROWS : Tok} {tk_MOST_FIGURES : Tok} {nm6 q6 : Str} {N6 : Addr} {bs6 bm6 : List Value} {sn6 : List Str} {sub6 : List Value} {ab6 : Bool} {col6 : Option Bool} {dd6 : Option Addr} {m06 m16 m26 m36 m56 : Option Value} {od_g6 an_g6 : Option Addr} {sl_g6 : Array (Option Value)} {oc_g6 kV_g6 dc_g6 pm_g6 cd_g6 ct_g6 : Value}
    (b_fM : PySem.W.nsIn K mainGlobals "_law_e_fresh" = some (some (.ref fM)))
    (l_fM : K.lookup fM = some ⟨oc_fM, od_fM, .func (PySem.W.fnOf "_law_e_fresh" "_law_e_fresh" (defArgs sFre) (defBody sFre) (defScope sFre) .none kV_fM dc_fM pm_fM an_fM cd_fM ct_fM), sl_fM⟩)
    (c_fM : PySem.W.codeIn K cd_fM "_law_e_fresh" = true)
    (k_fM : PySem.W.keepIn K (.ref fM) = true)
    (b_fD : PySem.W.nsIn K mainGlobals "_law_e_take" = some (some (.ref fD)))
    (l_fD : K.lookup fD = some ⟨oc_fD, od_fD, .func (PySem.W.fnOf "_law_e_take" "_law_e_take" (defArgs sDrw) (defBody sDrw) (defScope sDrw) .none kV_fD dc_fD pm_fD an_fD cd_fD ct_fD), sl_fD⟩)
    (c_fD : PySem.W.codeIn K cd_fD "_law_e_take" = true)
    (k_fD : PySem.W.keepIn K (.ref fD) = true)
    (b_fO : PySem.W.nsIn K mainGlobals "_law_e_pen" = some (some (.ref fO)))
    (l_fO : K.lookup fO = some ⟨oc_fO, od_fO, .func (PySem.W.fnOf "_law_e_pen" "_law_e_pen" (defArgs sOpn) (defBody sOpn) (defScope sOpn) .none kV_fO dc_fO pm_fO an_fO cd_fO ct_fO), sl_fO⟩)
    (c_fO : PySem.W.codeIn K cd_fO "_law_e_pen" = true)
    (k_fO : PySem.W.keepIn K (.ref fO) = true)
    (b_dc : PySem.W.nsIn K mainGlobals "_law_e_claim" = some (some (.ref dc)))
    (l_dc : K.lookup dc = some ⟨oc_dc, od_dc, .func (PySem.W.fnOf "_law_e_claim" "_law_e_claim" (defArgs Cl.sClm) (defBody Cl.sClm) (defScope Cl.sClm) .none kV_dc dc_dc pm_dc an_dc cd_dc ct_dc), sl_dc⟩)
    (c_dc : PySem.W.codeIn K cd_dc "_law_e_claim" = true)
    (k_dc : PySem.W.keepIn K (.ref dc) = true)
    (b_db : PySem.W.nsIn K mainGlobals "_law_e_book" = some (some (.ref db)))
    (l_db : K.lookup db = some ⟨oc_db, od_db, .func (PySem.W.fnOf "_law_e_book" "_law_e_book" (defArgs Cl.sBok) (defBody Cl.sBok) (defScope Cl.sBok) .none kV_db dc_db pm_db an_db cd_db ct_db), sl_db⟩)
    (c_db : PySem.W.codeIn K cd_db "_law_e_book" = true)
    (k_db : PySem.W.keepIn K (.ref db) = true)
    (b_dw : PySem.W.nsIn K mainGlobals "_law_e_whole" = some (some (.ref dw)))
    (l_dw : K.lookup dw = some ⟨oc_dw, od_dw, .func (PySem.W.fnOf "_law_e_whole" "_law_e_whole" (defArgs Tc.sWho) (defBody Tc.sWho) (defScope Tc.sWho) .none kV_dw dc_dw pm_dw an_dw cd_dw ct_dw), sl_dw⟩)
    (c_dw : PySem.W.codeIn K cd_dw "_law_e_whole" = true)
    (k_dw : PySem.W.keepIn K (.ref dw) = true)
    (b_dn : PySem.W.nsIn K mainGlobals "_law_e_is_number" = some (some (.ref dn)))
    (l_dn : K.lookup dn = some ⟨oc_dn, od_dn, .func (PySem.W.fnOf "_law_e_is_number" "_law_e_is_number" (defArgs Tc.sIsn) (defBody Tc.sIsn) (defScope Tc.sIsn) .none kV_dn dc_dn pm_dn an_dn cd_dn ct_dn), sl_dn⟩)
    (c_dn : PySem.W.codeIn K cd_dn "_law_e_is_number" = true)
    (k_dn : PySem.W.keepIn K (.ref dn) = true)
    (b_dq : PySem.W.nsIn K mainGlobals "_law_e_row_claim" = some (some (.ref dq)))
    (l_dq : K.lookup dq = some ⟨oc_dq, od_dq, .func (PySem.W.fnOf "_law_e_row_claim" "_law_e_row_claim" (defArgs Tc.sRcl) (defBody Tc.sRcl) (defScope Tc.sRcl) .none kV_dq dc_dq pm_dq an_dq cd_dq ct_dq), sl_dq⟩)
    (c_dq : PySem.W.codeIn K cd_dq "_law_e_row_claim" = true)
    (k_dq : PySem.W.keepIn K (.ref dq) = true)
    (b_dr : PySem.W.nsIn K mainGlobals "_law_e_rows" = some (some (.ref dr)))
    (l_dr : K.lookup dr = some ⟨oc_dr, od_dr, .func (PySem.W.fnOf "_law_e_rows" "_law_e_rows" (defArgs Tc.sErw) (defBody Tc.sErw) (defScope Tc.sErw) .none kV_dr dc_dr pm_dr an_dr cd_dr ct_dr), sl_dr⟩)
    (c_dr : PySem.W.codeIn K cd_dr "_law_e_rows" = true)
    (k_dr : PySem.W.keepIn K (.ref dr) = true)
    (b_dv : PySem.W.nsIn K mainGlobals "_law_e_drawn_rows" = some (some (.ref dv)))
    (l_dv : K.lookup dv = some ⟨oc_dv, od_dv, .func (PySem.W.fnOf "_law_e_drawn_rows" "_law_e_drawn_rows" (defArgs sDro) (defBody sDro) (defScope sDro) .none kV_dv dc_dv pm_dv an_dv cd_dv ct_dv), sl_dv⟩)
    (c_dv : PySem.W.codeIn K cd_dv "_law_e_drawn_rows" = true)
    (k_dv : PySem.W.keepIn K (.ref dv) = true)
    (b_dx : PySem.W.nsIn K mainGlobals "_law_e_rows_text" = some (some (.ref dx)))
    (l_dx : K.lookup dx = some ⟨oc_dx, od_dx, .func (PySem.W.fnOf "_law_e_rows_text" "_law_e_rows_text" (defArgs Tc.sRtx) (defBody Tc.sRtx) (defScope Tc.sRtx) .none kV_dx dc_dx pm_dx an_dx cd_dx ct_dx), sl_dx⟩)
    (c_dx : PySem.W.codeIn K cd_dx "_law_e_rows_text" = true)
    (k_dx : PySem.W.keepIn K (.ref dx) = true)
    (b_ds : PySem.W.nsIn K mainGlobals "_law_e_words" = some (some (.ref ds)))
    (l_ds : K.lookup ds = some ⟨oc_ds, od_ds, .func (PySem.W.fnOf "_law_e_words" "_law_e_words" (defArgs Tc.sWds) (defBody Tc.sWds) (defScope Tc.sWds) .none kV_ds dc_ds pm_ds an_ds cd_ds ct_ds), sl_ds⟩)
    (c_ds : PySem.W.codeIn K cd_ds "_law_e_words" = true)
    (k_ds : PySem.W.keepIn K (.ref ds) = true)
    (b_di : PySem.W.nsIn K mainGlobals "_law_e_read_right" = some (some (.ref di)))
    (l_di : K.lookup di = some ⟨oc_di, od_di, .func (PySem.W.fnOf "_law_e_read_right" "_law_e_read_right" (defArgs Tc.sRri) (defBody Tc.sRri) (defScope Tc.sRri) .none kV_di dc_di pm_di an_di cd_di ct_di), sl_di⟩)
    (c_di : PySem.W.codeIn K cd_di "_law_e_read_right" = true)
    (k_di : PySem.W.keepIn K (.ref di) = true)
    (b_pw : PySem.W.nsIn K mainGlobals "words_of" = some (some (.ref pw)))
    (l_pw : K.lookup pw = some ⟨oc_pw, od_pw, .func (PySem.W.fnOf "words_of" "words_of" (defArgs sWof) (defBody sWof) (defScope sWof) .none kV_pw dc_pw pm_pw an_pw cd_pw ct_pw), sl_pw⟩)
    (c_pw : PySem.W.codeIn K cd_pw "words_of" = true)
    (k_pw : PySem.W.keepIn K (.ref pw) = true)
    (b_pa : PySem.W.nsIn K mainGlobals "word_at" = some (some (.ref pa)))
    (l_pa : K.lookup pa = some ⟨oc_pa, od_pa, .func (PySem.W.fnOf "word_at" "word_at" (defArgs sWat) (defBody sWat) (defScope sWat) .none kV_pa dc_pa pm_pa an_pa cd_pa ct_pa), sl_pa⟩)
    (c_pa : PySem.W.codeIn K cd_pa "word_at" = true)
    (k_pa : PySem.W.keepIn K (.ref pa) = true)
    (b_pn : PySem.W.nsIn K mainGlobals "number_or_none" = some (some (.ref pn)))
    (l_pn : K.lookup pn = some ⟨oc_pn, od_pn, .func (PySem.W.fnOf "number_or_none" "number_or_none" (defArgs sNon) (defBody sNon) (defScope sNon) .none kV_pn dc_pn pm_pn an_pn cd_pn ct_pn), sl_pn⟩)
    (c_pn : PySem.W.codeIn K cd_pn "number_or_none" = true)
    (k_pn : PySem.W.keepIn K (.ref pn) = true)
    (b_pb : PySem.W.nsIn K mainGlobals "behind_stroke" = some (some (.ref pb)))
    (l_pb : K.lookup pb = some ⟨oc_pb, od_pb, .func (PySem.W.fnOf "behind_stroke" "behind_stroke" (defArgs sBst) (defBody sBst) (defScope sBst) .none kV_pb dc_pb pm_pb an_pb cd_pb ct_pb), sl_pb⟩)
    (c_pb : PySem.W.codeIn K cd_pb "behind_stroke" = true)
    (k_pb : PySem.W.keepIn K (.ref pb) = true)
    (b_pf : PySem.W.nsIn K mainGlobals "number_from" = some (some (.ref pf)))
    (l_pf : K.lookup pf = some ⟨oc_pf, od_pf, .func (PySem.W.fnOf "number_from" "number_from" (defArgs sNfr) (defBody sNfr) (defScope sNfr) .none kV_pf dc_pf pm_pf an_pf cd_pf ct_pf), sl_pf⟩)
    (c_pf : PySem.W.codeIn K cd_pf "number_from" = true)
    (k_pf : PySem.W.keepIn K (.ref pf) = true)
    (b_pr : PySem.W.nsIn K mainGlobals "row_from" = some (some (.ref pr)))
    (l_pr : K.lookup pr = some ⟨oc_pr, od_pr, .func (PySem.W.fnOf "row_from" "row_from" (defArgs sRfr) (defBody sRfr) (defScope sRfr) .none kV_pr dc_pr pm_pr an_pr cd_pr ct_pr), sl_pr⟩)
    (c_pr : PySem.W.codeIn K cd_pr "row_from" = true)
    (k_pr : PySem.W.keepIn K (.ref pr) = true)
    (b_pl : PySem.W.nsIn K mainGlobals "ladder_from" = some (some (.ref pl)))
    (l_pl : K.lookup pl = some ⟨oc_pl, od_pl, .func (PySem.W.fnOf "ladder_from" "ladder_from" (defArgs sLfr) (defBody sLfr) (defScope sLfr) .none kV_pl dc_pl pm_pl an_pl cd_pl ct_pl), sl_pl⟩)
    (c_pl : PySem.W.codeIn K cd_pl "ladder_from" = true)
    (k_pl : PySem.W.keepIn K (.ref pl) = true)
    (b_pz : PySem.W.nsIn K mainGlobals "read_ladder" = some (some (.ref pz)))
    (l_pz : K.lookup pz = some ⟨oc_pz, od_pz, .func (PySem.W.fnOf "read_ladder" "read_ladder" (defArgs sRla) (defBody sRla) (defScope sRla) .none kV_pz dc_pz pm_pz an_pz cd_pz ct_pz), sl_pz⟩)
    (c_pz : PySem.W.codeIn K cd_pz "read_ladder" = true)
    (k_pz : PySem.W.keepIn K (.ref pz) = true)
    (b_pc : PySem.W.nsIn K mainGlobals "claim_from" = some (some (.ref pc)))
    (l_pc : K.lookup pc = some ⟨oc_pc, od_pc, .func (PySem.W.fnOf "claim_from" "claim_from" (defArgs sClf) (defBody sClf) (defScope sClf) .none kV_pc dc_pc pm_pc an_pc cd_pc ct_pc), sl_pc⟩)
    (c_pc : PySem.W.codeIn K cd_pc "claim_from" = true)
    (k_pc : PySem.W.keepIn K (.ref pc) = true)
    (b_pk : PySem.W.nsIn K mainGlobals "book_from" = some (some (.ref pk)))
    (l_pk : K.lookup pk = some ⟨oc_pk, od_pk, .func (PySem.W.fnOf "book_from" "book_from" (defArgs sBkf) (defBody sBkf) (defScope sBkf) .none kV_pk dc_pk pm_pk an_pk cd_pk ct_pk), sl_pk⟩)
    (c_pk : PySem.W.codeIn K cd_pk "book_from" = true)
    (k_pk : PySem.W.keepIn K (.ref pk) = true)
    (b_pd : PySem.W.nsIn K mainGlobals "read_book" = some (some (.ref pd)))
    (l_pd : K.lookup pd = some ⟨oc_pd, od_pd, .func (PySem.W.fnOf "read_book" "read_book" (defArgs sRbk) (defBody sRbk) (defScope sRbk) .none kV_pd dc_pd pm_pd an_pd cd_pd ct_pd), sl_pd⟩)
    (c_pd : PySem.W.codeIn K cd_pd "read_book" = true)
    (k_pd : PySem.W.keepIn K (.ref pd) = true)
    (b_ps : PySem.W.nsIn K mainGlobals "show_claim" = some (some (.ref ps)))
    (l_ps : K.lookup ps = some ⟨oc_ps, od_ps, .func (PySem.W.fnOf "show_claim" "show_claim" (defArgs sShc) (defBody sShc) (defScope sShc) .none kV_ps dc_ps pm_ps an_ps cd_ps ct_ps), sl_ps⟩)
    (c_ps : PySem.W.codeIn K cd_ps "show_claim" = true)
    (k_ps : PySem.W.keepIn K (.ref ps) = true)
    (b_pt : PySem.W.nsIn K mainGlobals "show_book" = some (some (.ref pt)))
    (l_pt : K.lookup pt = some ⟨oc_pt, od_pt, .func (PySem.W.fnOf "show_book" "show_book" (defArgs sShb) (defBody sShb) (defScope sShb) .none kV_pt dc_pt pm_pt an_pt cd_pt ct_pt), sl_pt⟩)
    (c_pt : PySem.W.codeIn K cd_pt "show_book" = true)
    (k_pt : PySem.W.keepIn K (.ref pt) = true)
    (b_pu : PySem.W.nsIn K mainGlobals "show_row" = some (some (.ref pu)))
    (l_pu : K.lookup pu = some ⟨oc_pu, od_pu, .func (PySem.W.fnOf "show_row" "show_row" (defArgs Tc.sShr) (defBody Tc.sShr) (defScope Tc.sShr) .none kV_pu dc_pu pm_pu an_pu cd_pu ct_pu), sl_pu⟩)
    (c_pu : PySem.W.codeIn K cd_pu "show_row" = true)
    (k_pu : PySem.W.keepIn K (.ref pu) = true)
    (b_pv_ : PySem.W.nsIn K mainGlobals "show_ladder" = some (some (.ref pv_)))
    (l_pv_ : K.lookup pv_ = some ⟨oc_pv_, od_pv_, .func (PySem.W.fnOf "show_ladder" "show_ladder" (defArgs Tc.sShl) (defBody Tc.sShl) (defScope Tc.sShl) .none kV_pv_ dc_pv_ pm_pv_ an_pv_ cd_pv_ ct_pv_), sl_pv_⟩)
    (c_pv_ : PySem.W.codeIn K cd_pv_ "show_ladder" = true)
    (k_pv_ : PySem.W.keepIn K (.ref pv_) = true)
    (b_qw : PySem.W.nsIn K mainGlobals "is_whole" = some (some (.ref qw)))
    (l_qw : K.lookup qw = some ⟨oc_qw, od_qw, .func (PySem.W.fnOf "is_whole" "is_whole" (defArgs sWhp) (defBody sWhp) (defScope sWhp) .none kV_qw dc_qw pm_qw an_qw cd_qw ct_qw), sl_qw⟩)
    (c_qw : PySem.W.codeIn K cd_qw "is_whole" = true)
    (k_qw : PySem.W.keepIn K (.ref qw) = true)
    (b_qs : PySem.W.nsIn K mainGlobals "is_say" = some (some (.ref qs)))
    (l_qs : K.lookup qs = some ⟨oc_qs, od_qs, .func (PySem.W.fnOf "is_say" "is_say" (defArgs sSay) (defBody sSay) (defScope sSay) .none kV_qs dc_qs pm_qs an_qs cd_qs ct_qs), sl_qs⟩)
    (c_qs : PySem.W.codeIn K cd_qs "is_say" = true)
    (k_qs : PySem.W.keepIn K (.ref qs) = true)
    (b_gR : PySem.W.nsIn K mainGlobals "is_rising" = some (some (.ref gR)))
    (l_gR : K.lookup gR = some ⟨oc_gR, od_gR, .func (PySem.W.fnOf "is_rising" "is_rising" (defArgs sRis) (defBody sRis) (defScope sRis) .none kV_gR dc_gR pm_gR an_gR (.ref cR) ct_gR), sl_gR⟩)
    (c_gR : PySem.W.codeIn K (.ref cR) "is_rising" = true)
    (k_gR : PySem.W.keepIn K (.ref gR) = true)
    (b_gO : PySem.W.nsIn K mainGlobals "has_opposites" = some (some (.ref gO)))
    (l_gO : K.lookup gO = some ⟨oc_gO, od_gO, .func (PySem.W.fnOf "has_opposites" "has_opposites" (defArgs sHop) (defBody sHop) (defScope sHop) .none kV_gO dc_gO pm_gO an_gO (.ref cO) ct_gO), sl_gO⟩)
    (c_gO : PySem.W.codeIn K (.ref cO) "has_opposites" = true)
    (k_gO : PySem.W.keepIn K (.ref gO) = true)
    (b_gI : PySem.W.nsIn K mainGlobals "is_claim" = some (some (.ref gI)))
    (l_gI : K.lookup gI = some ⟨oc_gI, od_gI, .func (PySem.W.fnOf "is_claim" "is_claim" (defArgs sIcl) (defBody sIcl) (defScope sIcl) .none kV_gI dc_gI pm_gI an_gI (.ref cI) ct_gI), sl_gI⟩)
    (c_gI : PySem.W.codeIn K (.ref cI) "is_claim" = true)
    (k_gI : PySem.W.keepIn K (.ref gI) = true)
    (b_fL : PySem.W.nsIn K mainGlobals "law" = some (some (.ref fL)))
    (l_fL : K.lookup fL = some ⟨oc_fL, od_fL, .func (PySem.W.fnOf "law" "law" (defArgs sLaw) (defBody sLaw) (defScope sLaw) .none kV_fL dc_fL pm_fL an_fL cd_fL ct_fL), sl_fL⟩)
    (c_fL : PySem.W.codeIn K cd_fL "law" = true)
    (k_fL : PySem.W.keepIn K (.ref fL) = true)
    (lc_R : K.lookup cR = some ⟨e_R, dd_R, .fields vs_R, sf_R⟩)
    (v_R : vs_R[11]? = some (Value.ref PR))
    (hd_R : PySem.W.codeHdIn K cR PR = true)
    (np_R : K.lookup PR = none)
    (lc_O : K.lookup cO = some ⟨e_O, dd_O, .fields vs_O, sf_O⟩)
    (v_O : vs_O[11]? = some (Value.ref PO))
    (hd_O : PySem.W.codeHdIn K cO PO = true)
    (np_O : K.lookup PO = none)
    (lc_I : K.lookup cI = some ⟨e_I, dd_I, .fields vs_I, sf_I⟩)
    (v_I : vs_I[11]? = some (Value.ref PI))
    (hd_I : PySem.W.codeHdIn K cI PI = true)
    (np_I : K.lookup PI = none)
    (b_MOST_THINGS : PySem.W.nsIn K mainGlobals "MOST_THINGS" = some (some (.int 8 tk_MOST_THINGS)))
    (b_MOST_CLAIMS : PySem.W.nsIn K mainGlobals "MOST_CLAIMS" = some (some (.int 16 tk_MOST_CLAIMS)))
    (b_MOST_ROWS : PySem.W.nsIn K mainGlobals "MOST_ROWS" = some (some (.int 200 tk_MOST_ROWS)))
    (b_MOST_FIGURES : PySem.W.nsIn K mainGlobals "MOST_FIGURES" = some (some (.int 3 tk_MOST_FIGURES)))
    (z_range : PySem.W.nsIn K mainGlobals "range" = some none)
    (z_isinstance : PySem.W.nsIn K mainGlobals "isinstance" = some none)
    (z_len : PySem.W.nsIn K mainGlobals "len" = some none)
    (z_list : PySem.W.nsIn K mainGlobals "list" = some none)
    (z_tuple : PySem.W.nsIn K mainGlobals "tuple" = some none)
    (z_all : PySem.W.nsIn K mainGlobals "all" = some none)
    (z_any : PySem.W.nsIn K mainGlobals "any" = some none)
    (z_zip : PySem.W.nsIn K mainGlobals "zip" = some none)
    (z_int : PySem.W.nsIn K mainGlobals "int" = some none)
    (z_bool : PySem.W.nsIn K mainGlobals "bool" = some none)
    (z_str : PySem.W.nsIn K mainGlobals "str" = some none)
    (z_repr : PySem.W.nsIn K mainGlobals "repr" = some none)
    (z_min : PySem.W.nsIn K mainGlobals "min" = some none)
    (z_sorted : PySem.W.nsIn K mainGlobals "sorted" = some none)
    (z_abs : PySem.W.nsIn K mainGlobals "abs" = some none)
    (a6 : PySem.W.nsIn K mainGlobals "NoText" = some (some (.ref c6)))
    (hg6 : PySem.W.findIn K (.ref c6) "__getattribute__" = some (some (.builtin "BaseException.__getattribute__")))
    (hk6 : PySem.W.findIn K (.ref c6) "__getattr__" = some none)
    (hs6 : PySem.W.subIn K (.ref c6) (.type "BaseException") = some true)
    (hd6 : PySem.W.hasDictIn K c6 = true)
    (ty6 : PySem.W.typeIn K (.ref c6) = some (.type "type"))
    (lc6 : PySem.W.isClsIn K c6 = true)
    (s66 : PySem.W.subIn K (.ref c6) (.ref c6) = some true)
    (kp6 : PySem.W.keepIn K (.ref c6) = true)
    (x6 : K.lookup c6 = some (excClassObj nm6 q6 c6 N6 bs6 bm6 true sn6 sub6 ab6 col6 dd6 m06 m16 m26 m36 m56 "ValueError.__new__"))
    (rv6 : PySem.HandSPX.refsVE bm6 = true)
    (sa6 : PySem.W.findIn K (.ref c6) "__setattr__" = some (some (.builtin "object.__setattr__")))
    (na6 : PySem.W.findIn K (.ref c6) "at" = some none)
    (in6 : PySem.W.findIn K (.ref c6) "__init__" = some (some (.ref g6)))
    (tf6 : PySem.W.typeIn K (.ref g6) = some (.type "function"))
    (l_g6 : K.lookup g6 = some ⟨oc_g6, od_g6, .func (PySem.W.fnOf "__init__" "NoText.__init__" (defArgs Tw.sIn1) (defBody Tw.sIn1) (defScope Tw.sIn1) .none kV_g6 dc_g6 pm_g6 an_g6 cd_g6 ct_g6), sl_g6⟩)
    (c_g6 : PySem.W.codeIn K cd_g6 "NoText.__init__" = true)
    (k_g6 : PySem.W.keepIn K (.ref g6) = true)
    {tk_ST : Tok} (b_ST : PySem.W.nsIn K mainGlobals "STROKE" = some (some (.str "/" tk_ST)))
    {tk_NS : Tok} (b_NS : PySem.W.nsIn K mainGlobals "NO_SAYS" = some (some (.str "none" tk_NS)))
    {tk_BT : Tok} (b_BT : PySem.W.nsIn K mainGlobals "BETWEEN" = some (some (.str " / " tk_BT))) :
    LawG l w K 10 63 "script" mg top h := by
  have e := htop.symm.trans (PySem.W.mg_of X G b_fL)
  cases e
  have F_fM := fun_mk (st := sFre) l_fM c_fM k_fM
  have B_fM := F_fM.binds (ps := ["pen"]) fun _ _ _ _ _ _ us hl => match us, hl with | [_], _ => rfl
  have g_fM := PySem.W.mg_of X G b_fM
  have F_fD := fun_mk (st := sDrw) l_fD c_fD k_fD
  have B_fD := F_fD.binds (ps := ["pen", "many"]) fun _ _ _ _ _ _ us hl => match us, hl with | [_, _], _ => rfl
  have g_fD := PySem.W.mg_of X G b_fD
  have F_fO := fun_mk (st := sOpn) l_fO c_fO k_fO
  have B_fO := F_fO.binds (ps := ["script"]) fun _ _ _ _ _ _ us hl => match us, hl with | [_], _ => rfl
  have g_fO := PySem.W.mg_of X G b_fO
  have F_dc := fun_mk (st := Cl.sClm) l_dc c_dc k_dc
  have B_dc := F_dc.binds (ps := ["pen", "most", "wide"]) fun _ _ _ _ _ _ us hl => match us, hl with | [_, _, _], _ => rfl
  have g_dc := PySem.W.mg_of X G b_dc
  have F_db := fun_mk (st := Cl.sBok) l_db c_db k_db
  have B_db := F_db.binds (ps := ["pen", "most"]) fun _ _ _ _ _ _ us hl => match us, hl with | [_, _], _ => rfl
  have g_db := PySem.W.mg_of X G b_db
  have F_dw := fun_mk (st := Tc.sWho) l_dw c_dw k_dw
  have B_dw := F_dw.binds (ps := ["thing"]) fun _ _ _ _ _ _ us hl => match us, hl with | [_], _ => rfl
  have g_dw := PySem.W.mg_of X G b_dw
  have F_dn := fun_mk (st := Tc.sIsn) l_dn c_dn k_dn
  have B_dn := F_dn.binds (ps := ["thing", "many"]) fun _ _ _ _ _ _ us hl => match us, hl with | [_, _], _ => rfl
  have g_dn := PySem.W.mg_of X G b_dn
  have F_dq := fun_mk (st := Tc.sRcl) l_dq c_dq k_dq
  have B_dq := F_dq.binds (ps := ["book", "claims", "row"]) fun _ _ _ _ _ _ us hl => match us, hl with | [_, _, _], _ => rfl
  have g_dq := PySem.W.mg_of X G b_dq
  have F_dr := fun_mk (st := Tc.sErw) l_dr c_dr k_dr
  have B_dr := F_dr.binds (ps := ["pen", "book"]) fun _ _ _ _ _ _ us hl => match us, hl with | [_, _], _ => rfl
  have g_dr := PySem.W.mg_of X G b_dr
  have F_dv := fun_mk (st := sDro) l_dv c_dv k_dv
  have B_dv := F_dv.binds (ps := ["pen", "many"]) fun _ _ _ _ _ _ us hl => match us, hl with | [_, _], _ => rfl
  have g_dv := PySem.W.mg_of X G b_dv
  have F_dx := fun_mk (st := Tc.sRtx) l_dx c_dx k_dx
  have B_dx := F_dx.binds (ps := ["rows"]) fun _ _ _ _ _ _ us hl => match us, hl with | [_], _ => rfl
  have g_dx := PySem.W.mg_of X G b_dx
  have F_ds := fun_mk (st := Tc.sWds) l_ds c_ds k_ds
  have B_ds := F_ds.binds (ps := ["claim"]) fun _ _ _ _ _ _ us hl => match us, hl with | [_], _ => rfl
  have g_ds := PySem.W.mg_of X G b_ds
  have F_di := fun_mk (st := Tc.sRri) l_di c_di k_di
  have B_di := F_di.binds (ps := ["text", "rows"]) fun _ _ _ _ _ _ us hl => match us, hl with | [_, _], _ => rfl
  have g_di := PySem.W.mg_of X G b_di
  have F_pw := fun_mk (st := sWof) l_pw c_pw k_pw
  have B_pw := F_pw.binds (ps := ["text"]) fun _ _ _ _ _ _ us hl => match us, hl with | [_], _ => rfl
  have g_pw := PySem.W.mg_of X G b_pw
  have F_pa := fun_mk (st := sWat) l_pa c_pa k_pa
  have B_pa := F_pa.binds (ps := ["words", "at"]) fun _ _ _ _ _ _ us hl => match us, hl with | [_, _], _ => rfl
  have g_pa := PySem.W.mg_of X G b_pa
  have F_pn := fun_mk (st := sNon) l_pn c_pn k_pn
  have B_pn := F_pn.binds (ps := ["word"]) fun _ _ _ _ _ _ us hl => match us, hl with | [_], _ => rfl
  have g_pn := PySem.W.mg_of X G b_pn
  have F_pb := fun_mk (st := sBst) l_pb c_pb k_pb
  have B_pb := F_pb.binds (ps := ["words", "at", "many", "most"]) fun _ _ _ _ _ _ us hl => match us, hl with | [_, _, _, _], _ => rfl
  have g_pb := PySem.W.mg_of X G b_pb
  have F_pf := fun_mk (st := sNfr) l_pf c_pf k_pf
  have B_pf := F_pf.binds (ps := ["words", "at", "least", "most"]) fun _ _ _ _ _ _ us hl => match us, hl with | [_, _, _, _], _ => rfl
  have g_pf := PySem.W.mg_of X G b_pf
  have F_pr := fun_mk (st := sRfr) l_pr c_pr k_pr
  have B_pr := F_pr.binds (ps := ["words", "at", "ahead"]) fun _ _ _ _ _ _ us hl => match us, hl with | [_, _, _], _ => rfl
  have g_pr := PySem.W.mg_of X G b_pr
  have F_pl := fun_mk (st := sLfr) l_pl c_pl k_pl
  have B_pl := F_pl.binds (ps := ["words", "at"]) fun _ _ _ _ _ _ us hl => match us, hl with | [_, _], _ => rfl
  have g_pl := PySem.W.mg_of X G b_pl
  have F_pz := fun_mk (st := sRla) l_pz c_pz k_pz
  have B_pz := F_pz.binds (ps := ["text"]) fun _ _ _ _ _ _ us hl => match us, hl with | [_], _ => rfl
  have g_pz := PySem.W.mg_of X G b_pz
  have F_pc := fun_mk (st := sClf) l_pc c_pc k_pc
  have B_pc := F_pc.binds (ps := ["words", "at"]) fun _ _ _ _ _ _ us hl => match us, hl with | [_, _], _ => rfl
  have g_pc := PySem.W.mg_of X G b_pc
  have F_pk := fun_mk (st := sBkf) l_pk c_pk k_pk
  have B_pk := F_pk.binds (ps := ["words", "at"]) fun _ _ _ _ _ _ us hl => match us, hl with | [_, _], _ => rfl
  have g_pk := PySem.W.mg_of X G b_pk
  have F_pd := fun_mk (st := sRbk) l_pd c_pd k_pd
  have B_pd := F_pd.binds (ps := ["text"]) fun _ _ _ _ _ _ us hl => match us, hl with | [_], _ => rfl
  have g_pd := PySem.W.mg_of X G b_pd
  have F_ps := fun_mk (st := sShc) l_ps c_ps k_ps
  have B_ps := F_ps.binds (ps := ["claim"]) fun _ _ _ _ _ _ us hl => match us, hl with | [_], _ => rfl
  have g_ps := PySem.W.mg_of X G b_ps
  have F_pt := fun_mk (st := sShb) l_pt c_pt k_pt
  have B_pt := F_pt.binds (ps := ["book"]) fun _ _ _ _ _ _ us hl => match us, hl with | [_], _ => rfl
  have g_pt := PySem.W.mg_of X G b_pt
  have F_pu := fun_mk (st := Tc.sShr) l_pu c_pu k_pu
  have B_pu := F_pu.binds (ps := ["row"]) fun _ _ _ _ _ _ us hl => match us, hl with | [_], _ => rfl
  have g_pu := PySem.W.mg_of X G b_pu
  have F_pv_ := fun_mk (st := Tc.sShl) l_pv_ c_pv_ k_pv_
  have B_pv_ := F_pv_.binds (ps := ["ladder"]) fun _ _ _ _ _ _ us hl => match us, hl with | [_], _ => rfl
  have g_pv_ := PySem.W.mg_of X G b_pv_
  have F_qw := fun_mk (st := sWhp) l_qw c_qw k_qw
  have B_qw := F_qw.binds (ps := ["thing"]) fun _ _ _ _ _ _ us hl => match us, hl with | [_], _ => rfl
  have g_qw := PySem.W.mg_of X G b_qw
  have F_qs := fun_mk (st := sSay) l_qs c_qs k_qs
  have B_qs := F_qs.binds (ps := ["thing"]) fun _ _ _ _ _ _ us hl => match us, hl with | [_], _ => rfl
  have g_qs := PySem.W.mg_of X G b_qs
  have F_gR := fun_mk (st := sRis) l_gR c_gR k_gR
  have B_gR := F_gR.binds (ps := ["says"]) fun _ _ _ _ _ _ us hl => match us, hl with | [_], _ => rfl
  have g_gR := PySem.W.mg_of X G b_gR
  have F_gO := fun_mk (st := sHop) l_gO c_gO k_gO
  have B_gO := F_gO.binds (ps := ["says"]) fun _ _ _ _ _ _ us hl => match us, hl with | [_], _ => rfl
  have g_gO := PySem.W.mg_of X G b_gO
  have F_gI := fun_mk (st := sIcl) l_gI c_gI k_gI
  have B_gI := F_gI.binds (ps := ["thing"]) fun _ _ _ _ _ _ us hl => match us, hl with | [_], _ => rfl
  have g_gI := PySem.W.mg_of X G b_gI
  have F_fL := fun_mk (st := sLaw) l_fL c_fL k_fL
  have B_fL := F_fL.binds (ps := ["script"]) fun _ _ _ _ _ _ us hl => match us, hl with | [_], _ => rfl
  have g_fL := PySem.W.mg_of X G b_fL
  have C_gR : Se.FunC K "is_rising" "is_rising" sRis gR cR _ := ⟨⟨_, _, _, _, _, _, _, _, rfl, l_gR, c_gR⟩, k_gR⟩
  have C_gO : Se.FunC K "has_opposites" "has_opposites" sHop gO cO _ := ⟨⟨_, _, _, _, _, _, _, _, rfl, l_gO, c_gO⟩, k_gO⟩
  have C_gI : Se.FunC K "is_claim" "is_claim" sIcl gI cI _ := ⟨⟨_, _, _, _, _, _, _, _, rfl, l_gI, c_gI⟩, k_gI⟩
  have M_MOST_THINGS := PySem.W.mg_of X G b_MOST_THINGS
  have M_MOST_CLAIMS := PySem.W.mg_of X G b_MOST_CLAIMS
  have M_MOST_ROWS := PySem.W.mg_of X G b_MOST_ROWS
  have M_MOST_FIGURES := PySem.W.mg_of X G b_MOST_FIGURES
  have F_g6 := fun_mk (st := Tw.sIn1) l_g6 c_g6 k_g6
  have B_g6 := F_g6.binds (ps := ["self", "at"]) fun _ _ _ _ _ _ us hl => match us, hl with | [_, _], _ => rfl
  have Z_range := PySem.W.mg_none_of X G z_range
  have Z_isinstance := PySem.W.mg_none_of X G z_isinstance
  have Z_len := PySem.W.mg_none_of X G z_len
  have Z_list := PySem.W.mg_none_of X G z_list
  have Z_tuple := PySem.W.mg_none_of X G z_tuple
  have Z_all := PySem.W.mg_none_of X G z_all
  have Z_any := PySem.W.mg_none_of X G z_any
  have Z_zip := PySem.W.mg_none_of X G z_zip
  have Z_int := PySem.W.mg_none_of X G z_int
  have Z_bool := PySem.W.mg_none_of X G z_bool
  have Z_str := PySem.W.mg_none_of X G z_str
  have Z_repr := PySem.W.mg_none_of X G z_repr
  have Z_min := PySem.W.mg_none_of X G z_min
  have Z_sorted := PySem.W.mg_none_of X G z_sorted
  have Z_abs := PySem.W.mg_none_of X G z_abs
  refine ⟨PySem.W.fnOf "law" "law" (defArgs sLaw) (defBody sLaw) (defScope sLaw) .none kV_fL dc_fL pm_fL an_fL cd_fL ct_fL, [(cR, PR), (cO, PO), (cI, PI)], spLaw PI PR PO K, ?_, ?_, ?_, fun s u => .of_eq rfl, fun H a ns _ hT hS => ?_, fun base hb hn_ hT => ?_⟩
  · intro p hp
    simp only [List.mem_cons, List.not_mem_nil, or_false] at hp
    rcases hp with rfl | rfl | rfl
    · exact ow "is_rising" (by simp) _ g_gR cR PR _ _ _ _ _ _ l_gR rfl rfl lc_R v_R
    · exact ow "has_opposites" (by simp) _ g_gO cO PO _ _ _ _ _ _ l_gO rfl rfl lc_O v_O
    · exact ow "is_claim" (by simp) _ g_gI cI PI _ _ _ _ _ _ l_gI rfl rfl lc_I v_I
  · intro p hp
    simp only [List.mem_cons, List.not_mem_nil, or_false] at hp
    rcases hp with rfl | rfl | rfl
    · exact np_R
    · exact np_O
    · exact np_I
  · intro p hp
    simp only [List.mem_cons, List.not_mem_nil, or_false] at hp
    rcases hp with rfl | rfl | rfl
    · exact PySem.W.codeHd_of_K X hd_R
    · exact PySem.W.codeHd_of_K X hd_O
    · exact PySem.W.codeHd_of_K X hd_I
  · exact ⟨a, ns, rfl, hS, ⟨#[], hT (cI, PI) (by simp), trivial⟩, ⟨#[], hT (cR, PR) (by simp), trivial⟩, ⟨#[], hT (cO, PO) (by simp), trivial⟩, fun _ => rfl⟩
  · have t_R := hT (cR, PR) (by simp)
    have T_R : TabB base mg cR PR := ⟨t_R.code, t_R.bm, t_R.gP⟩
    have t_O := hT (cO, PO) (by simp)
    have T_O : TabB base mg cO PO := ⟨t_O.code, t_O.bm, t_O.gP⟩
    have t_I := hT (cI, PI) (by simp)
    have T_I : TabB base mg cI PI := ⟨t_I.code, t_I.bm, t_I.gP⟩
    have Tp : Zp mg := by constructor <;> assumption
    have Tn : Zn mg := by constructor <;> assumption
    have Td : Tw.Zd mg := by constructor <;> assumption
    have Ti : Zi mg := by constructor <;> assumption
    have Tb : Tc.Zb mg := by constructor <;> assumption
    have Th : Tc.Zh mg := by constructor <;> assumption
    have Tw' : Tc.Zw mg := by constructor <;> assumption
    have Tl : Tc.Zl mg := by constructor <;> assumption
    have Tm : Tc.Zm mg := by constructor <;> assumption
    have Ty : Tc.Zy mg := by constructor <;> assumption
    have Ts : Cl.Zs mg := by constructor <;> assumption
    have Tk : Zk mg := by constructor <;> assumption
    have MS := PySem.W.mg_of X G b_ST
    have MN := PySem.W.mg_of X G b_NS
    have MB := PySem.W.mg_of X G b_BT
    have GD : FnOk l.prog w K mg base CX0 2 fD _ ["pen", "many"] spDrw := ok_drw F_fD F_fM B_fM g_fM Tp
    have GO : FnOk l.prog w K mg base CX0 1 fO _ ["script"] (spOpn K) := ok_opn F_fO Z_list
    have Gc : FnOk l.prog w K mg base CX0 3 dc _ ["pen", "most", "wide"] Cl.spClm := Cl.ok_clm F_dc Ts F_fD B_fD g_fD GD
    have Gb : FnOk l.prog w K mg base CX0 4 db _ ["pen", "most"] Cl.spBok := Cl.ok_bok F_db Ts F_fD B_fD g_fD GD F_dc B_dc g_dc Gc
    have Gw : FnOk l.prog w K mg base CX0 1 dw _ ["thing"] Tc.spWhoI := Tc.ok_who F_dw Tl
    have Gn : FnOk l.prog w K mg base CX0 2 dn _ ["thing", "many"] Tc.spIsn := Tc.ok_isn F_dn F_dw B_dw g_dw Gw
    have Gq : FnOk l.prog w K mg base CX0 3 dq _ ["book", "claims", "row"] Tc.spRcl := Tc.ok_rcl F_dq Tl F_dw B_dw g_dw Gw F_dn B_dn g_dn Gn
    have Gr : FnOk l.prog w K mg base CX0 4 dr _ ["pen", "book"] Tc.spErw := Tc.ok_erw F_dr Tm F_fD B_fD g_fD GD F_dq B_dq g_dq Gq
    have Gv : FnOk l.prog w K mg base CX0 3 dv _ ["pen", "many"] Tc.spDrv := Tc.ok_drv F_dv Td F_fD B_fD g_fD GD
    have Gx : FnOk l.prog w K mg base CX0 1 dx _ ["rows"] Tc.spShl := Tc.ok_rtx F_dx Tw'
    have Gs : FnOk l.prog w K mg base CX0 1 ds _ ["claim"] spShc := Tc.ok_wds F_ds Tw'
    have O6 : OexC K c6 := ⟨⟨nm6, q6, N6, bs6, bm6, sn6, sub6, ab6, col6, dd6, m06, m16, m26, m36, m56, x6, rv6⟩, sa6, hs6, ty6, kp6⟩
    have G6 : FnOk l.prog w K mg base CX0 1 g6 _ ["self", "at"] (spInit K) := Tw.ok_in1 F_g6
    have N : NT l.prog w K mg base c6 g6 _ := ⟨O6, na6, in6, tf6, B_g6, G6, PySem.W.mg_of X G a6⟩
    have Qw : FnOk l.prog w K mg base CX0 1 qw _ ["thing"] spWhG := ok_whp F_qw Ti
    have Qs : FnOk l.prog w K mg base CX0 2 qs _ ["thing"] spSyG := ok_say F_qs M_MOST_THINGS F_qw B_qw g_qw Qw
    have GR : FnOk l.prog w K mg base CX0 3 gR _ ["says"] (spRiG PR) := ok_ris C_gR Ti T_R
    have GH : FnOk l.prog w K mg base CX0 3 gO _ ["says"] (spHoG PO) := ok_hpt C_gO Ti T_O
    have GI : FnOk l.prog w K mg base CX0 5 gI _ ["thing"] (spClG PI PR PO) := ok_icl C_gI Ti T_I F_qs B_qs g_qs Qs k_gR B_gR g_gR GR k_gO B_gO g_gO GH
    have Pw : FnOk l.prog w K mg base CX0 1 pw _ ["text"] spWof := ok_wof F_pw
    have Pa : FnOk l.prog w K mg base CX0 1 pa _ ["words", "at"] spWat := ok_wat F_pa Tn
    have Pn : FnOk l.prog w K mg base CX0 1 pn _ ["word"] spNoz := ok_noz F_pn Tn M_MOST_FIGURES
    have Pn' : FnOk l.prog w K mg base CX0 1 pn _ ["word"] spNon := ok_non F_pn Tn M_MOST_FIGURES
    have Pb : Gx2.FnX l.prog w K mg base (L2.CX l.prog w) 3 pb _ ["words", "at", "many", "most"] (spBst c6) := ok_bst F_pb N MS F_pa B_pa g_pa Pa
    have Pf : Gx2.FnX l.prog w K mg base (L2.CX l.prog w) 3 pf _ ["words", "at", "least", "most"] (spNfr c6) := ok_nfr F_pf Tn N F_pn B_pn g_pn Pn'
    have Pr : Gx2.FnX l.prog w K mg base (L2.CX l.prog w) 4 pr _ ["words", "at", "ahead"] (spRfr c6) := ok_rfr F_pr N M_MOST_CLAIMS M_MOST_THINGS F_pa B_pa g_pa Pa F_pf B_pf g_pf Pf
    have Pl : Gx2.FnX l.prog w K mg base (L2.CX l.prog w) 5 pl _ ["words", "at"] (spLfr c6) := ok_lfr F_pl Tn M_MOST_ROWS F_pb B_pb g_pb Pb F_pr B_pr g_pr Pr
    have Pz : Gx2.FnX l.prog w K mg base (L2.CX l.prog w) 6 pz _ ["text"] (spRla c6) := ok_rla F_pz F_pw B_pw g_pw Pw F_pl B_pl g_pl Pl
    have Pc : Gx2.FnX l.prog w K mg base (L2.CX l.prog w) 7 pc _ ["words", "at"] (spClf c6 PI PR PO) := ok_clf F_pc Tn N MN F_pa B_pa g_pa Pa F_pn B_pn g_pn Pn k_gI B_gI g_gI GI
    have Pk : Gx2.FnX l.prog w K mg base (L2.CX l.prog w) 8 pk _ ["words", "at"] (spBkf c6 PI PR PO) := ok_bkf F_pk Tb M_MOST_CLAIMS F_pb B_pb g_pb Pb F_pc B_pc g_pc Pc
    have Pd : Gx2.FnX l.prog w K mg base (L2.CX l.prog w) 9 pd _ ["text"] (spRbk c6 PI PR PO) := ok_rbk F_pd F_pw B_pw g_pw Pw F_pk B_pk g_pk Pk
    have Ps : FnOk l.prog w K mg base CX0 1 ps _ ["claim"] spShc := ok_shc F_ps Th MN
    have Pt : FnOk l.prog w K mg base CX0 2 pt _ ["book"] spShb := ok_shb F_pt MB F_ps B_ps g_ps Ps
    have Pu : FnOk l.prog w K mg base CX0 1 pu _ ["row"] Tc.spShr := Tc.ok_shr F_pu Tw'
    have Pv : FnOk l.prog w K mg base CX0 2 pv_ _ ["ladder"] Tc.spShl := Tc.ok_shl F_pv_ MB F_pu B_pu g_pu Pu
    have Gi : Gx2.FnX l.prog w K mg base CX0 7 di _ ["text", "rows"] Tc.spRri := Tc.ok_rri F_di Ty F_pz B_pz g_pz Pz
    exact ok_law F_fL Tk F_fO B_fO g_fO GO F_fD B_fD g_fD GD F_db B_db g_db Gb F_dc B_dc g_dc Gc F_pt B_pt g_pt Pt F_ps B_ps g_ps Ps F_ds B_ds g_ds Gs F_dr B_dr g_dr Gr F_pv_ B_pv_ g_pv_ Pv F_dx B_dx g_dx Gx F_dv B_dv g_dv Gv F_pd B_pd g_pd Pd F_di B_di g_di Gi
end K80
open PySem PySem.W PyProof.Rows
set_option maxHeartbeats 0 in
theorem PySem.Challenge.cw_sparecut_k80_texts_written_and_read_holds : PySem.Challenge.rw_sparecut_k80_texts_written_and_read.Holds := by
  w_on; o_law; k_head; (case hw => w_witness2)
  k_fill
  refine Eg.walk_own (l := PySem.Challenge.rw_sparecut_k80_texts_written_and_read) (m := 63) (k := 10) (x := "script") ["is_rising", "has_opposites", "is_claim"] rfl (by decide) rfl ⟨rfl, by decide, by decide⟩ (by decide +kernel) (fun w h Y => PySem.W.kIn_of Y) ?F
  case F =>
    intro w mg fa h Y KX G hmg ow
    refine' K80.all_mk KX G hmg ow ?b_fM ?l_fM ?c_fM ?k_fM ?b_fD ?l_fD ?c_fD ?k_fD ?b_fO ?l_fO ?c_fO ?k_fO ?b_dc ?l_dc ?c_dc ?k_dc ?b_db ?l_db ?c_db ?k_db ?b_dw ?l_dw ?c_dw ?k_dw ?b_dn ?l_dn ?c_dn ?k_dn ?b_dq ?l_dq ?c_dq ?k_dq ?b_dr ?l_dr ?c_dr ?k_dr ?b_dv ?l_dv ?c_dv ?k_dv ?b_dx ?l_dx ?c_dx ?k_dx ?b_ds ?l_ds ?c_ds ?k_ds ?b_di ?l_di ?c_di ?k_di ?b_pw ?l_pw ?c_pw ?k_pw ?b_pa ?l_pa ?c_pa ?k_pa ?b_pn ?l_pn ?c_pn ?k_pn ?b_pb ?l_pb ?c_pb ?k_pb ?b_pf ?l_pf ?c_pf ?k_pf ?b_pr ?l_pr ?c_pr ?k_pr ?b_pl ?l_pl ?c_pl ?k_pl ?b_pz ?l_pz ?c_pz ?k_pz ?b_pc ?l_pc ?c_pc ?k_pc ?b_pk ?l_pk ?c_pk ?k_pk ?b_pd ?l_pd ?c_pd ?k_pd ?b_ps ?l_ps ?c_ps ?k_ps ?b_pt ?l_pt ?c_pt ?k_pt ?b_pu ?l_pu ?c_pu ?k_pu ?b_pv_ ?l_pv_ ?c_pv_ ?k_pv_ ?b_qw ?l_qw ?c_qw ?k_qw ?b_qs ?l_qs ?c_qs ?k_qs ?b_gR ?l_gR ?c_gR ?k_gR ?b_gO ?l_gO ?c_gO ?k_gO ?b_gI ?l_gI ?c_gI ?k_gI ?b_fL ?l_fL ?c_fL ?k_fL ?lc_R ?v_R ?hd_R ?np_R ?lc_O ?v_O ?hd_O ?np_O ?lc_I ?v_I ?hd_I ?np_I ?b_MOST_THINGS ?b_MOST_CLAIMS ?b_MOST_ROWS ?b_MOST_FIGURES ?z_range ?z_isinstance ?z_len ?z_list ?z_tuple ?z_all ?z_any ?z_zip ?z_int ?z_bool ?z_str ?z_repr ?z_min ?z_sorted ?z_abs ?a6 ?hg6 ?hk6 ?hs6 ?hd6 ?ty6 ?lc6 ?s66 ?kp6 ?x6 ?rv6 ?sa6 ?na6 ?in6 ?tf6 ?l_g6 ?c_g6 ?k_g6 ?b_ST ?b_NS ?b_BT
    (case b_fM => k_is)
    (case l_fM => k_is)
    (case c_fM => k_is)
    (case k_fM => k_is)
    (case b_fD => k_is)
    (case l_fD => k_is)
    (case c_fD => k_is)
    (case k_fD => k_is)
    (case b_fO => k_is)
    (case l_fO => k_is)
    (case c_fO => k_is)
    (case k_fO => k_is)
    (case b_dc => k_is)
    (case l_dc => k_is)
    (case c_dc => k_is)
    (case k_dc => k_is)
    (case b_db => k_is)
    (case l_db => k_is)
    (case c_db => k_is)
    (case k_db => k_is)
    (case b_dw => k_is)
    (case l_dw => k_is)
    (case c_dw => k_is)
    (case k_dw => k_is)
    (case b_dn => k_is)
    (case l_dn => k_is)
    (case c_dn => k_is)
    (case k_dn => k_is)
    (case b_dq => k_is)
    (case l_dq => k_is)
    (case c_dq => k_is)
    (case k_dq => k_is)
    (case b_dr => k_is)
    (case l_dr => k_is)
    (case c_dr => k_is)
    (case k_dr => k_is)
    (case b_dv => k_is)
    (case l_dv => k_is)
    (case c_dv => k_is)
    (case k_dv => k_is)
    (case b_dx => k_is)
    (case l_dx => k_is)
    (case c_dx => k_is)
    (case k_dx => k_is)
    (case b_ds => k_is)
    (case l_ds => k_is)
    (case c_ds => k_is)
    (case k_ds => k_is)
    (case b_di => k_is)
    (case l_di => k_is)
    (case c_di => k_is)
    (case k_di => k_is)
    (case b_pw => k_is)
    (case l_pw => k_is)
    (case c_pw => k_is)
    (case k_pw => k_is)
    (case b_pa => k_is)
    (case l_pa => k_is)
    (case c_pa => k_is)
    (case k_pa => k_is)
    (case b_pn => k_is)
    (case l_pn => k_is)
    (case c_pn => k_is)
    (case k_pn => k_is)
    (case b_pb => k_is)
    (case l_pb => k_is)
    (case c_pb => k_is)
    (case k_pb => k_is)
    (case b_pf => k_is)
    (case l_pf => k_is)
    (case c_pf => k_is)
    (case k_pf => k_is)
    (case b_pr => k_is)
    (case l_pr => k_is)
    (case c_pr => k_is)
    (case k_pr => k_is)
    (case b_pl => k_is)
    (case l_pl => k_is)
    (case c_pl => k_is)
    (case k_pl => k_is)
    (case b_pz => k_is)
    (case l_pz => k_is)
    (case c_pz => k_is)
    (case k_pz => k_is)
    (case b_pc => k_is)
    (case l_pc => k_is)
    (case c_pc => k_is)
    (case k_pc => k_is)
    (case b_pk => k_is)
    (case l_pk => k_is)
    (case c_pk => k_is)
    (case k_pk => k_is)
    (case b_pd => k_is)
    (case l_pd => k_is)
    (case c_pd => k_is)
    (case k_pd => k_is)
    (case b_ps => k_is)
    (case l_ps => k_is)
    (case c_ps => k_is)
    (case k_ps => k_is)
    (case b_pt => k_is)
    (case l_pt => k_is)
    (case c_pt => k_is)
    (case k_pt => k_is)
    (case b_pu => k_is)
    (case l_pu => k_is)
    (case c_pu => k_is)
    (case k_pu => k_is)
    (case b_pv_ => k_is)
    (case l_pv_ => k_is)
    (case c_pv_ => k_is)
    (case k_pv_ => k_is)
    (case b_qw => k_is)
    (case l_qw => k_is)
    (case c_qw => k_is)
    (case k_qw => k_is)
    (case b_qs => k_is)
    (case l_qs => k_is)
    (case c_qs => k_is)
    (case k_qs => k_is)
    (case b_gR => k_is)
    (case l_gR => k_is)
    (case c_gR => k_is)
    (case k_gR => k_is)
    (case b_gO => k_is)
    (case l_gO => k_is)
    (case c_gO => k_is)
    (case k_gO => k_is)
    (case b_gI => k_is)
    (case l_gI => k_is)
    (case c_gI => k_is)
    (case k_gI => k_is)
    (case b_fL => k_is)
    (case l_fL => k_is)
    (case c_fL => k_is)
    (case k_fL => k_is)
    (case lc_R => k_is)
    (case v_R => exact rfl)
    (case hd_R => kernel_rfl)
    (case np_R => kernel_rfl)
    (case lc_O => k_is)
    (case v_O => exact rfl)
    (case hd_O => kernel_rfl)
    (case np_O => kernel_rfl)
    (case lc_I => k_is)
    (case v_I => exact rfl)
    (case hd_I => kernel_rfl)
    (case np_I => kernel_rfl)
    (case b_MOST_THINGS => k_is)
    (case b_MOST_CLAIMS => k_is)
    (case b_MOST_ROWS => k_is)
    (case b_MOST_FIGURES => k_is)
    (case z_range => k_is)
    (case z_isinstance => k_is)
    (case z_len => k_is)
    (case z_list => k_is)
    (case z_tuple => k_is)
    (case z_all => k_is)
    (case z_any => k_is)
    (case z_zip => k_is)
    (case z_int => k_is)
    (case z_bool => k_is)
    (case z_str => k_is)
    (case z_repr => k_is)
    (case z_min => k_is)
    (case z_sorted => k_is)
    (case z_abs => k_is)
    (case a6 => k_is)
    (case hg6 => k_is)
    (case hk6 => k_is)
    (case hs6 => k_is)
    (case hd6 => k_is)
    (case ty6 => k_is)
    (case lc6 => k_is)
    (case s66 => k_is)
    (case kp6 => k_is)
    (case x6 => k_is)
    (case rv6 => decide +kernel)
    (case sa6 => k_is)
    (case na6 => k_is)
    (case in6 => k_is)
    (case tf6 => k_is)
    (case l_g6 => k_is)
    (case c_g6 => k_is)
    (case k_g6 => k_is)
    (case b_ST => k_is)
    (case b_NS => k_is)
    (case b_BT => k_is)
