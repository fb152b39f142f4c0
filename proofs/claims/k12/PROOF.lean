import PyProof.Rows.All
import Wide.All
import OpenK.AllK
import Wide.FinOn
import PyProof.EqAt
import PyProof.EqKinds
import PyProof.TupleCall
import PySem.Challenge.RW_sparecut_k12_told_once
import HandS.ForMost
import HandS.Evl
import HandS.Conv
import HandS.Exc
import HandS.ExcOwn
import HandS.ExcInit
import HandS.ExcValue
import HandS.ExcIs
import KE.KExcIs
import KE.KxText
import HandS.AnyAll
import HandS.GenOver
import HandS.GenList
import HandS.SortInts
import HandS.TupAny
import HandS.TupMul
import HandS.Strs
import HandS.IsInst
import HandS.EndTab
import HandS.EndOwn
import HandS.SetFor
import KE.KNestM
import KE.GoesEnum
import HandS.FStr
import HandS.RaiseMore
import KE.DatumOrd
import HandS.Zip
import HandS.Style
import HandS.RevRange
import HandS.TryOnly
import HandS.WordsExc
import KE.LtData
import HandS.TupLe
import HandS.ExcField
import HandS.Dict
import HandS.More
import HandS.WordsDict
import HandS.SetKeys
import HandS.DictComp
import KE.GoesMore
import HandS.DictTup
import HandS.TupLen
import HandS.Walk
import HandS.TupSets
import HandS.Iter
import HandS.ForDict
import HandS.Deep
import HandS.Text
import HandS.StrMore
import KE.IntTextLaws
import KE.KDictCopyH
import KE.KDictDisplayH
import PyProof.DictMoreH
set_option Elab.async false
set_option linter.all false
set_option maxRecDepth 100000
set_option maxHeartbeats 2000000
namespace Nw
open PySem PySem.Spec PyProof.Rows L2
/-! ### readings that hide the heap: what is new is told by its facts alone -/
theorem same_new {H : Hp} {p : Addr} {o : HO} (h : H p = none) : Same H (upd H p o) := fun b x e => by
  rw [upd_ne (ne_of_none e h)]
  exact e
theorem sqt {K : PySem.W.Frag} {H H' : Hp} {a : Addr} {xs : List V} (e : Same H H') (h : SqT K H a xs) : SqT K H' a xs := by
  rcases h with (h | ⟨o, h⟩) | h
  · exact .inl (.inl (e _ _ h))
  · exact .inl (.inr ⟨o, e _ _ h⟩)
  · exact .inr h
/-- a new object o at a place of its own -/
def New (H : Hp) (o : HO) (Q : VK) : Prop := ∀ p H2, H p = none → Same H H2 → H2 p = some o → (∀ b, b ≠ p → H2 b = H b) → Q (.ref p) H2
theorem New.to {H : Hp} {o : HO} {Q : VK} (h : New H o Q) : ∀ p, H p = none → Q (.ref p) (upd H p o) := fun p n => h p _ n (same_new n) upd_same fun b nb => upd_ne nb
section
variable {X : Cx} {e : Expr} {es : List Expr} {t t' : TE} {ta : TA} {pos : Pos}
theorem pe_weak (h : PE X e t) (i : ∀ σ H Q, t' σ H Q → t σ H Q) : PE X e t' := ⟨fun pins s σ H Q I q => h.run pins s σ H Q I (i σ H Q q)⟩
theorem op_weak {f : Value → Value → Sem Value} {r r' : R2} (h : OpR X f r) (i : ∀ x y H Q, r' x y H Q → r x y H Q) : OpR X f r' := fun pins s σ H x y v u Q I rx ry q => h pins s σ H x y v u Q I rx ry (i x y H Q q)
theorem call_weak {f : Value} {r r' : List V → Hp → VK → Prop} (h : CallR X f r) (i : ∀ xs H Q, r' xs H Q → r xs H Q) : CallR X f r' := fun pins s σ H xs us Q I rx q => h pins s σ H xs us Q I rx (i xs H Q q)
theorem mt_weak {id : String} {r r' : V → List V → Hp → VK → Prop} (h : MtR X id r) (i : ∀ x xs H Q, r' x xs H Q → r x xs H Q) : MtR X id r' := fun pins s σ H x xs v us Q I rx rs q => h pins s σ H x xs v us Q I rx rs (i x xs H Q q)
theorem sl_weak {r r' : V → Option Int → Option Int → Hp → VK → Prop} (h : SlR X r) (i : ∀ x lo hi H Q, r' x lo hi H Q → r x lo hi H Q) : SlR X r' := fun pins s σ H x v vl vu lo hi sl Q I rx a b c q => h pins s σ H x v vl vu lo hi sl Q I rx a b c (i x lo hi H Q q)
/-- what follows may be asked for less -/
def clA (t : TA) : TA := fun σ H R => ∃ R' : List V → Hp → Prop, (∀ xs H1, R' xs H1 → R xs H1) ∧ t σ H R'
theorem pa_cl (h : PA X es ta) : PA X es (clA ta) := ⟨fun ps pins s σ H Q I ⟨R', i, q⟩ => thn (h.run ps pins s σ H R' I q) fun us s1 ⟨vs, H1, I1, r1, q1⟩ => ⟨vs, H1, I1, r1, i vs H1 q1⟩⟩
def clE (t : TE) : TE := fun σ H R => ∃ R' : VK, (∀ v H1, R' v H1 → R v H1) ∧ t σ H R'
theorem pe_cl (h : PE X e t) : PE X e (clE t) := ⟨fun pins s σ H Q I ⟨R', i, q⟩ => thn (h.run pins s σ H R' I q) fun u s1 ⟨v, H1, I1, r1, q1⟩ => ⟨v, H1, I1, r1, i v H1 q1⟩⟩
def nLst (t : TA) : TE := fun σ H Q => t σ H fun xs H1 => xs.length ≤ sizeLine ∧ New H1 (.lst xs) Q
def nTup (t : TA) : TE := fun σ H Q => t σ H fun xs H1 => xs.length ≤ sizeLine ∧ New H1 (.tup xs) Q
theorem pe_lstN (h : PA X es ta) : PE X (.List es pos) (nLst ta) := pe_weak (pe_lst (pa_cl h)) fun _ _ _ q => ⟨_, fun _ _ z => ⟨z.1, z.2.to⟩, q⟩
theorem pe_tupN {x1} (h : PA X es ta) : PE X (.Tuple es x1 pos) (nTup ta) := pe_weak (pe_tup (pa_cl h)) fun _ _ _ q => ⟨_, fun _ _ z => ⟨z.1, z.2.to⟩, q⟩
/-- xs + ys (lists) -/
def rCatN : R2 := fun x y H Q => ∃ p q xs ys, x = .ref p ∧ y = .ref q ∧ H p = some (.lst xs) ∧ H q = some (.lst ys) ∧ xs.length + ys.length ≤ sizeLine ∧ New H (.lst (xs ++ ys)) Q
theorem op_catN : OpR X (binaryOp .Add) rCatN := op_weak op_cat fun x y H Q ⟨p, q, xs, ys, h1, h2, h3, h4, h5, h6⟩ => ⟨p, q, xs, ys, h1, h2, h3, h4, h5, h6.to⟩
/-- a tuple of xs, new or not -/
def ResT (H : Hp) (xs : List V) (Q : VK) : Prop := ∀ p H2, Same H H2 → H2 p = some (.tup xs) → Q (.ref p) H2
theorem call_list_ofN : CallR X (.type "list") (fun xs H Q => ∃ p ys, xs = [.ref p] ∧ (SqL X.K H p ys ∨ SqT X.K H p ys) ∧ New H (.lst ys) Q) := call_weak call_list_of fun _ _ _ ⟨p, ys, h1, h2, h3⟩ => ⟨p, ys, h1, h2, h3.to⟩
theorem call_tuple_ofN : CallR X (.type "tuple") (fun xs H Q => ∃ p ys, xs = [.ref p] ∧ SqL X.K H p ys ∧ New H (.tup ys) Q) := call_weak call_tuple_of fun _ _ _ ⟨p, ys, h1, h2, h3⟩ => ⟨p, ys, h1, .inl ⟨h2, h3.to⟩⟩
theorem sl_listN : SlR X (fun x lo hi H Q => ∃ a xs, x = .ref a ∧ SqL X.K H a xs ∧ New H (.lst (cutV xs lo hi)) Q) := sl_weak sl_list fun _ _ _ _ _ ⟨a, xs, h1, h2, h3⟩ => ⟨a, xs, h1, h2, h3.to⟩
end
/-! ### data by its values -/
theorem dp_bls {K : PySem.W.Frag} {H : Hp} : ∀ bs : List Bool, DpAll K H (bs.map V.bl) (bs.map PyData.bool)
  | [] => .nil
  | b :: r => .cons (.bl b) (dp_bls r)
theorem dp_ints {K : PySem.W.Frag} {H : Hp} : ∀ ns : List Int, DpAll K H (ns.map V.int) (ns.map PyData.int)
  | [] => .nil
  | b :: r => .cons (.int b) (dp_ints r)
/-- flat data: numbers, truths, None -/
def flatD : PyData → Bool
  | .none | .bool _ | .int _ => true
  | _ => false
theorem flat_lay : ∀ ds : List PyData, ds.all flatD = true → PyData.canLayAll0 ds = true
  | [], _ => rfl
  | d :: r, h => by
    rw [List.all_cons, Bool.and_eq_true] at h
    show (PyData.canLay0 d && PyData.canLayAll0 r) = true
    rw [flat_lay r h.2, Bool.and_true]
    cases d <;> first | rfl | exact Bool.noConfusion h.1
theorem flat_depth : ∀ ds : List PyData, ds.all flatD = true → PyData.depthAll ds ≤ 1
  | [], _ => by decide
  | d :: r, h => by
    rw [List.all_cons, Bool.and_eq_true] at h
    have ih := flat_depth r h.2
    have hd : PyData.depth d ≤ 1 := by
      cases d <;> first | decide | exact Bool.noConfusion h.1 | exact Nat.zero_le _ | exact Nat.le_refl _
    show Nat.max (PyData.depth d) (PyData.depthAll r) ≤ 1
    exact Nat.max_le.mpr ⟨hd, ih⟩
theorem shaped_list {ds : List PyData} (h : ds.all flatD = true) : SeqAt.shaped (.list ds) = true := by
  have e := flat_depth ds h
  have e2 : PyData.depth (.list ds) ≤ 64 := by
    show PyData.depthAll ds + 1 ≤ 64
    omega
  show (PyData.canLayAll0 ds && decide (PyData.depth (.list ds) ≤ 64)) = true
  rw [flat_lay ds h, decide_eq_true e2]
  rfl
theorem shaped_tuple {ds : List PyData} (h : ds.all flatD = true) : SeqAt.shaped (.tuple ds) = true := by
  have e := flat_depth ds h
  have e2 : PyData.depth (.tuple ds) ≤ 64 := by
    show PyData.depthAll ds + 1 ≤ 64
    omega
  show (PyData.canLayAll0 ds && decide (PyData.depth (.tuple ds) ≤ 64)) = true
  rw [flat_lay ds h, decide_eq_true e2]
  rfl
theorem flat_bls (bs : List Bool) : (bs.map PyData.bool).all flatD = true := by
  rw [List.all_map, List.all_eq_true]
  exact fun _ _ => rfl
theorem flat_ints (ns : List Int) : (ns.map PyData.int).all flatD = true := by
  rw [List.all_map, List.all_eq_true]
  exact fun _ _ => rfl
theorem eqv_self {d : PyData} (h : SeqAt.shaped d = true) : PyData.eqv d d = true := SeqAt.eqv_refl d (SeqAt.canLay_of_shaped h)
end Nw
namespace Nw
open PySem PySem.Spec PyProof.Rows L2
section
variable {X : Cx}
theorem cr_sortedN : CallR X (.builtin "sorted") (fun vs H Q => ∃ (a : Addr) (ns : List Int), vs = [V.ref a] ∧ SqL X.K H a (ns.map V.int) ∧ ∀ ns' : List Int, ns'.Perm ns → ns'.Pairwise (· ≤ ·) → New H (.lst (ns'.map V.int)) Q) :=
  call_weak cr_sortedI fun _ _ _ ⟨a, ns, h1, h2, h3⟩ => ⟨a, ns, h1, h2, fun ns' p hp hs np => (h3 ns' hp hs).to p np⟩
theorem cutV_all {xs : List V} {lo hi : Option Int} (h : HT.sIx xs.length 0 lo = 0 ∧ HT.sIx xs.length xs.length hi = xs.length) : cutV xs lo hi = xs := by
  unfold cutV
  rw [h.1, h.2]
  exact List.take_length
theorem sl_tupN : SlR X (fun x lo hi H Q => ∃ a xs, x = .ref a ∧ H a = some (.tup xs) ∧ ResT H (cutV xs lo hi) Q) := sl_weak sl_tupA fun _ lo hi H Q ⟨a, xs, h1, h2, h3⟩ =>
  ⟨a, xs, h1, .of h2, fun z => h3 a H (Same.refl H) (by rw [cutV_all z]; exact h2), fun _ p np => h3 p _ (same_new np) upd_same⟩
theorem op_catTN : OpR X (binaryOp .Add) (fun x y H Q => ∃ a b xs ys, x = .ref a ∧ y = .ref b ∧ H a = some (.tup xs) ∧ H b = some (.tup ys) ∧ xs.length + ys.length ≤ sizeLine ∧ ResT H (xs ++ ys) Q) :=
  op_weak op_catA fun _ _ H Q ⟨a, b, xs, ys, h1, h2, h3, h4, h5, h6⟩ => ⟨a, b, xs, ys, h1, h2, .of h3, .of h4, h5, fun z => h6 b H (Same.refl H) (by rw [z]; exact h4), fun _ z => h6 a H (Same.refl H) (by rw [z, List.append_nil]; exact h3), fun _ _ p np => h6 p _ (same_new np) upd_same⟩
theorem op_repTN : OpR X (binaryOp .Mult) (fun x y H Q => ∃ l k xs, x = .ref l ∧ y = .int k ∧ H l = some (.tup xs) ∧ xs ≠ [] ∧ 2 ≤ k ∧ k ≤ 1000 ∧ xs.length ≤ 1000 ∧ ResT H (List.replicate k.toNat xs).flatten Q) :=
  op_weak op_repT fun _ _ H Q ⟨l, k, xs, h1, h2, h3, h4, h5, h6, h7, h8⟩ => ⟨l, k, xs, h1, h2, .of h3, h4, h5, h6, h7, fun p np => h8 p _ (same_new np) upd_same⟩
/-! the same rules with the written part by its name (for comprehensions' blocks) -/
variable {K : PySem.W.Frag}
theorem ix_tupB (h : X.K = K) : IxR X (rIxT K) := by subst h; exact ix_tup
theorem ix_listB (h : X.K = K) : IxR X (rIxL K) := by subst h; exact ix_list
theorem op_in_seqB (h : X.K = K) : OpR X (compareOp .In) (rIn K false) := by subst h; exact op_in_seq
theorem op_notIn_seqB (h : X.K = K) : OpR X (compareOp .NotIn) (rIn K true) := by subst h; exact op_notIn_seq
theorem call_len_seqB (h : X.K = K) : CallR X (.builtin "len") (fun xs H Q => ∃ p ys, xs = [.ref p] ∧ (SqL K H p ys ∨ SqT K H p ys) ∧ Q (.int ys.length) H) := by subst h; exact call_len_seq
theorem call_isiB (h : X.K = K) : CallR X (.builtin "isinstance") (rIsi K) := by subst h; exact call_isi
theorem op_eqDB (h : X.K = K) (hu : X.A.units + 64 < cLine) : OpR X (compareOp .Eq) (rEqD K) := by subst h; exact op_eqD hu
theorem op_neDB (h : X.K = K) (hu : X.A.units + 64 < cLine) : OpR X (compareOp .NotEq) (rNeD K) := by subst h; exact op_neD hu
end
end Nw
namespace Ev1
open PySem PySem.Spec PyProof.Rows L2 Nw
/-! ### exceptions as values -/
/-- at a an exception of the class cls, its dict d -/
def ExV (cls : Value) (d : Option Addr) (a : Addr) : HO := .ext fun h => ∃ (oe : Obj) (vs : Array Value), h.get? a = some oe ∧ Zc cls d oe ∧ oe.data = .fields vs
/-- an exception that was made of the class cls, its dict d: it stands at a place of its own -/
def Made (H1 : Hp) (cls : Value) (d : Option Addr) (Q : VK) : Prop := ∀ a H3, H1 a = none → Same H1 H3 → H3 a = some (ExV cls d a) → Q (.ref a) H3
theorem pe_made {X : Cx} {e : Expr} {t : L2.St → Hp → XK → Prop} (m : PMk X e t) : PE X e (fun σ H Q => t σ H fun cls d H1 => Made H1 cls d Q) := by
  refine ⟨fun pins s σ H Q I h => thn (m pins s σ H _ I h) fun u s1 z => ?_⟩
  obtain ⟨a, oe, vs, sI, H1, cls, d, rfl, J, k, na, ha, hz, hd, _, ha1, os, ag, _, q⟩ := z
  have new : ObjOk X.prog X.w (upd H1 a (ExV cls d a)) s1.heap a (ExV cls d a) := ⟨⟨oe, vs, ha, hz, hd⟩, ⟨oe, ha⟩, fun h1 h2 ⟨o, v, y, r⟩ i => ⟨o, v, i o y, r⟩⟩
  exact ⟨.ref a, upd H1 a (ExV cls d a), J.call' (ch := []) os (Un.laidN k na ha1) (J.hok.laidN k ha1 new) ag (fun b y => absurd y (by simp)), rfl, q a _ ha1 (same_new ha1) upd_same⟩
/-- at a an exception of the class D, with the field at = y -/
def ExF (H : Hp) (a D : Addr) (y : V) : Prop := ∃ dx, H a = some (ExV (.ref D) (some dx) a) ∧ H dx = some (.xd [(("at" : Str), y)])
/-- at a an exception of the class D -/
def ExAt (H : Hp) (a D : Addr) : Prop := H a = some (ExO (.ref D) a) ∨ ∃ y, ExF H a D y
theorem ExF.same {H H' : Hp} {a D : Addr} {y : V} (h : ExF H a D y) (s : Same H H') : ExF H' a D y := by
  obtain ⟨dx, h1, h2⟩ := h
  exact ⟨dx, s _ _ h1, s _ _ h2⟩
theorem ExAt.same {H H' : Hp} {a D : Addr} (h : ExAt H a D) (s : Same H H') : ExAt H' a D := by
  rcases h with h | ⟨y, h⟩
  · exact .inl (s _ _ h)
  · exact .inr ⟨y, h.same s⟩
theorem notCls_of {o : Obj} {vs : Array Value} (hd : o.data = .fields vs) : PySem.W.notCls o = true := by
  unfold PySem.W.notCls
  rw [hd]
section
variable {X : Cx} {pins : List (Addr × Obj)} {σ : L2.St} {H : Hp} {s : Shared} {a D : Addr} {y : V}
theorem ExF.inst (I : Inv X pins σ H s) (h : ExF H a D y) : ∃ ox od u, PySem.W.InstAt s.heap a ox D (some od) ∧ PySem.W.lookIn "at" od = some (some u) ∧ RelV y u := by
  obtain ⟨dx, h1, h2⟩ := h
  have z1 : ObjOk X.prog X.w H s.heap a (.ext fun h => ∃ (oe : Obj) (vs : Array Value), h.get? a = some oe ∧ Zc (.ref D) (some dx) oe ∧ oe.data = .fields vs) := I.hok a _ h1
  obtain ⟨⟨oe, vs, ha, ⟨hc, hd⟩, hv⟩, _⟩ := z1
  have z2 : ObjOk X.prog X.w H s.heap dx (.xd [(("at" : Str), y)]) := I.hok dx _ h2
  obtain ⟨mA, hn, hr⟩ := z2
  obtain ⟨od, ho, hl⟩ := lookIn_ns hn
  have l : List.lookup ("at" : Str) [(("at" : Str), y)] = some y := by simp [List.lookup]
  obtain ⟨u, hu, ru⟩ := RelO.some_of (v := y) (o := mA "at") (by rw [← l]; exact hr "at")
  exact ⟨oe, od, u, ⟨ha, hc, notCls_of hv, by rw [hd]; exact ho⟩, by rw [hl, hu], ru⟩
theorem ExAt.inst (I : Inv X pins σ H s) (h : ExAt H a D) : ∃ ox od, PySem.W.InstAt s.heap a ox D od := by
  rcases h with h | ⟨y, h⟩
  · obtain ⟨⟨oe, vs, ha, ⟨hc, hd⟩, hv, _⟩, _⟩ := I.hok a _ h
    exact ⟨oe, none, ⟨ha, hc, notCls_of hv, by rw [hd]; exact trivial⟩⟩
  · obtain ⟨ox, od, _, J, _⟩ := h.inst I
    exact ⟨ox, some od, J⟩
end
/-- X(e), X an own class without own __init__ -/
def tExN (C : Addr) (te : TE) : TE := fun σ H Q => te σ H fun _ H1 => ∀ a H2, H1 a = none → Same H1 H2 → H2 a = some (ExO (.ref C) a) → Q (.ref a) H2
theorem pe_excN {X : Cx} {C : Addr} {bmB : List Value} {B newId initId : String} {x : Str} {e : Expr} {te : TE} {p pos : Pos} (F : ExcBaseFacts B newId initId bmB) (q : PySem.W.excIn X.K C bmB newId = true) (gC : X.mg x = some (.ref C)) (kC : PySem.W.keepIn X.K (.ref C) = true) (hg : Gl X x)
    (he : PE X e te) (hs : starEach [e] X.env = (false, eval e X.env) :: starEach [] X.env := by rfl) (hdb : (x == ("__debug__" : Str)) = false := by decide) : PE X (.Call (.Name x p) [e] [] pos) (tExN C te) :=
  pe_weak (pe_exc1 F q gC kC hg (pe_cl he) hs hdb) fun _ _ _ h => ⟨_, fun _ _ z a na => z a _ na (same_new na) upd_same, h⟩
/-- isinstance(e, c) of an exception -/
def rIsX (K : PySem.W.Frag) : List V → Hp → VK → Prop := fun xs H Q => ∃ (a D : Addr) (c : V) (cv : Value) (b : Bool), xs = [.ref a, c] ∧ ExAt H a D ∧ ExcC K D ∧ (∀ u, RelV c u → u = cv) ∧ PySem.W.kitOne K (.ref D) cv = some b ∧ Q (.bl b) H
theorem call_isX {X : Cx} : CallR X (.builtin "isinstance") (rIsX X.K) := by
  intro pins s σ H xs us Q I r h
  obtain ⟨a, D, c, cv, b, rfl, hE, C, hcv, e, q⟩ := h
  cases r with
  | cons rx rr =>
    cases rr with
    | cons rt rr =>
      cases rr
      cases rx
      have ec := hcv _ rt
      subst ec
      obtain ⟨ox, od, J⟩ := hE.inst I
      have cl : (PySem.W.clsIn X.K D).isSome = true := by
        obtain ⟨cd, hc, _⟩ := PySem.W.any_some C.hd
        rw [hc]
        rfl
      exact PySem.W.kia_one (PySem.W.kitx_exc cl C.hg C.hk C.hs C.ha C.hn C.ht C.hm) I.kIn J e (fun z => nomatch z) fun tk => ⟨.bl b, H, I.kept (t' := tk) fun _ _ z => z, rfl, q⟩
/-- e.at of an exception -/
def tAtX (K : PySem.W.Frag) (te : TE) : TE := fun σ H Q => te σ H fun x H1 => ∃ (a D : Addr) (y : V), x = .ref a ∧ ExF H1 a D y ∧ ExcC K D ∧ PySem.W.findIn K (.ref D) "at" = some none ∧ Q y H1
theorem pe_atX {X : Cx} {e : Expr} {te : TE} {pos : Pos} (he : PE X e te) (hb : attributeBase e "at" X.env (eval e X.env) = eval e X.env := by rfl) : PE X (.Attribute e "at" pos) (tAtX X.K te) := by
  refine ⟨fun pins s σ H Q I h => attr_of hb (thn (he.run pins s σ H _ I h) fun u s1 hh => ?_)⟩
  obtain ⟨x, H1, I1, rx, a, D, y, rfl, hE, C, nf, q⟩ := hh
  cases rx
  obtain ⟨ox, od, u, J, l, ru⟩ := hE.inst I1
  exact HandSPX.exc_get I1.kIn J C.hg C.hk C.hs (PySem.W.findObj_own C.hd nf rfl l) (handed_of ru) ⟨y, H1, I1.tok _, ru, q⟩
/-- the promise of «def __init__(self, at): self.at = at» -/
def spInit (K : PySem.W.Frag) : Sp := fun vs H Q _ => ∃ (a C : Addr) (y : V), vs = [.ref a, y] ∧ OexC K C ∧ PySem.W.findIn K (.ref C) "at" = some none ∧ H a = some (exo a C none) ∧
  ∀ dx, H dx = none → dx ≠ a → Q .non (upd (upd H dx (exd dx [(("at" : Str), y)])) a (exo a C (some dx)))
theorem del_new {H1 : Hp} {a dx : Addr} {o1 o2 o3 : HO} (na : H1 a = none) (ne : dx ≠ a) : del (upd (upd (upd H1 a o1) dx o2) a o3) a = upd H1 dx o2 := by
  funext b
  by_cases hb : b = a
  · subst hb
    rw [del_same, upd_ne (Ne.symm ne), na]
  · rw [del_ne hb, upd_ne hb]
    by_cases hd : b = dx
    · subst hd
      rw [upd_same, upd_same]
    · rw [upd_ne hd, upd_ne hd, upd_ne hb]
/-- what C(y) asks, C with that __init__: the exception and its field -/
theorem made_F {K : PySem.W.Frag} {C : Addr} {y : V} {H1 : Hp} {Q : VK} (T : OexC K C) (nf : PySem.W.findIn K (.ref C) "at" = some none) (h : ∀ a H2, H1 a = none → Same H1 H2 → ExF H2 a C y → Q (.ref a) H2) :
    [y].length ≤ 1000 ∧ ∀ a, H1 a = none → spInit K (.ref a :: ([y] ++ [])) (upd H1 a (exo a C none)) (fun v H2 => v = .non ∧ ∃ (d : Addr) (fs : List (Str × V)), H2 a = some (exo a C (some d)) ∧ H2 d = some (exd d fs) ∧ H1 d = none ∧
      Made (upd (del H2 a) d (.xd fs)) (Value.ref C) (some d) Q) (fun _ _ _ => False) := by
  refine ⟨by simp, fun a na => ⟨a, C, y, rfl, T, nf, upd_same, fun dx nd ne => ?_⟩⟩
  have nd1 : H1 dx = none := by
    rw [upd_ne ne] at nd
    exact nd
  refine ⟨rfl, dx, [(("at" : Str), y)], upd_same, by rw [upd_ne ne, upd_same], nd1, ?_⟩
  rw [del_new na ne, upd_upd]
  intro b H3 nb s3 e3
  have sd : Same H1 (upd H1 dx (.xd [(("at" : Str), y)])) := same_new nd1
  exact h b H3 (sd.free nb) (sd.trans s3) ⟨dx, e3, s3 _ _ upd_same⟩
end Ev1
namespace Gx
open PySem PySem.Spec PyProof.Rows L2 GxR
/-! ### any, all of a generator expression whose element is run by the layer's own rules -/
/-- the generator's frame running, awake under any | all -/
abbrev gCx (X : Cx) (ge : Expr) (s : Shared) (H : Hp) (cenv : Env) (it : Addr) (fp : List Addr) (pn : List (Addr × Obj)) : Cx :=
  { X with
    s_0 := s
    H_0 := H
    env := cenv
    outer := X.stack
    stack := cenv :: X.stack
    ex := fp
    fn := fun _ => false
    pn := pn
    xe := fun _ _ => False
    A := X.A.in1.in1.over (.compLoop ge 0 (.ref it) .none cenv) [] }
theorem room_gen {k : Nat} {X : Cx} {elt : Expr} {gs : List Comprehension} {scope : Scope} {pos : Pos} {s : Shared} {H : Hp} {cenv : Env} {it : Addr} {fp : List Addr} {pn : List (Addr × Obj)} (r : Room (k + 1) X.A) :
    Room k (gCx X (.GeneratorExp elt gs scope pos) s H cenv it fp pn).A := by
  refine ⟨r.hd, ?_, ?_⟩
  · have := r.dp
    show X.A.depth + 0 + 1 + 3 * k + 5 < recursionLimit
    omega
  · have := r.un
    show X.A.units + 1 + 1 + 0 + 3 + 16 * k + 200 < cLine
    omega
/-- gens, drawn and toks say nothing but that all are bare -/
theorem inv_gens {X : Cx} {pins : List (Addr × Obj)} {σ : L2.St} {H : Hp} {s s' : Shared} (I : Inv X pins σ H s) (hh : s'.heap = s.heap) (ho : s'.os = s.os) (hb : AllBare s'.gens) : Inv X pins σ H s' := by
  obtain ⟨h, g, d, t, o⟩ := s
  obtain ⟨h', g', d', t', o'⟩ := s'
  dsimp only at hh ho hb
  subst hh ho
  exact { ok := I.ok, os := I.os, bare := hb, base := I.base, loc := I.loc, cell := I.cell, free := I.free, freeC := I.freeC, pin := I.pin, hok := I.hok, len := I.len }
theorem bare_set {s : Shared} {g : Nat} {x : GenState} (h : AllBare s.gens) (hx : x.bare = true) : AllBare (s.setGen g x).gens := by
  intro y hy
  have hy' : y ∈ s.gens.setIfInBounds g x := hy
  obtain ⟨i, hi, e⟩ := Array.mem_iff_getElem.mp hy'
  by_cases hg : g = i
  · subst hg
    rw [Array.getElem_setIfInBounds_self] at e
    rw [← e]
    exact hx
  · rw [Array.getElem_setIfInBounds_ne (by simpa using hi) hg] at e
    rw [← e]
    exact h _ (Array.getElem_mem _)
section
variable {X : Cx} {pins : List (Addr × Obj)} {σ : L2.St} {H : Hp} {s : Shared}
/-- what the frame of the generator knows as it begins -/
theorem gen_start {ge : Expr} {scope : Scope} {own : List (Str × Nat)} {fp : List Addr} {it a : Addr} {code : Value} {go : Obj} {gs : Array GenState} {tk : Nat} {h5 : Heap} {m : Str → Option Value} (I : Inv X pins σ H s) (hc : X.calm = true) (ok : BlkOk X.N X.env.scope scope own) (hN : X.N.Nodup)
    (nc : ∀ y ∈ scope.names, y.2 ≠ .cell) (hfp : ∀ b ∈ fp, FpOk X pins H b ∧ b < s.heap.objs.size) (fr : (X.A.in1.in1.over (.compLoop ge 0 (.ref it) .none (genEnv scope (cloFrom X.env.cells scope.names []) s.heap.objs.size code builtinsNs X.env)) []).frames = some (genEnv scope (cloFrom X.env.cells scope.names []) s.heap.objs.size code builtinsNs X.env :: X.stack))
    (hg : AllBare gs) (kp : ∀ b o, s.heap.get? b = some o → h5.get? b = some o) (hns : h5.Ns s.heap.objs.size m) (ha : h5.get? a = some go) (ha1 : s.heap.objs.size < a) (hd : ∀ v, go.data ≠ .cell v) :
    Inv (gCx X ge s H (genEnv scope (cloFrom X.env.cells scope.names []) s.heap.objs.size code builtinsNs X.env) it fp [(a, go)]) [] (wipe σ (own.map (·.2))) H { s with gens := gs, toks := tk, heap := h5 } := by
  have cm : ∀ {y : Str} {c : Addr}, (cloFrom X.env.cells scope.names []).lookup y = some c → X.env.cells.lookup y = some c := fun {y c} e => by
    rcases cloFrom_mem (PySem.mem_of_lookup e) with z | ⟨h1, z⟩
    · cases z
    · have q : ∃ c', X.env.cells.lookup y = some c' := by
        rcases ok.free (y, .free) h1 rfl with k | k
        · exact I.ok.has y (.inl k)
        · exact I.ok.has y (.inr k)
      obtain ⟨c', q⟩ := q
      rw [q] at z
      rw [q, z]
      rfl
  have ch : ∀ {y : Str}, scope.names.lookup y = some .free → ∃ c, (cloFrom X.env.cells scope.names []).lookup y = some c := fun {y} e => mem_lookup (cloFrom_has (PySem.mem_of_lookup e))
  have noc : ∀ {y : Str}, scope.names.lookup y ≠ some .cell := fun {y} e => nc _ (PySem.mem_of_lookup e) rfl
  have stL : ∀ b ∈ frs X.stack, b < s.heap.objs.size := fun b hb => by
    obtain ⟨_, o, e, _⟩ := I.stack.mem hb
    exact Heap.lt_size e
  have okG : (gCx X ge s H (genEnv scope (cloFrom X.env.cells scope.names []) s.heap.objs.size code builtinsNs X.env) it fp [(a, go)]).Ok := {
    mod := I.ok.mod
    kind := ok.kind
    glob := I.ok.glob
    blt := rfl
    above := Nat.le_refl _
    inj := fun x y c h1 h2 => I.ok.inj x y c (cm h1) (cm h2)
    has := fun x h => h.elim (fun k => absurd k noc) fun k => ch k
    cab := fun x c h => Bool.noConfusion h
    hd := fun h => I.ok.hd h
    frames := fr
    stk := .inr ⟨rfl, rfl⟩
    exf := fun b hb => ⟨Nat.ne_of_lt (hfp b hb).2, fun x c e => (hfp b hb).1.2.2.2.2.1 x c (cm e)⟩
    bs := I.bs
    bsz := Nat.le_trans I.ok.bsz I.sz
    noex := fun b o e hb => by
      rcases (hfp b hb).1.2.2.2.1 with z | z
      · exact I.ok.noex b o e z
      · exact Nat.lt_irrefl _ (Nat.lt_of_lt_of_le (Heap.lt_size e) (Nat.le_trans I.ok.bsz z))
    exfs := fun b hb z => by
      rcases List.mem_cons.mp (I.stkSub b z) with y | y
      · exact (hfp b hb).1.2.1 y
      · exact (hfp b hb).1.2.2.1 y
    funs := I.stack
    frf := I.stkFree }
  refine { ok := okG, os := rfl, bare := hg, base := Un.kept kp, loc := ⟨m, hns, fun i x v e1 e2 e3 => ?_⟩, cell := fun x c e => ?_, free := I.hok.fresh (Nat.le_refl _), freeC := fun x c e => I.freeC x c (cm e), pin := fun p hp => ?_, hok := I.hok.kept kp, len := (wipe_length _ _).trans I.len }
  · obtain ⟨e2, hi⟩ := wipe_some e2
    have hf : scope.names.lookup x = some .free := by
      have no : ∀ k, scope.names.lookup x = some k → ¬ (k = .local ∨ k = .cell) := fun k hk hh => by
        rcases ok.own _ (PySem.mem_of_lookup hk) hh with z | z
        · obtain ⟨p, hp, hx⟩ := List.mem_map.mp z
          have q := ok.ix p hp
          have hx' : p.1 = x := hx
          rw [hx'] at q
          exact hi (List.mem_map.mpr ⟨p, hp, nodup_ix hN q e1⟩)
        · exact z (List.mem_of_getElem? e1)
      have e3 : Vis scope x := e3
      rcases e3 with k | k | k
      · exact absurd (.inl rfl) (no _ k)
      · exact absurd (.inr rfl) (no _ k)
      · exact k
    have hv := ok.free _ (PySem.mem_of_lookup hf) rfl
    obtain ⟨m0, _, hl⟩ := I.loc
    obtain ⟨u, ru, q⟩ := hl i x v e1 e2 (.inr hv)
    refine ⟨u, ru, .inr ⟨.inr hf, ?_⟩⟩
    rcases q with ⟨k, _⟩ | ⟨_, c, ec, z⟩
    · have k' : X.env.scope.names.lookup x = some .local := k
      rcases hv with y | y
      · have y' : X.env.scope.names.lookup x = some .cell := y
        rw [k'] at y'
        cases y'
      · have y' : X.env.scope.names.lookup x = some .free := y
        rw [k'] at y'
        cases y'
    · obtain ⟨c', e'⟩ := ch hf
      have e2 := cm e'
      rw [ec] at e2
      cases e2
      exact ⟨c, e', z.keeps kp⟩
  · obtain ⟨v, z⟩ := I.cell x c (cm e)
    exact ⟨v, z.keeps kp⟩
  · have hp' : p ∈ [(a, go)] ++ ([] : List (Addr × Obj)) := hp
    have e : p = (a, go) := by simpa using hp'
    subst e
    refine ⟨ha, I.hok.fresh (Nat.le_of_lt ha1), Nat.ne_of_gt ha1, fun z => ?_, hd⟩
    exact Nat.lt_irrefl _ (Nat.lt_trans (stL _ z) ha1)
end
/-- what a turn's way through the generator must reach. stopb: the truth at which any (true), all (false) stops -/
def GEndP (Y : Cx) (σw : L2.St) (stopb : Bool) (Q : VK) : Nat → Shared → Shared → Prop := fun _ _ s => ∃ H', Inv Y [] σw H' s ∧ Q (.bl (!stopb)) H'
def GProto (Y : Cx) (σw : L2.St) (fp : List Addr) (tn : Nat → Heap → Prop) (W : Nat → Nat → Hp → Prop) (stopb : Bool) (Q : VK) : Protocol := fun n _ v s kap => ∃ (k : Bool) (H' : Hp), v = .bool k ∧ Inv Y [] σw H' s ∧
  ((k = stopb ∧ Q (.bl stopb) H') ∨ (k = !stopb ∧ ∃ i m, m < n ∧ W i m H' ∧ ∀ s'' : Shared, s''.heap = s.heap → s''.os = s.os → AllBare s''.gens → kap (.send .none) s''))
section
variable {X : Cx} {elt tg iter : Expr} {ifs : List Expr} {scope : Scope} {gpos : Pos} {s4 : Shared} {H4 : Hp} {cenv : Env} {it : Addr} {fp : List Addr} {pn : List (Addr × Obj)} {J : It} {tn : Nat → Heap → Prop} {g : TG} {tt : TT} {te : TE} {own : List Nat} {σ : L2.St} {stopb : Bool} {Q : VK} {W : Nat → Nat → Hp → Prop}
/-- the turns of the generator's own loop -/
theorem gen_loop (hc : X.calm = true) (hco : cenv.scope.isCoroutine = false) (T : Turn X.prog X.w X.K tg J fp it tn) (hpn : ∀ p ∈ pn, ∀ b ∈ fp, p.1 ≠ b)
    (pg : PG (gCx X (.GeneratorExp elt [⟨tg, iter, ifs, 0⟩] scope gpos) s4 H4 cenv it fp pn) tg g) (pt : PTs (gCx X (.GeneratorExp elt [⟨tg, iter, ifs, 0⟩] scope gpos) s4 H4 cenv it fp pn) ifs tt) (pe : PE (gCx X (.GeneratorExp elt [⟨tg, iter, ifs, 0⟩] scope gpos) s4 H4 cenv it fp pn) elt te)
    (turn : ∀ i m H, W i m H → (J.stop i H ∧ Q (.bl (!stopb)) H) ∨ (J.go i H ∧ ∃ Nx : Hp → Prop, (∀ H', Nx H' → ∃ m', m' < m ∧ W (i + 1) m' H') ∧ ∀ x H', J.yld i H x H' → g x (wipe σ own) H' fun σ2 H2 => wipe σ2 own = wipe σ own ∧ tt σ2 H2 fun b H3 =>
      if b = true then te σ2 H3 fun y H4 => (y = .bl stopb ∧ Q (.bl stopb) H4) ∨ (y = .bl (!stopb) ∧ Nx H4) else Nx H3)) :
    ∀ (m n i : Nat) (s0 s : Shared) (H' : Hp), m < n → W i m H' → Inv (gCx X (.GeneratorExp elt [⟨tg, iter, ifs, 0⟩] scope gpos) s4 H4 cenv it fp pn) [] (wipe σ own) H' s → tn i s.heap → (∀ b ∈ fp, H' b = none) →
      Seg (model X.prog X.w) X.A.in1.in1 (fun n s0 r s1 => r = .ok .next ∧ GEndP (gCx X (.GeneratorExp elt [⟨tg, iter, ifs, 0⟩] scope gpos) s4 H4 cenv it fp pn) (wipe σ own) stopb Q n s0 s1)
        (GProto (gCx X (.GeneratorExp elt [⟨tg, iter, ifs, 0⟩] scope gpos) s4 H4 cenv it fp pn) (wipe σ own) fp tn W stopb Q) n s0
        (.compLoop (.GeneratorExp elt [⟨tg, iter, ifs, 0⟩] scope gpos) 0 (.ref it) .none cenv) ((model X.prog X.w).den (.compLoop (.GeneratorExp elt [⟨tg, iter, ifs, 0⟩] scope gpos) 0 (.ref it) .none cenv)) [] s := by
  intro m
  induction m using Nat.strongRecOn with
  | ind m ih =>
    intro n i s0 s H' hmn w I st nf
    have fpk : ∀ {σ' : L2.St} {H' : Hp} {s' : Shared}, Inv (gCx X (.GeneratorExp elt [⟨tg, iter, ifs, 0⟩] scope gpos) s4 H4 cenv it fp pn) [] σ' H' s' → (∀ b ∈ fp, H' b = none) → ∀ b ∈ fp, FpOk (gCx X (.GeneratorExp elt [⟨tg, iter, ifs, 0⟩] scope gpos) s4 H4 cenv it fp pn) [] H' b := fun {σ' H' s'} I' hn b hb =>
      ⟨hn b hb, (I'.ok.exf b hb).1, I'.ok.exfs b hb, .inl hb, (I'.ok.exf b hb).2, fun p hp => hpn p (by simpa using hp) b hb⟩
    show Seg _ _ _ _ n s0 _ ((compTurn (.GeneratorExp elt [⟨tg, iter, ifs, 0⟩] scope gpos) 0 (.ref it) .none cenv).onRaise (leaving cenv)) [] s
    rw [compTurn_gen, Sem.onRaise_eq_wrap]
    refine seg_bind_wrap (wpAny_standAt ?_)
    rcases turn i m H' w with ⟨stop, q⟩ | ⟨go, Nx, hNx, step⟩
    · refine seg_bind_wrap (thnF (T.done (gCx X (.GeneratorExp elt [⟨tg, iter, ifs, 0⟩] scope gpos) s4 H4 cenv it fp pn) rfl rfl rfl hc i [] s _ H' (fun _ _ => False) I (fpk I nf) st stop) fun r s1 z => ?_)
      obtain ⟨rfl, I1⟩ := z
      exact seg_end (.ok .next) ⟨rfl, H', I1, q⟩
    · refine seg_bind_wrap (thnF (T.item (gCx X (.GeneratorExp elt [⟨tg, iter, ifs, 0⟩] scope gpos) s4 H4 cenv it fp pn) rfl rfl rfl hc i [] s _ H' (fun _ _ => False) I (fpk I nf) st go) fun r s1 z => ?_)
      obtain ⟨u, rfl, z⟩ := z
      refine seg_bind_wrap (thnF z fun _ s2 z2 => ?_)
      obtain ⟨x, H2, I2, r2, y2, st2, n2⟩ := z2
      have P2 := I2.pinned (fpk I2 n2) (T.obj _ _ st2)
      refine seg_bind_wrap (thnF (pg.run _ s2 _ H2 x u _ P2 r2 (step x H2 y2)) fun _ s3 z3 => ?_)
      obtain ⟨σ3, H3, I3, hw, q3⟩ := z3
      refine seg_bind_wrap (thnF (pt.run _ s3 σ3 H3 _ I3 q3) fun b sb zb => ?_)
      obtain ⟨Hb, Ib, qb⟩ := zb
      have back : ∀ {s' : Shared} {H' : Hp}, Inv (gCx X (.GeneratorExp elt [⟨tg, iter, ifs, 0⟩] scope gpos) s4 H4 cenv it fp pn) ([] ++ pinsAt fp s2.heap) σ3 H' s' →
          Inv (gCx X (.GeneratorExp elt [⟨tg, iter, ifs, 0⟩] scope gpos) s4 H4 cenv it fp pn) [] (wipe σ own) H' s' ∧ tn (i + 1) s'.heap ∧ ∀ b ∈ fp, H' b = none := fun {s' H'} I' => by
        have pin' : ∀ b ∈ fp, ∀ o, s2.heap.get? b = some o → s'.heap.get? b = some o ∧ H' b = none := fun b hb o e =>
          have y := I'.pin (b, o) (List.mem_append_right _ (List.mem_append_right _ (mem_pinsAt hb e)))
          ⟨y.1, y.2.1⟩
        have hl : (wipe σ own).length = σ3.length := by
          rw [← hw, wipe_length]
        refine ⟨(I'.unpinned (pins := [])).weak hl (fun j v e => ?_), T.keep _ _ _ st2 (fun b hb o e => (pin' b hb o e).1), fun b hb => ?_⟩
        · rw [← hw] at e
          exact (wipe_some e).1
        · obtain ⟨o, e, _⟩ := T.obj _ _ st2 b hb
          exact (pin' b hb o e).2
      cases b with
      | false =>
        simp only [Bool.false_eq_true, if_false] at qb ⊢
        obtain ⟨m', hm, w'⟩ := hNx _ qb
        obtain ⟨I', st', n'⟩ := back Ib
        exact seg_again rfl (ih m' hm n (i + 1) s0 sb Hb (Nat.lt_trans hm hmn) w' I' st' n')
      | true =>
        simp only [if_true] at qb ⊢
        have hy : ∀ v, yieldOut cenv v = yieldValue v := fun v => by simp only [yieldOut, hco, Bool.false_eq_true, if_false]
        simp only [hy]
        rw [Sem.bind_eq_wrap', Sem.bind_eq_wrap', Sem.wrap_wrap, Sem.wrap_wrap]
        refine seg_wrap (thnF (pe.run _ sb σ3 Hb _ Ib qb) fun z sy zy => ?_)
        obtain ⟨v, Hy, Iy, ry, qy⟩ := zy
        obtain ⟨I', st', n'⟩ := back Iy
        obtain ⟨n1, rfl⟩ : ∃ n1, n = n1 + 1 := ⟨n - 1, by omega⟩
        refine seg_at (seg_yield rfl rfl rfl ?_)
        rcases qy with ⟨rfl, q⟩ | ⟨rfl, q⟩
        · cases ry
          exact ⟨stopb, Hy, rfl, I', .inl ⟨rfl, q⟩⟩
        · cases ry
          obtain ⟨m', hm, w'⟩ := hNx _ q
          refine ⟨!stopb, Hy, rfl, I', .inr ⟨rfl, i + 1, m', by omega, w', fun s'' hh ho hb => ?_⟩⟩
          exact seg_again rfl (ih m' hm n1 (i + 1) s'' s'' Hy (by omega) w' (inv_gens I' hh ho hb) (by rw [hh]; exact st') n')
/-- the start of the generator's code -/
theorem gen_begin {n : Nat} {s0 s : Shared} {R : GenEnd} {Y : Protocol} (T : Turn X.prog X.w X.K tg J fp it tn) (st : tn 0 s.heap)
    (loop : Seg (model X.prog X.w) X.A.in1.in1 R Y n s0 (.compLoop (.GeneratorExp elt [⟨tg, iter, ifs, 0⟩] scope gpos) 0 (.ref it) .none cenv) ((model X.prog X.w).den (.compLoop (.GeneratorExp elt [⟨tg, iter, ifs, 0⟩] scope gpos) 0 (.ref it) .none cenv)) [] s) :
    Seg (model X.prog X.w) X.A.in1.in1 R Y n s0 (.compStart (.GeneratorExp elt [⟨tg, iter, ifs, 0⟩] scope gpos) 0 (.ref it) .none cenv) ((model X.prog X.w).den (.compStart (.GeneratorExp elt [⟨tg, iter, ifs, 0⟩] scope gpos) 0 (.ref it) .none cenv)) [] s := by
  show Seg _ _ _ _ n s0 _ ((compStart (.GeneratorExp elt [⟨tg, iter, ifs, 0⟩] scope gpos) 0 (.ref it) .none cenv).onRaise (leaving cenv)) [] s
  unfold compStart
  rw [Sem.onRaise_eq_wrap]
  refine seg_bind_wrap (wpAny_askSetting ?_)
  split
  · exact seg_again rfl loop
  · refine seg_bind_wrap (wpAny_rule ?_)
    show Seg _ _ _ _ n s0 _ ((standAt iter.pos >>= _).wrap _ _ _ _) [] s
    refine seg_bind_wrap (wpAny_standAt (seg_bind_wrap ?_))
    exact T.self _ 0 s _ _ st (seg_again rfl loop)
end
/-- the generator at a, number gn, is asleep (or fresh), with n turns at most -/
def Asleep (X Y : Cx) (σw : L2.St) (fp : List Addr) (tn : Nat → Heap → Prop) (W : Nat → Nat → Hp → Prop) (stopb : Bool) (Q : VK) (gn n : Nat) (s : Shared) : Prop :=
  ∃ (gs : GenState) (H' : Hp), s.gens[gn]? = some gs ∧ Inv Y [] σw H' s ∧ ∀ s'' : Shared, s''.heap = s.heap → s''.os = s.os → AllBare s''.gens →
    gs.Goes (model X.prog X.w) X.A.in1.in1 (fun n s0 r s1 => r = .ok .next ∧ GEndP Y σw stopb Q n s0 s1) (GProto Y σw fp tn W stopb Q) n (.send .none) s''
section
variable {X Y : Cx} {σw : L2.St} {fp : List Addr} {tn : Nat → Heap → Prop} {W : Nat → Nat → Hp → Prop} {Q : VK} {gn : Nat} {a : Addr} {go : Obj} {R : Result → Shared → Prop}
theorem set_at {s : Shared} {x : GenState} (h : gn < s.gens.size) : (s.setGen gn x).gens[gn]? = some x := by
  show (s.gens.setIfInBounds gn x)[gn]? = some x
  rw [Array.getElem?_setIfInBounds_self_of_lt h]
/-- one waking of the generator -/
theorem wake {stopb : Bool} {n : Nat} {s : Shared} {Q' : Option Value → Shared → Prop} {E : Value → Shared → Prop} (hh : X.A.handled = none) (hroom : X.A.depth < recursionLimit) (hp : (a, go) ∈ Y.pn) (hgo : ∀ h : Heap, h.get? a = some go → h.IsGen a gn) (S : Asleep X Y σw fp tn W stopb Q gn n s)
    (stop : ∀ s' H', Inv Y [] σw H' s' → Q (.bl stopb) H' → Q' (some (.bool stopb)) s') (next : ∀ s' m, m < n → Asleep X Y σw fp tn W stopb Q gn m s' → Q' (some (.bool (!stopb))) s') (done : ∀ s' H', Inv Y [] σw H' s' → Q (.bl (!stopb)) H' → Q' none s') :
    wpAny (model X.prog X.w) X.A.in1 (pyNext (.ref a)) Q' E s := by
  obtain ⟨gs, H', hg, I, hG⟩ := S
  have hlt : gn < s.gens.size := by
    rcases Nat.lt_or_ge gn s.gens.size with z | z
    · exact z
    · rw [Array.getElem?_eq_none z] at hg
      cases hg
  have ig : s.heap.IsGen a gn := hgo _ (I.pin (a, go) (List.mem_append_left _ hp)).1
  refine GenW.wpAny_gsz (n := s.gens.size) (Nat.le_refl _) ?_
  refine wpAny_pyNext_genexpQ (A := X.A.in1) hh I.nolimit hroom ig hg (hG _ rfl rfl (bare_set I.bare rfl)) (fun v s1 gs' hb hv sz => ?_) (fun s1 hp1 h' hk sz => ?_)
  · obtain ⟨k, H1, rfl, I1, z⟩ := hv
    have sz1 : gn < s1.gens.size := by
      have e : (s1.setGen gn gs').gens.size = s1.gens.size := GenW.setGen_size _ _ _
      rw [e] at sz
      omega
    have I2 : Inv Y [] σw H1 (s1.setGen gn gs') := inv_gens I1 rfl rfl (bare_set I1.bare hb)
    rcases z with ⟨rfl, q⟩ | ⟨rfl, i, m, hm, w, kap⟩
    · exact stop _ H1 I2 q
    · cases n with
      | zero => omega
      | succ n1 =>
        refine next _ n1 (Nat.lt_succ_self _) ⟨gs', H1, set_at sz1, I2, fun s'' h1 h2 h3 => ?_⟩
        exact kap s'' h1 h2 h3
  · obtain ⟨H1, I1, q⟩ := hp1
    refine done _ H1 ?_ q
    have I2 : Inv Y [] σw H1 (s1.setGen gn .finished) := inv_gens I1 rfl rfl (bare_set I1.bare rfl)
    exact I2.kept (h' := h') (t' := s1.toks) fun b o e => hk b o e
theorem any_loop (hh : X.A.handled = none) (hroom : X.A.depth < recursionLimit) (hp : (a, go) ∈ Y.pn) (hgo : ∀ h : Heap, h.get? a = some go → h.IsGen a gn)
    (fin : ∀ s' H' b, Inv Y [] σw H' s' → Q (.bl b) H' → R (.ok (.ret (.bool b))) s') : ∀ (n : Nat) (s : Shared), Asleep X Y σw fp tn W true Q gn n s → codeAny (model X.prog X.w) X.A (.builtin "any.loop" ⟨[.ref a], []⟩) R s := by
  intro n
  induction n using Nat.strongRecOn with
  | ind n ih =>
    intro s S
    refine codeAny_builtin F.entry_any_loop ?_
    rw [Around.under_plainId F.plain_any_loop _]
    show wpAny _ X.A.in1 (pyNext (.ref a) >>= _) _ _ s
    refine wpAny_bind (wake hh hroom hp hgo S (fun s' H' I q => ?_) (fun s' m hm S' => ?_) (fun s' H' I q => ?_))
    · refine wpAny_bind (wpAny_holding (wpAny_truthy_bool (wpAny_bind (wpAny_letGo ?_))))
      simp only [if_true]
      exact wpAny_bind (wpAny_rule (wpAny_pure (fin s' H' true I q)))
    · refine wpAny_bind (wpAny_holding (wpAny_truthy_bool (wpAny_bind (wpAny_letGo ?_))))
      simp only [Bool.not_true, Bool.false_eq_true, if_false]
      exact wpAny_pure ⟨plainId_quiet F.plain_any_loop _, ih m hm s' S'⟩
    · exact wpAny_bind (wpAny_rule (wpAny_pure (fin s' H' false I q)))
theorem all_loop (hh : X.A.handled = none) (hroom : X.A.depth < recursionLimit) (hp : (a, go) ∈ Y.pn) (hgo : ∀ h : Heap, h.get? a = some go → h.IsGen a gn)
    (fin : ∀ s' H' b, Inv Y [] σw H' s' → Q (.bl b) H' → R (.ok (.ret (.bool b))) s') : ∀ (n : Nat) (s : Shared), Asleep X Y σw fp tn W false Q gn n s → codeAny (model X.prog X.w) X.A (.builtin "all.loop" ⟨[.ref a], []⟩) R s := by
  intro n
  induction n using Nat.strongRecOn with
  | ind n ih =>
    intro s S
    refine codeAny_builtin F.entry_all_loop ?_
    rw [Around.under_plainId F.plain_all_loop _]
    show wpAny _ X.A.in1 (pyNext (.ref a) >>= _) _ _ s
    refine wpAny_bind (wake hh hroom hp hgo S (fun s' H' I q => ?_) (fun s' m hm S' => ?_) (fun s' H' I q => ?_))
    · refine wpAny_bind (wpAny_holding (wpAny_truthy_bool (wpAny_bind (wpAny_letGo ?_))))
      simp only [Bool.false_eq_true, if_false]
      exact wpAny_bind (wpAny_rule (wpAny_pure (fin s' H' false I q)))
    · refine wpAny_bind (wpAny_holding (wpAny_truthy_bool (wpAny_bind (wpAny_letGo ?_))))
      simp only [Bool.not_false, if_true]
      exact wpAny_pure ⟨plainId_quiet F.plain_all_loop _, ih m hm s' S'⟩
    · exact wpAny_bind (wpAny_rule (wpAny_pure (fin s' H' true I q)))
end
/-- any(elt for target in iter if ..) (stopb true), all(..) (stopb false): W by the turn and a measure, Nx what a turn is to reach; P: the def's table of code objects -/
def tAA (P : Addr) (stopb : Bool) (wi : TI) (g : TG) (tt : TT) (te : TE) (vs : List Nat) : TE := fun σ H Q => wi σ H fun J H1 => TabG H1 P ∧ ∀ H2, Tabbed P H1 H2 → ∃ W : Nat → Nat → Hp → Prop, (∃ m, W 0 m H2) ∧
  ∀ i m H, W i m H → (J.stop i H ∧ Q (.bl (!stopb)) H) ∨ (J.go i H ∧ ∃ Nx : Hp → Prop, (∀ H', Nx H' → ∃ m', m' < m ∧ W (i + 1) m' H') ∧ ∀ x H', J.yld i H x H' → g x (wipe σ vs) H' fun σ2 H2 => wipe σ2 vs = wipe σ vs ∧ tt σ2 H2 fun b H3 =>
    if b = true then te σ2 H3 fun y H4 => (y = .bl stopb ∧ Q (.bl stopb) H4) ∨ (y = .bl (!stopb) ∧ Nx H4) else Nx H3)
/-- over a tuple that stays -/
theorem aa_tup {K : PySem.W.Frag} {a : Addr} {xs : List V} {g : TG} {tt : TT} {te : TE} {vs : List Nat} {σ : L2.St} {H1 : Hp} {stopb : Bool} {Q : VK} (Pv : Nat → Hp → Prop) (h0 : Pv 0 H1) (hl : ∀ i H, i ≤ xs.length → Pv i H → SqT K H a xs)
    (hs : ∀ i x H, xs[i]? = some x → Pv i H → g x (wipe σ vs) H fun σ2 H2 => wipe σ2 vs = wipe σ vs ∧ tt σ2 H2 fun b H3 => if b = true then te σ2 H3 fun y H4 => (y = .bl stopb ∧ Q (.bl stopb) H4) ∨ (y = .bl (!stopb) ∧ Pv (i + 1) H4) else Pv (i + 1) H3) (hd : ∀ H, Pv xs.length H → Q (.bl (!stopb)) H) :
    ∃ W : Nat → Nat → Hp → Prop, (∃ m, W 0 m H1) ∧ ∀ i m H, W i m H → ((Itt K a).stop i H ∧ Q (.bl (!stopb)) H) ∨ ((Itt K a).go i H ∧ ∃ Nx : Hp → Prop, (∀ H', Nx H' → ∃ m', m' < m ∧ W (i + 1) m' H') ∧ ∀ x H', (Itt K a).yld i H x H' → g x (wipe σ vs) H' fun σ2 H2 => wipe σ2 vs = wipe σ vs ∧ tt σ2 H2 fun b H3 =>
      if b = true then te σ2 H3 fun y H4 => (y = .bl stopb ∧ Q (.bl stopb) H4) ∨ (y = .bl (!stopb) ∧ Nx H4) else Nx H3) := by
  refine ⟨fun i m H => i + m = xs.length ∧ Pv i H, ⟨xs.length, Nat.zero_add _, h0⟩, fun i m H ⟨e, p⟩ => ?_⟩
  have sq := hl i H (by omega) p
  cases m with
  | zero =>
    have ei : i = xs.length := by omega
    subst ei
    exact .inl ⟨⟨xs, sq, Nat.le_refl _⟩, hd H p⟩
  | succ m =>
    have lt : i < xs.length := by omega
    refine .inr ⟨⟨xs, xs[i], sq, List.getElem?_eq_getElem lt⟩, Pv (i + 1), fun H' q => ⟨m, Nat.lt_succ_self m, by omega, q⟩, fun x H' y => ?_⟩
    obtain ⟨rfl, y⟩ := y
    exact hs i x _ (y xs sq) p
section
variable {X : Cx} {pins : List (Addr × Obj)} {σ : L2.St} {H : Hp} {s : Shared} {c P : Addr} {elt tg iter : Expr} {ifs : List Expr} {scope : Scope} {own : List (Str × Nat)} {gpos : Pos} {wi : TI} {g : TG} {tt : TT} {te : TE} {stopb : Bool} {k : Nat}
/-- the scope of a generator expression: no cells of its own -/
structure GSc (scope : Scope) : Prop where
  co : scope.isCoroutine = false
  nc : ∀ y ∈ scope.names, y.2 ≠ .cell
  dot : scope.names.lookup (".0" : Str) = some NameKind.local
theorem gen_make {Q : VK} {Q' : Value → Shared → Prop} (hr : Room k X.A) (hc : X.calm = true) (hN : X.N.Nodup) (TB : TabB X.base X.mg c P) (hcode : X.env.code = .ref c) (hi : PI X tg iter wi) (ok : BlkOk X.N X.env.scope scope own) (S : GSc scope)
    (hg : ∀ (s : Shared) (H : Hp) (C : Addr) (code : Value) (it : Addr) (fp : List Addr) (pn : List (Addr × Obj)), PG (gCx X (.GeneratorExp elt [⟨tg, iter, ifs, 0⟩] scope gpos) s H (genEnv scope (cloFrom X.env.cells scope.names []) C code builtinsNs X.env) it fp pn) tg g)
    (ht : ∀ (s : Shared) (H : Hp) (C : Addr) (code : Value) (it : Addr) (fp : List Addr) (pn : List (Addr × Obj)), PTs (gCx X (.GeneratorExp elt [⟨tg, iter, ifs, 0⟩] scope gpos) s H (genEnv scope (cloFrom X.env.cells scope.names []) C code builtinsNs X.env) it fp pn) ifs tt)
    (he : ∀ (s : Shared) (H : Hp) (C : Addr) (code : Value) (it : Addr) (fp : List Addr) (pn : List (Addr × Obj)), PE (gCx X (.GeneratorExp elt [⟨tg, iter, ifs, 0⟩] scope gpos) s H (genEnv scope (cloFrom X.env.cells scope.names []) C code builtinsNs X.env) it fp pn) elt te)
    (hs : ∀ x, genFold iter X.env x = pure x) (I : Inv X pins σ H s) (h : tAA P stopb wi g tt te (own.map (·.2)) σ H Q)
    (hQ : ∀ (a : Addr) (go : Obj) (gn n : Nat) (Y : Cx) (fp : List Addr) (tn : Nat → Heap → Prop) (W : Nat → Nat → Hp → Prop) (s5 : Shared), (a, go) ∈ Y.pn → (∀ h : Heap, h.get? a = some go → h.IsGen a gn) → (∀ s' H', Inv Y [] (wipe σ (own.map (·.2))) H' s' → Inv X pins σ H' s') → s5.heap.get? a = some go →
      Asleep X Y (wipe σ (own.map (·.2))) fp tn W stopb Q gn n s5 → Q' (.ref a) s5) :
    wpAny (model X.prog X.w) X.A (eval (.GeneratorExp elt [⟨tg, iter, ifs, 0⟩] scope gpos) X.env) Q' X.xe s := by
  have hfree : ∀ y ∈ scope.names, y.2 = .free → ∃ c, X.env.cells.lookup y.1 = some c := fun y hy e => by
    rcases ok.free y hy e with z | z
    · exact I.ok.has _ (.inl z)
    · exact I.ok.has _ (.inr z)
  refine wpAny_GeneratorExp_make S.co (closure_ok hfree) S.nc S.dot ok.kind (by have := hr.dp; omega) (thn (hi.run pins s σ H _ I h) fun xv s1 hx => thn hx fun itv s2 h2 => ?_) hs
  obtain ⟨it, fp, tn, J, H2, rfl, I2, T, st2, f2, ⟨ps, hP, hT⟩, q⟩ := h2
  have hPs : s2.heap.get? P = some { cls := .none, data := .fields ps } := I2.hok P _ hP
  have cd : PySem.W.CodeHd s2.heap c P := TB.code.keeps I2.bk
  have szf : ∀ b ∈ fp, b < s2.heap.objs.size := fun b hb => by
    obtain ⟨o, e, _⟩ := T.obj _ _ st2 b hb
    exact Heap.lt_size e
  have nP : ∀ b ∈ fp, b ≠ P := fun b hb z => by
    have e := (f2 b hb).1
    rw [z, hP] at e
    cases e
  refine ⟨I2.nolimit, ?_⟩
  have cont : ∀ (code : Value) (h3 : Heap) (tk : Nat) (more : Array Value), Heap.ExtBut P s2.heap h3 → s2.heap.objs.size ≤ h3.objs.size → h3.get? P = some { cls := .none, data := .fields (ps ++ more) } → TriplesOk (ps ++ more).toList →
      wpAny (model X.prog X.w) X.A (builtinsFor X.env.globals X.env.builtins) (fun bi s4 => ∀ h', h'.Ns s4.heap.objs.size (fun y => if y = ".0" then some (.ref it) else none) → Heap.SameBut s4.heap.objs.size (s4.heap.push { cls := .type "frame", data := .dict #[] }) h' →
        Q' (.ref h'.objs.size) { s4 with
          gens := s4.gens.push (.fresh (.compStart (.GeneratorExp elt [⟨tg, iter, ifs, 0⟩] scope gpos) 0 (.ref it) .none (genEnv scope (cloFrom X.env.cells scope.names []) s4.heap.objs.size code bi X.env))),
          toks := s4.toks + 1 + 1 + 1,
          heap := h'.push { cls := .type "generator", data := .fields #[.int s4.gens.size 0, .str "<genexpr>" (s4.toks + 1), .str (X.env.qual ++ "<genexpr>") (s4.toks + 1 + 1)] } }) X.xe { s2 with heap := h3, toks := tk } := by
    intro code h3 tk more hx hsz hP3 hT3
    obtain ⟨bm, ob, e1, e2, e3, e4, e5, e6, e7, e8⟩ := TB.bm
    have I3 : Inv X pins σ (upd H2 P (.tbl (ps ++ more))) { s2 with heap := h3, toks := tk } := inv_tab (g' := s2.gens) (d' := s2.drawn) (t' := tk) I2 hP (fun b o hb e => hx b o hb e) hP3 I2.bare
    have f3 : ∀ b ∈ fp, FpOk X pins (upd H2 P (.tbl (ps ++ more))) b ∧ b < h3.objs.size := fun b hb => ⟨⟨by rw [upd_ne (nP b hb)]; exact (f2 b hb).1, (f2 b hb).2⟩, Nat.lt_of_lt_of_le (szf b hb) hsz⟩
    have st3 : tn 0 h3 := T.keep _ _ _ st2 fun b hb o e => hx b o (nP b hb) e
    obtain ⟨W, ⟨m0, w0⟩, turn⟩ := q (upd H2 P (.tbl (ps ++ more))) ⟨⟨_, upd_same, hT3⟩, fun b hb => upd_ne hb⟩
    refine wpAny_builtinsFor (m := X.mg) (by rw [I3.ok.glob]; exact I3.mod.glob.keeps I3.bk) e1 e2 (hx _ _ e4 (I2.bk _ _ e5)) e6 e7 e8 ?_
    intro h' hn' hs'
    have hsz' : h'.objs.size = h3.objs.size + 1 := by
      rw [hs'.1]
      exact Heap.size_push ..
    have kp : ∀ b o, h3.get? b = some o → (h'.push { cls := .type "generator", data := .fields #[.int s2.gens.size 0, .str "<genexpr>" (tk + 1), .str (X.env.qual ++ "<genexpr>") (tk + 1 + 1)] }).get? b = some o := fun b o e =>
      Heap.get?_push_of_some _ (hs'.extBut b o (Nat.ne_of_lt (Heap.lt_size e)) (Heap.get?_push_of_some _ e))
    have st5 := T.keep _ _ _ st3 fun b hb o e => kp b o e
    have nf : ∀ b ∈ fp, (upd H2 P (.tbl (ps ++ more))) b = none := fun b hb => (f3 b hb).1.1
    have IG := gen_start (ge := .GeneratorExp elt [⟨tg, iter, ifs, 0⟩] scope gpos) (it := it) (code := code) (tk := tk + 1 + 1 + 1)
      (gs := s2.gens.push (.fresh (.compStart (.GeneratorExp elt [⟨tg, iter, ifs, 0⟩] scope gpos) 0 (.ref it) .none (genEnv scope (cloFrom X.env.cells scope.names []) h3.objs.size code builtinsNs X.env)))) I3 hc ok hN S.nc f3
      (by show pushEnvs [_] (pushEnvs [] X.A.frames) = _; rw [I.ok.frames]; rfl) (I2.bare.push rfl) kp (hn'.keeps fun b o e => Heap.get?_push_of_some _ e) (Heap.get?_push_size h' rfl) (show h3.objs.size < h'.objs.size by omega) (fun v z => by cases z)
    refine hQ h'.objs.size _ s2.gens.size (m0 + 1) _ fp tn W _ List.mem_cons_self (fun h0 e => ?_) (fun s' H' J' => ?_) (Heap.get?_push_size h' rfl) ⟨_, _, Array.getElem?_push_size .., IG, fun s'' h1 h2 h3' => ?_⟩
    · exact ⟨_, _, _, e, rfl, rfl, rfl⟩
    · exact I3.call' (ch := fp) J'.os J'.base J'.hok J'.bare fun b hb => ⟨(f3 b hb).1.2.2.2.1, (f3 b hb).1.2.1, (f3 b hb).1.2.2.2.2.1, (f3 b hb).1.2.2.2.2.2⟩
    · refine ⟨rfl, gen_begin T (by rw [h1]; exact st5) ?_⟩
      refine gen_loop hc S.co T (fun p hp b hb z => ?_) (hg _ _ _ _ _ _ _) (ht _ _ _ _ _ _ _) (he _ _ _ _ _ _ _) turn m0 (m0 + 1) 0 s'' s'' _ (Nat.lt_succ_self _) w0 (inv_gens IG h1 h2 h3') (by rw [h1]; exact st5) nf
      rw [List.mem_singleton.mp hp] at z
      have z1 := (f3 b hb).2
      rw [← z] at z1
      have z2 : h'.objs.size < h3.objs.size := z1
      omega
  cases hf : codeAmong gpos ps.toList with
  | none =>
    refine wpAny_genexprCodeX hcode (cd.code hPs hT) (cd.tab hPs) hf fun c' h' tk hx hge hlt hco' _ htab' _ => ?_
    have tr : TriplesOk (ps ++ #[rawInt gpos.line, rawInt gpos.col, Value.ref c']).toList := by
      obtain ⟨_, _, _, _, _, _, _, _, _, _, _, _, _, _, _, _, _, _, _, z, _⟩ := hco'
      exact z
    exact cont _ h' tk _ hx (Nat.le_trans hge (Nat.le_of_lt hlt)) htab'.2 tr
  | some cv =>
    refine wpAny_genexprCode_hit hcode (cd.code hPs hT) hf ?_
    exact cont cv s2.heap s2.toks #[] (Heap.ExtBut.refl _ _) (Nat.le_refl _) (by rw [Array.append_empty]; exact hPs) (by rw [Array.append_empty]; exact hT)
theorem pe_any {p pos : Pos} (hr : Room k X.A) (hb : Gl X "any") (hm : X.mg "any" = none) (hc : X.calm = true) (hN : X.N.Nodup) (TB : TabB X.base X.mg c P) (hcode : X.env.code = .ref c) (hi : PI X tg iter wi) (ok : BlkOk X.N X.env.scope scope own) (S : GSc scope)
    (hg : ∀ (s : Shared) (H : Hp) (C : Addr) (code : Value) (it : Addr) (fp : List Addr) (pn : List (Addr × Obj)), PG (gCx X (.GeneratorExp elt [⟨tg, iter, ifs, 0⟩] scope gpos) s H (genEnv scope (cloFrom X.env.cells scope.names []) C code builtinsNs X.env) it fp pn) tg g)
    (ht : ∀ (s : Shared) (H : Hp) (C : Addr) (code : Value) (it : Addr) (fp : List Addr) (pn : List (Addr × Obj)), PTs (gCx X (.GeneratorExp elt [⟨tg, iter, ifs, 0⟩] scope gpos) s H (genEnv scope (cloFrom X.env.cells scope.names []) C code builtinsNs X.env) it fp pn) ifs tt)
    (he : ∀ (s : Shared) (H : Hp) (C : Addr) (code : Value) (it : Addr) (fp : List Addr) (pn : List (Addr × Obj)), PE (gCx X (.GeneratorExp elt [⟨tg, iter, ifs, 0⟩] scope gpos) s H (genEnv scope (cloFrom X.env.cells scope.names []) C code builtinsNs X.env) it fp pn) elt te)
    (hs : ∀ x, genFold iter X.env x = pure x := by intro _; rfl)
    (hst : starEach [.GeneratorExp elt [⟨tg, iter, ifs, 0⟩] scope gpos] X.env = (false, eval (.GeneratorExp elt [⟨tg, iter, ifs, 0⟩] scope gpos) X.env) :: starEach [] X.env := by rfl) :
    PE X (.Call (.Name "any" p) [.GeneratorExp elt [⟨tg, iter, ifs, 0⟩] scope gpos] [] pos) (tAA P true wi g tt te (own.map (·.2))) := by
  refine ⟨fun pins s σ H Q I h => wpAny_Call_Name_kw (ld_blt I hb hm boot_any (PyProof.Rows.callWith_builtin1 ?_ hst (by rfl)))⟩
  rw [hst]
  refine Calls.spliced_cons (gen_make hr hc hN TB hcode hi ok S hg ht he hs I h fun a go gn n Y fp tn W s5 h1 h2 h3 h4 SL => Calls.spliced_nil ?_)
  refine call_function_tree F.kind_any F.plain_any F.entry_any (F.args_any1 _) ?_
  unfold Builtin.«any»
  refine wpAny_bind (m := oneArg "any" _) (wpAny_pure (wpAny_bind (wpAny_pyIter_gen (h2 _ h4) (wpAny_pure ⟨plainId_quiet F.plain_any_loop _, ?_⟩))))
  exact any_loop (I.ok.hd hc) hr.depth h1 h2 (fun s' H' b J q => ⟨.bl b, H', h3 s' H' J, rfl, q⟩) n s5 SL
theorem pe_all {p pos : Pos} (hr : Room k X.A) (hb : Gl X "all") (hm : X.mg "all" = none) (hc : X.calm = true) (hN : X.N.Nodup) (TB : TabB X.base X.mg c P) (hcode : X.env.code = .ref c) (hi : PI X tg iter wi) (ok : BlkOk X.N X.env.scope scope own) (S : GSc scope)
    (hg : ∀ (s : Shared) (H : Hp) (C : Addr) (code : Value) (it : Addr) (fp : List Addr) (pn : List (Addr × Obj)), PG (gCx X (.GeneratorExp elt [⟨tg, iter, ifs, 0⟩] scope gpos) s H (genEnv scope (cloFrom X.env.cells scope.names []) C code builtinsNs X.env) it fp pn) tg g)
    (ht : ∀ (s : Shared) (H : Hp) (C : Addr) (code : Value) (it : Addr) (fp : List Addr) (pn : List (Addr × Obj)), PTs (gCx X (.GeneratorExp elt [⟨tg, iter, ifs, 0⟩] scope gpos) s H (genEnv scope (cloFrom X.env.cells scope.names []) C code builtinsNs X.env) it fp pn) ifs tt)
    (he : ∀ (s : Shared) (H : Hp) (C : Addr) (code : Value) (it : Addr) (fp : List Addr) (pn : List (Addr × Obj)), PE (gCx X (.GeneratorExp elt [⟨tg, iter, ifs, 0⟩] scope gpos) s H (genEnv scope (cloFrom X.env.cells scope.names []) C code builtinsNs X.env) it fp pn) elt te)
    (hs : ∀ x, genFold iter X.env x = pure x := by intro _; rfl)
    (hst : starEach [.GeneratorExp elt [⟨tg, iter, ifs, 0⟩] scope gpos] X.env = (false, eval (.GeneratorExp elt [⟨tg, iter, ifs, 0⟩] scope gpos) X.env) :: starEach [] X.env := by rfl) :
    PE X (.Call (.Name "all" p) [.GeneratorExp elt [⟨tg, iter, ifs, 0⟩] scope gpos] [] pos) (tAA P false wi g tt te (own.map (·.2))) := by
  refine ⟨fun pins s σ H Q I h => wpAny_Call_Name_kw (ld_blt I hb hm (show bootBuiltins "all" = some (.builtin "all") by decide +kernel) (PyProof.Rows.callWith_builtin1 ?_ hst (by rfl)))⟩
  rw [hst]
  refine Calls.spliced_cons (gen_make hr hc hN TB hcode hi ok S hg ht he hs I h fun a go gn n Y fp tn W s5 h1 h2 h3 h4 SL => Calls.spliced_nil ?_)
  refine call_function_tree F.kind_all F.plain_all F.entry_all (F.args_all1 _) ?_
  unfold Builtin.«all»
  refine wpAny_bind (m := oneArg "all" _) (wpAny_pure (wpAny_bind (wpAny_pyIter_gen (h2 _ h4) (wpAny_pure ⟨plainId_quiet F.plain_all_loop _, ?_⟩))))
  exact all_loop (I.ok.hd hc) hr.depth h1 h2 (fun s' H' b J q => ⟨.bl b, H', h3 s' H' J, rfl, q⟩) n s5 SL
end
end Gx
namespace Dr
open PySem PySem.Spec PyProof.Rows L2
/-! ### the drawing of numbers: smixed, sdraw, sopen -/
def topS (i : Nat) : Stmt := PySem.Challenge.pw_sparecut_k12_told_once.main.body.getD i (.Pass ⟨0, 0, 0, 0⟩)
abbrev sMix : Stmt := topS 31
abbrev sDrw : Stmt := topS 32
abbrev sOpn : Stmt := topS 33
theorem scMix : FnScope ["cell", "at", "one", "two", "three"] ["cell", "at"] (defScope sMix) := ⟨rfl, rfl, rfl, by decide +kernel, rfl, by decide +kernel, by decide +kernel⟩
theorem scDrw : FnScope ["feed", "many", "at", "cell", "digit"] ["feed", "many"] (defScope sDrw) := ⟨rfl, rfl, rfl, by decide +kernel, rfl, by decide +kernel, by decide +kernel⟩
theorem scOpn : FnScope ["script"] ["script"] (defScope sOpn) := ⟨rfl, rfl, rfl, by decide +kernel, rfl, by decide +kernel, by decide +kernel⟩
/-- what lies at f: cells (at c), a place, a rest; at most B cells were taken -/
def Feed (H : Hp) (f c : Addr) (B : Nat) : Prop := ∃ (ns : List Int) (n : Nat) (r : Int),
  H f = some (.lst [.ref c, .int n, .int r]) ∧ H c = some (.lst (ns.map V.int)) ∧ ns.length ≤ 60 ∧ n ≤ B
/-- all but f is as it was -/
def But (f : Addr) (H H' : Hp) : Prop := ∀ b, b ≠ f → H' b = H b
theorem But.refl (f : Addr) (H : Hp) : But f H H := fun _ _ => rfl
theorem But.trans {f : Addr} {H H1 H2 : Hp} (a : But f H H1) (b : But f H1 H2) : But f H H2 := fun x n => (b x n).trans (a x n)
theorem Feed.mono {H : Hp} {f c : Addr} {B B' : Nat} (h : Feed H f c B) (l : B ≤ B') : Feed H f c B' := by
  obtain ⟨ns, n, r, h1, h2, h3, h4⟩ := h
  exact ⟨ns, n, r, h1, h2, h3, Nat.le_trans h4 l⟩
theorem Feed.same {H H' : Hp} {f c : Addr} {B : Nat} (h : Feed H f c B) (s : Same H H') : Feed H' f c B := by
  obtain ⟨ns, n, r, h1, h2, h3, h4⟩ := h
  exact ⟨ns, n, r, s _ _ h1, s _ _ h2, h3, h4⟩
theorem Feed.upd {H : Hp} {f c D : Addr} {B : Nat} {o : HO} (h : Feed H f c B) (nf : D ≠ f) (nc : D ≠ c) : Feed (upd H D o) f c B := by
  obtain ⟨ns, n, r, h1, h2, h3, h4⟩ := h
  exact ⟨ns, n, r, by rw [upd_ne (Ne.symm nf)]; exact h1, by rw [upd_ne (Ne.symm nc)]; exact h2, h3, h4⟩
theorem Feed.nf {H : Hp} {f c D : Addr} {B : Nat} (h : Feed H f c B) (n : H D = none) : D ≠ f := by
  obtain ⟨_, _, _, h1, _⟩ := h
  exact Ne.symm (ne_of_none h1 n)
theorem Feed.nc {H : Hp} {f c D : Addr} {B : Nat} (h : Feed H f c B) (n : H D = none) : D ≠ c := by
  obtain ⟨_, _, _, _, h2, _⟩ := h
  exact Ne.symm (ne_of_none h2 n)
theorem feed_ne {H : Hp} {f c : Addr} {ns : List Int} {a : V} {as : List V} (h1 : H f = some (.lst (.ref c :: as))) (h2 : H c = some (.lst (ns.map V.int))) : c ≠ f := by
  intro e
  rw [e, h1] at h2
  have z := HO.lst.inj (Option.some.inj h2)
  cases ns with
  | nil => cases z
  | cons x r => cases z
section
variable {P : Program} {w : World} {K : PySem.W.Frag} {mg : Str → Option Value} {base : Heap}
def spMix : Sp := fun vs H Q _ => ∃ (c : Int) (n : Nat), vs = [.int c, .int n] ∧ n ≤ 2 ^ 60 ∧ ∀ r : Int, Q (.int r) H
theorem ok_mix {f : Addr} {fd : FuncData} {k : Nat} (F : Fun K "_law_smixed" "_law_smixed" sMix f fd) : FnOk P w K mg base CX0 (k + 1) f fd ["cell", "at"] spMix := by
  refine F.ok scMix (fun vs H Q E h => ?_) (fun cdv A outer s H vs Q E hr h => ?_)
  · obtain ⟨c, n, rfl, _⟩ := h
    rfl
  · obtain ⟨c, n, rfl, hn, q⟩ := h
    refine ⟨_, pss_cons (ps_set (i := 2) scMix.nd rfl (.inl rfl) (pe_op op_mod (pe_op op_add (pe_op op_add (pe_op op_mul (pe_op op_mod (pv 0) pe_int) pe_int) (pe_op op_mul (pv 1) pe_int)) pe_int) pe_int))
      (pss_cons (ps_set (i := 3) scMix.nd rfl (.inl rfl) (pe_op op_mod (pe_op op_add (pe_op op_add (pe_op op_mul (pv 2) (pv 2)) (pe_op op_mul (pe_op op_mul (pv 1) (pv 1)) pe_int)) pe_int) pe_int))
      (pss_cons (ps_set (i := 4) scMix.nd rfl (.inl rfl) (pe_op op_mod (pe_op op_add (pe_op op_add (pe_op op_mul (pv 3) (pv 3)) (pv 2)) (pv 1)) pe_int))
      (pss_one (ps_ret (pe_op op_add (pe_op op_mul (pe_op op_add (pe_op op_mul (pv 4) pe_int) (pv 3)) pe_int) (pv 2)))))), ?_⟩
    refine ⟨_, rfl, _, _, rfl, rfl, by show (0 : Int) < 2147483647; decide, _, _, rfl, rfl, .inr ⟨by decide, by decide⟩, _, rfl, _, _, rfl, rfl, .inr ⟨by decide, by decide⟩, _, _, rfl, rfl, _, _, rfl, rfl, _, _, rfl, rfl, by show (0 : Int) < 2147483629; decide, ?_⟩
    generalize e1 : (c % 2147483647 * 48271 + (n : Int) * 7919 + 11) % 2147483629 = one
    have o1 : 0 ≤ one := by rw [← e1]; exact Int.emod_nonneg _ (by decide)
    have o2 : one < 2147483629 := by rw [← e1]; exact Int.emod_lt_of_pos _ (by decide)
    refine ⟨_, rfl, _, rfl, _, _, rfl, rfl, .inl ⟨by omega, by omega⟩, _, rfl, _, rfl, _, _, rfl, rfl, .inl ⟨by omega, by omega⟩, _, _, rfl, rfl, .inr ⟨by decide, by decide⟩, _, _, rfl, rfl, _, _, rfl, rfl, _, _, rfl, rfl, by show (0 : Int) < 2147483587; decide, ?_⟩
    generalize e2 : (one * one + (n : Int) * (n : Int) * 31 + 5) % 2147483587 = two
    have t1 : 0 ≤ two := by rw [← e2]; exact Int.emod_nonneg _ (by decide)
    have t2 : two < 2147483587 := by rw [← e2]; exact Int.emod_lt_of_pos _ (by decide)
    refine ⟨_, rfl, _, rfl, _, _, rfl, rfl, .inl ⟨by omega, by omega⟩, _, rfl, _, _, rfl, rfl, _, rfl, _, _, rfl, rfl, _, _, rfl, rfl, by show (0 : Int) < 2147483563; decide, ?_⟩
    exact ⟨_, rfl, _, _, rfl, rfl, .inr ⟨by decide, by decide⟩, _, rfl, _, _, rfl, rfl, _, _, rfl, rfl, .inr ⟨by decide, by decide⟩, _, rfl, _, _, rfl, rfl, q _⟩
/-- sdraw(feed, many): any number from 0 to many - 1 -/
def spDrw : Sp := fun vs H Q _ => ∃ (f c : Addr) (m : Int) (B : Nat), vs = [.ref f, .int m] ∧ 0 < m ∧ m < 2 ^ 29 ∧ Feed H f c B ∧ B ≤ 2 ^ 59 ∧
  ∀ (d : Int) (H' : Hp), 0 ≤ d → d < m → Feed H' f c (B + 1) → But f H H' → Q (.int d) H'
theorem ok_drw {f fM : Addr} {fd fdM : FuncData} {k : Nat} (F : Fun K "_law_sdraw" "_law_sdraw" sDrw f fd) (FM : Fun K "_law_smixed" "_law_smixed" sMix fM fdM) (bM : Binds K fdM ["cell", "at"] []) (gM : mg "_law_smixed" = some (.ref fM)) (ml : mg "len" = none) :
    FnOk P w K mg base CX0 (k + 2) f fd ["feed", "many"] spDrw := by
  have GM : FnOk P w K mg base CX0 1 fM fdM ["cell", "at"] spMix := ok_mix FM
  refine F.ok scDrw (fun vs H Q E h => ?_) (fun cdv A outer s H vs Q E hr h => ?_)
  · obtain ⟨f, c, m, B, rfl, _⟩ := h
    rfl
  · obtain ⟨f, c, m, B, rfl, m0, m1, hF, hB, q⟩ := h
    have hr1 : Room 1 _ := hr.mono (by omega)
    refine ⟨_, Evl.pss_cut (ps_if (pt_cmpR op_lt (pe_ix ix_list (pv 0) pe_int (fun _ _ => rfl)) (pv 1) (nomark _))
        (pss_cons (ps_set (i := 2) scDrw.nd rfl (.inl rfl) (pe_ix ix_list (pv 0) pe_int (fun _ _ => rfl)))
        (pss_cons (ps_set (i := 3) scDrw.nd rfl (.inl rfl) (pe_op op_mul (pv 2) pe_int))
        (Evl.pss_cut (ps_if (pt_cmpR op_gt (pe_callB call_len_seq (by rfl) ml PySem.boot_len (pa_cons (pe_ix ix_list (pv 0) pe_int (fun _ _ => rfl)) pa_nil)) pe_int (nomark _))
            (pss_one (ps_set (i := 3) scDrw.nd rfl (.inl rfl) (pe_ix ix_list (pe_ix ix_list (pv 0) pe_int (fun _ _ => rfl)) (pe_op op_mod (pv 2) (pe_callB call_len_seq (by rfl) ml PySem.boot_len (pa_cons (pe_ix ix_list (pv 0) pe_int (fun _ _ => rfl)) pa_nil))) (fun _ _ => rfl)))) pss_nil)
        (pss_cons (ps_asg (pe_op op_add (pv 2) pe_int) (pg_sub (pv 0) pe_int set_list))
        (Evl.pss_cut (ps_asg (pv 3) (pg_sub (pv 0) pe_int set_list))
        (pss_one (ps_if (PW.pt (pw_or (pt_cmpR op_lt (pv 3) (pe_op op_pow pe_int pe_int) (nomark _)) (pw_or1 (pt_cmpR op_ge (pv 2) (pe_callB call_len_seq (by rfl) ml PySem.boot_len (pa_cons (pe_ix ix_list (pv 0) pe_int (fun _ _ => rfl)) pa_nil)) (nomark _)))))
          (pss_one (ps_asg (pe_call GM hr1 (by rfl) gM FM.kp bM .nil pass0 (pa_cons (pv 3) (pa_cons (pv 2) pa_nil))) (pg_sub (pv 0) pe_int set_list))) pss_nil)))))))
        pss_nil)
      (pss_cons (ps_set (i := 4) scDrw.nd rfl (.inl rfl) (pe_op op_mod (pe_ix ix_list (pv 0) pe_int (fun _ _ => rfl)) (pv 1)))
      (pss_cons (ps_asg (pe_op op_fdiv (pe_ix ix_list (pv 0) pe_int (fun _ _ => rfl)) (pv 1)) (pg_sub (pv 0) pe_int set_list))
      (pss_one (ps_ret (pv 4))))), ?_⟩
    obtain ⟨ns, n, r, h1, h2, h3, h4⟩ := hF
    have hcf : c ≠ f := feed_ne (a := .non) h1 h2
    have hS : SqL K H f [.ref c, .int n, .int r] := .of h1
    have hC : SqL K H c (ns.map V.int) := .of h2
    refine Evl.q_cut (M := fun σ' H' => ∃ (y2 y3 : Option V) (n' : Nat) (r' : Int), σ' = [some (.ref f), some (.int m), y2, y3, none] ∧ H' f = some (.lst [.ref c, .int n', .int r']) ∧ n' ≤ B + 1 ∧ But f H H') ?_ ?_
    · refine ⟨.ref f, rfl, f, _, 2, _, rfl, rfl, hS, rfl, .int m, rfl, _, _, rfl, rfl, _, rfl, ite2 (fun e => ?_) (fun e => ?_)⟩
      · refine ⟨.ref f, rfl, f, _, 1, _, rfl, rfl, hS, rfl, ?_⟩
        refine ⟨_, rfl, _, _, rfl, rfl, .inr ⟨by decide, by decide⟩, ?_⟩
        refine Evl.q_cut (M := fun σ' H' => ∃ (z : Int), σ' = [some (.ref f), some (.int m), some (.int n), some (.int z), none] ∧ H' = H) ?_ ?_
        · refine ⟨.ref f, rfl, f, _, 0, _, rfl, rfl, hS, rfl, c, _, rfl, .inl hC, _, _, rfl, rfl, _, rfl, ite2 (fun e => ?_) (fun e => ?_)⟩
          · have l0 : 0 < ns.length := by
              have z : (0 : Int) < ((ns.map V.int).length : Int) := of_decide_eq_true e
              rw [List.length_map] at z
              omega
            have l1 : n % ns.length < ns.length := Nat.mod_lt _ l0
            refine ⟨.ref f, rfl, f, _, 0, _, rfl, rfl, hS, rfl, _, rfl, .ref f, rfl, f, _, 0, _, rfl, rfl, hS, rfl, c, _, rfl, .inl hC, _, _, rfl, rfl, ?_, c, _, _, .int (ns[n % ns.length]), rfl, rfl, hC, ?_, ?_⟩
            · show (0 : Int) < ((ns.map V.int).length : Int)
              rw [List.length_map]
              omega
            · refine at_of (j := n % ns.length) ?_ ?_
              · rw [List.length_map]
                exact (Int.natCast_emod n ns.length).symm
              · rw [List.getElem?_map, List.getElem?_eq_getElem l1]
                rfl
            · exact ⟨_, rfl, rfl⟩
          · exact ⟨_, rfl, rfl⟩
        · rintro σ' H' ⟨z, rfl, rfl⟩
          refine ⟨_, rfl, _, _, rfl, rfl, _, rfl, f, _, 1, 1, rfl, rfl, h1, rfl, ?_⟩
          refine Evl.q_cut (M := fun σ' H2 => σ' = [some (.ref f), some (.int m), some (.int n), some (.int z), none] ∧ But f H' H2 ∧ H2 f = some (.lst [.ref c, .int ((n + 1 : Nat) : Int), .int z])) ?_ ?_
          · refine ⟨_, rfl, _, rfl, f, _, 2, 2, rfl, rfl, upd_same, rfl, rfl, fun b nb => ?_, upd_same⟩
            rw [upd_ne nb, upd_ne nb]
          rintro σ' H2 ⟨rfl, b2, f2⟩
          have hS2 : SqL K H2 f [.ref c, .int ((n + 1 : Nat) : Int), .int z] := .of f2
          have hC2 : SqL K H2 c (ns.map V.int) := .of ((b2 c hcf).trans h2)
          have mix : ∀ D : Ends, D.nx = (fun σ' H'' => ∃ (y2 y3 : Option V) (n' : Nat) (r' : Int), σ' = [some (.ref f), some (.int m), y2, y3, none] ∧ H'' f = some (.lst [.ref c, .int n', .int r']) ∧ n' ≤ B + 1 ∧ But f H' H'') →
              tAsg (tCall spMix [] E0 (tCons (tVar 3) (tCons (tVar 2) tNil))) (gSub (tVar 0) (tC (.int 2)) rSetL) D [some (.ref f), some (.int m), some (.int n), some (.int z), none] H2 := by
            intro D hD
            refine ⟨_, rfl, _, rfl, z, n, rfl, by omega, fun r2 => ?_⟩
            refine ⟨_, rfl, f, _, 2, 2, rfl, rfl, f2, rfl, ?_⟩
            rw [hD]
            exact ⟨_, _, n + 1, r2, rfl, upd_same, by omega, fun b nb => by rw [upd_ne nb]; exact b2 b nb⟩
          refine ⟨_, rfl, _, _, rfl, rfl, ⟨by decide, by decide, by decide⟩, _, _, rfl, rfl, _, rfl, ite2 (fun e => ?_) (fun e => ?_)⟩
          · exact iteT (mix _ rfl)
          · refine ⟨_, rfl, .ref f, rfl, f, _, 0, _, rfl, rfl, hS2, rfl, c, _, rfl, .inl hC2, _, _, rfl, rfl, _, rfl, ite2 (fun e => ?_) (fun e => ?_)⟩
            · exact mix _ rfl
            · exact ⟨_, _, n + 1, z, rfl, f2, by omega, b2⟩
      · exact ⟨none, none, n, r, rfl, h1, by omega, But.refl f H⟩
    · rintro σ' H' ⟨y2, y3, n', r', rfl, f1, ln, b1⟩
      have hS1 : SqL K H' f [.ref c, .int n', .int r'] := .of f1
      refine ⟨.ref f, rfl, f, _, 2, _, rfl, rfl, hS1, rfl, .int m, rfl, _, _, rfl, rfl, m0, ?_⟩
      refine ⟨.ref f, rfl, f, _, 2, _, rfl, rfl, hS1, rfl, .int m, rfl, _, _, rfl, rfl, ⟨m0, by omega⟩, .ref f, rfl, f, _, 2, 2, rfl, rfl, f1, rfl, ?_⟩
      refine ⟨_, rfl, q (r' % m) _ (Int.emod_nonneg _ (by omega)) (Int.emod_lt_of_pos _ m0) ⟨ns, n', r' / m, upd_same, ?_, h3, ln⟩ fun b nb => ?_⟩
      · rw [upd_ne hcf, b1 c hcf]
        exact h2
      · rw [upd_ne nb]
        exact b1 b nb
/-- sopen(script) -/
def spOpn (K : PySem.W.Frag) : Sp := fun vs H Q _ => ∃ (a : Addr) (ns : List Int), vs = [.ref a] ∧ SqL K H a (ns.map V.int) ∧ ∀ (f c : Addr) (H' : Hp), H f = none → H c = none → Same H H' → Feed H' f c 0 → Q (.ref f) H'
theorem cut60 (ns : List Int) : cutV (ns.map V.int) none (some 60) = (ns.take 60).map V.int := by
  unfold cutV
  rw [HT.sIx_none, show HT.sIx (ns.map V.int).length (ns.map V.int).length (some 60) = min 60 (ns.map V.int).length from HT.sIx_nat _ _ 60]
  rw [List.drop_zero, Nat.sub_zero, List.map_take, List.length_map]
  by_cases h : ns.length ≤ 60
  · rw [Nat.min_eq_right h, List.take_of_length_le (by rw [List.length_map]; exact Nat.le_refl _), List.take_of_length_le (by rw [List.length_map]; exact h)]
  · rw [Nat.min_eq_left (by omega)]
theorem same_upd {H : Hp} {p : Addr} {o : HO} (h : H p = none) : Same H (upd H p o) := fun b x e => by
  rw [upd_ne (ne_of_none e h)]
  exact e
theorem ok_opn {f : Addr} {fd : FuncData} {k : Nat} (F : Fun K "_law_sopen" "_law_sopen" sOpn f fd) (ml : mg "list" = none) : FnOk P w K mg base CX0 (k + 1) f fd ["script"] (spOpn K) := by
  refine F.ok scOpn (fun vs H Q E h => ?_) (fun cdv A outer s H vs Q E hr h => ?_)
  · obtain ⟨a, ns, rfl, _⟩ := h
    rfl
  · obtain ⟨a, ns, rfl, hS, q⟩ := h
    refine ⟨_, pss_one (ps_ret (pe_lst (pa_cons (pe_callTy call_list_of (by rfl) ml (by decide +kernel) (pa_cons (pe_slice sl_list (pv 0) po_none (po_some pe_int)) pa_nil)) (pa_cons pe_int (pa_cons pe_int pa_nil))))), ?_⟩
    refine ⟨.ref a, rfl, 60, rfl, a, _, rfl, hS, fun c nc => ?_⟩
    refine ⟨c, _, rfl, .inl (.of upd_same), fun d nd => ?_⟩
    refine ⟨by show 3 ≤ sizeLine; decide, fun p np => ?_⟩
    have s1 : Same H (upd H c (.lst (cutV (ns.map V.int) none (some 60)))) := same_upd nc
    have s2 := s1.trans (same_upd (o := .lst (cutV (ns.map V.int) none (some 60))) nd)
    have s3 := s2.trans (same_upd (o := .lst [.ref d, .int 0, .int 0]) np)
    refine q p d _ (s2.free np) (s1.free nd) s3 ⟨ns.take 60, 0, 0, upd_same, ?_, ?_, Nat.le_refl _⟩
    · have ndp : d ≠ p := ne_of_none (upd_same (H := upd H c (.lst (cutV (ns.map V.int) none (some 60)))) (a := d) (o := .lst (cutV (ns.map V.int) none (some 60)))) np
      rw [upd_ne ndp, upd_same, cut60]
    · rw [List.length_take]
      omega
end
end Dr
namespace Kp
open PySem PySem.Spec PyProof.Rows L2 GxR Nw Dr
/-! ### what a call leaves as it was: all but the feed (F) and the tables of code objects -/
structure Ke (F : Addr → Prop) (H H' : Hp) : Prop where
  keep : ∀ b o, H b = some o → (∀ ps, o ≠ .tbl ps) → ¬ F b → H' b = some o
  tabs : ∀ P, TabG H P → TabG H' P
  tups : ∀ b xs, H b = some (.tup xs) → H' b = some (.tup xs)
abbrev Nof : Addr → Prop := fun _ => False
variable {F G : Addr → Prop} {H H1 H2 H' : Hp} {f c P : Addr} {B : Nat}
theorem Ke.refl (F : Addr → Prop) (H : Hp) : Ke F H H := ⟨fun _ _ h _ _ => h, fun _ h => h, fun _ _ h => h⟩
theorem Ke.trans (a : Ke F H H1) (b : Ke F H1 H2) : Ke F H H2 := ⟨fun x o h n m => b.keep x o (a.keep x o h n m) n m, fun Q h => b.tabs Q (a.tabs Q h), fun x xs h => b.tups x xs (a.tups x xs h)⟩
theorem Ke.mono (a : Ke F H H1) (h : ∀ b, F b → G b) : Ke G H H1 := ⟨fun x o e n m => a.keep x o e n fun z => m (h x z), a.tabs, a.tups⟩
theorem Ke.all (a : Ke Nof H H1) : Ke F H H1 := a.mono fun _ z => z.elim
theorem Ke.same (s : Same H H1) : Ke F H H1 := ⟨fun b o e _ _ => s b o e, fun Q ⟨ps, h, t⟩ => ⟨ps, s _ _ h, t⟩, fun b xs e => s _ _ e⟩
theorem Ke.lst {a : Addr} {xs : List V} (k : Ke F H H1) (h : H a = some (.lst xs)) (n : ¬ F a) : H1 a = some (.lst xs) := k.keep a _ h (fun ps z => by cases z) n
theorem Ke.tabbed (t : TabG H P) (x : Tabbed P H H1) : Ke F H H1 := by
  obtain ⟨ps, hP, _⟩ := t
  have nP : ∀ b o, H b = some o → (∀ qs, o ≠ .tbl qs) → b ≠ P := fun b o e n z => by
    rw [z, hP] at e
    exact n ps (Option.some.inj e).symm
  refine ⟨fun b o e n _ => (x.2 b (nP b o e n)).trans e, fun Q hQ => ?_, fun b xs e => (x.2 b (nP b _ e fun qs z => by cases z)).trans e⟩
  by_cases hq : Q = P
  · rw [hq]
    exact x.1
  · obtain ⟨qs, h1, h2⟩ := hQ
    exact ⟨qs, (x.2 Q hq).trans h1, h2⟩
theorem Ke.but (h : Feed H f c B) (b : But f H H1) : Ke (· = f) H H1 := by
  obtain ⟨ns, n, r, h1, _⟩ := h
  refine ⟨fun x o e _ m => (b x m).trans e, fun Q ⟨qs, e, t⟩ => ⟨qs, (b Q fun z => ?_).trans e, t⟩, fun x xs e => (b x fun z => ?_).trans e⟩
  · rw [z, h1] at e
    cases e
  · rw [z, h1] at e
    cases e
/-- a write to an object of ours that was new behind H -/
theorem Ke.upd {p : Addr} {o : HO} (k : Ke F H H1) (n : H p = none) : Ke F H (upd H1 p o) := by
  refine ⟨fun b x e t m => ?_, fun Q hQ => ?_, fun b xs e => ?_⟩
  · rw [upd_ne (ne_of_none e n)]
    exact k.keep b x e t m
  · obtain ⟨ps, e, t⟩ := hQ
    obtain ⟨qs, e2, t2⟩ := k.tabs Q ⟨ps, e, t⟩
    exact ⟨qs, by rw [upd_ne (ne_of_none e n)]; exact e2, t2⟩
  · rw [upd_ne (ne_of_none e n)]
    exact k.tups b xs e
theorem Ke.feed (k : Ke Nof H H1) (h : Feed H f c B) : Feed H1 f c B := by
  obtain ⟨ns, n, r, h1, h2, h3, h4⟩ := h
  exact ⟨ns, n, r, k.lst h1 (fun z => z), k.lst h2 (fun z => z), h3, h4⟩
/-- p holds nothing that H knows (but a table, perhaps) -/
def Frs (H : Hp) (p : Addr) : Prop := ∀ b o, H b = some o → (∀ ps, o ≠ .tbl ps) → b ≠ p
theorem Frs.of {p : Addr} (h : H p = none) : Frs H p := fun b o e _ => ne_of_none e h
theorem Frs.ke {p : Addr} (k : Ke (· = f) H H1) (hF : Feed H1 f c B) (h : Frs H1 p) : Frs H p := fun b o e n => by
  by_cases hb : b = f
  · obtain ⟨_, _, _, h1, _⟩ := hF
    rw [hb]
    exact h f _ h1 fun ps z => by cases z
  · exact h b o (k.keep b o e n hb) n
theorem Frs.ke0 {p : Addr} (k : Ke Nof H H1) (h : Frs H1 p) : Frs H p := fun b o e n => h b o (k.keep b o e n fun z => z) n
theorem Ke.write {p : Addr} {xs : List V} {o : HO} (k : Ke F H H1) (fr : Frs H p) (h1 : H1 p = some (.lst xs)) : Ke F H (L2.upd H1 p o) := by
  refine ⟨fun b x e t m => ?_, fun Q hQ => ?_, fun b ys e => ?_⟩
  · rw [upd_ne (fr b x e t)]
    exact k.keep b x e t m
  · obtain ⟨qs, e2, t2⟩ := k.tabs Q hQ
    have n : Q ≠ p := fun z => by
      rw [z, h1] at e2
      cases e2
    exact ⟨qs, by rw [upd_ne n]; exact e2, t2⟩
  · rw [upd_ne (fr b _ e fun ps z => by cases z)]
    exact k.tups b ys e
/-- whole numbers in a tuple, truths in a tuple -/
def TupI (H : Hp) (v : V) (ns : List Int) : Prop := ∃ a, v = .ref a ∧ H a = some (.tup (ns.map V.int))
def TupB (H : Hp) (v : V) (bs : List Bool) : Prop := ∃ a, v = .ref a ∧ H a = some (.tup (bs.map V.bl))
def LstI (H : Hp) (v : V) (ns : List Int) : Prop := ∃ a, v = .ref a ∧ H a = some (.lst (ns.map V.int))
/-- a tuple of claims -/
def Bk (H : Hp) (v : V) (css : List (List Int)) : Prop := ∃ a vs, v = .ref a ∧ H a = some (.tup vs) ∧ vs.length = css.length ∧ ∀ (i : Nat) (x : V) (cs : List Int), vs[i]? = some x → css[i]? = some cs → TupI H x cs
theorem TupI.ke {v : V} {ns : List Int} (h : TupI H v ns) (k : Ke F H H1) : TupI H1 v ns := by
  obtain ⟨a, e, h⟩ := h
  exact ⟨a, e, k.tups _ _ h⟩
theorem TupB.ke {v : V} {ns : List Bool} (h : TupB H v ns) (k : Ke F H H1) : TupB H1 v ns := by
  obtain ⟨a, e, h⟩ := h
  exact ⟨a, e, k.tups _ _ h⟩
theorem Bk.ke {v : V} {css : List (List Int)} (h : Bk H v css) (k : Ke F H H1) : Bk H1 v css := by
  obtain ⟨a, vs, e, h, l, t⟩ := h
  exact ⟨a, vs, e, k.tups _ _ h, l, fun i x cs h1 h2 => (t i x cs h1 h2).ke k⟩
/-! ### claims -/
def rising : List Int → Bool
  | a :: b :: r => decide (a < b) && rising (b :: r)
  | _ => true
structure IsCl (cs : List Int) : Prop where
  up : cs.Pairwise (· < ·)
  says : ∀ k ∈ cs, k ≠ 0 ∧ -8 ≤ k ∧ k ≤ 8
  opp : ∀ k ∈ cs, -k ∉ cs
  len : cs.length ≤ 8
theorem IsCl.nil : IsCl [] := { up := .nil, says := fun _ h => (nomatch h), opp := fun _ h => (nomatch h), len := by decide }
end Kp
namespace Se
open PySem PySem.Spec PyProof.Rows L2 GxR Nw Dr Kp
/-- a def of the text whose code object stands at c -/
structure FunC (K : PySem.W.Frag) (x qual : Str) (st : Stmt) (f c : Addr) (fd : FuncData) : Prop where
  ex : ∃ (oc : Value) (od : Option Addr) (kV doc pm : Value) (an : Option Addr) (ct : Value) (osl : Array (Option Value)), fd = PySem.W.fnOf x qual (defArgs st) (defBody st) (defScope st) .none kV doc pm an (.ref c) ct ∧ K.lookup f = some ⟨oc, od, .func fd, osl⟩ ∧ PySem.W.codeIn K (.ref c) qual = true
  kp : PySem.W.keepIn K (.ref f) = true
section
variable {P : Program} {w : World} {K : PySem.W.Frag} {mg : Str → Option Value} {base : Heap}
theorem FunC.fn {x qual : Str} {st : Stmt} {f c : Addr} {fd : FuncData} (F : FunC K x qual st f c fd) : Fun K x qual st f fd := by
  obtain ⟨oc, od, kV, doc, pm, an, ct, osl, e, l, cd⟩ := F.ex
  exact ⟨⟨oc, od, kV, doc, pm, an, .ref c, ct, osl, e, l, cd⟩, F.kp⟩
theorem FunC.ok {x qual : Str} {st : Stmt} {f c : Addr} {fd : FuncData} {N ps : List Str} {k : Nat} {sp : Sp} (F : FunC K x qual st f c fd) (S : FnScope N ps (defScope st)) (len : ∀ vs H Q E, sp vs H Q E → vs.length = ps.length)
    (body : ∀ (A : Around) (outer : List Env) (s : Shared) (H : Hp) (vs : List V) (Q : VK) (E : XK), Room k (A.deeper (envOfC qual (defScope st) s.heap.objs.size f (.ref c))) → sp vs H Q E →
      ∃ t, PSs (cxOf CX0 P w K mg base N qual (defScope st) f (.ref c) A outer s H E).nox (defBody st) t ∧ t { nx := fun _ H' => Q .non H', rt := Q } (start N vs) H) : FnOk P w K mg base CX0 (k + 1) f fd ps sp := by
  obtain ⟨oc, od, kV, doc, pm, an, ct, osl, rfl, lk, hcd⟩ := F.ex
  refine fn_of lk hcd S len fun A outer s H vs Q E hr hsp => ?_
  obtain ⟨t, h, q⟩ := body A outer s H vs Q E hr hsp
  exact ⟨t, h.nox, q⟩
end
end Se
namespace Sl
open PySem PySem.Spec PyProof.Rows L2
theorem filter_take {α : Type} {f : α → Bool} {l : List α} {i : Nat} {x : α} (h : l[i]? = some x) : (l.take (i + 1)).filter f = (l.take i).filter f ++ (if f x = true then [x] else []) := by
  rw [List.take_add_one, h, List.filter_append]
  congr 1
  show List.filter f [x] = _
  cases e : f x with
  | true => rw [List.filter_cons_of_pos e]; rfl
  | false => rw [List.filter_cons_of_neg (by rw [e]; decide)]; rfl
theorem filter_all {α : Type} (f : α → Bool) (l : List α) : decide (V.int ((l.filter (fun x => !f x)).length : Int) = V.int 0) = l.all f := by
  cases e : l.all f with
  | true =>
    have z : l.filter (fun x => !f x) = [] := List.filter_eq_nil_iff.mpr fun x hx h => by
      have := List.all_eq_true.mp e x hx
      rw [this] at h
      cases h
    rw [z]
    rfl
  | false =>
    obtain ⟨x, hx, h⟩ := List.all_eq_false.mp e
    have := List.length_pos_of_mem (List.mem_filter (p := fun x => !f x).mpr ⟨hx, (by cases g : f x with | true => exact absurd g h | false => rfl : (!f x) = true)⟩)
    exact decide_eq_false fun z => by
      have := V.int.inj z
      omega
end Sl
namespace Cl
open PySem PySem.Spec PyProof.Rows L2 GxR Nw Dr Kp
abbrev sThg : Stmt := topS 35
abbrev sClm : Stmt := topS 36
abbrev sBok : Stmt := topS 37
theorem scThg : FnScope ["feed", "least", "most", "left", "many", "some", "turn"] ["feed", "least", "most"] (defScope sThg) := ⟨rfl, rfl, rfl, by decide +kernel, rfl, by decide +kernel, by decide +kernel⟩
theorem scClm : FnScope ["feed", "things", "most", "left", "says", "turn", "thing"] ["feed", "things", "most"] (defScope sClm) := ⟨rfl, rfl, rfl, by decide +kernel, rfl, by decide +kernel, by decide +kernel⟩
theorem scBok : FnScope ["feed", "things", "most", "claims", "turn", "claim"] ["feed", "things", "most"] (defScope sBok) := ⟨rfl, rfl, rfl, by decide +kernel, rfl, by decide +kernel, by decide +kernel⟩
/-- the built-ins that stand as they stood -/
structure Zs (mg : Str → Option Value) : Prop where
  z_len : mg "len" = none
  z_list : mg "list" = none
  z_range : mg "range" = none
  z_min : mg "min" = none
  z_tuple : mg "tuple" = none
  z_sorted : mg "sorted" = none
/-- things: numbers from 1 to 8, none twice -/
structure Thg (ks : List Int) : Prop where
  nd : ks.Nodup
  one : ∀ k ∈ ks, 1 ≤ k ∧ k ≤ 8
  len : ks.length ≤ 8
theorem perm_pop : ∀ {l : List Int} {d : Nat} {y : Int}, l[d]? = some y → (y :: l.eraseIdx d).Perm l
  | [], _, _, h => by simp at h
  | a :: r, 0, y, h => by
    have e : a = y := Option.some.inj h
    subst e
    exact .refl _
  | a :: r, d + 1, y, h => by
    have ih := perm_pop (l := r) (d := d) (y := y) h
    exact (List.Perm.swap a y _).trans (.cons a ih)
theorem erase_len {l : List Int} {d : Nat} (h : d < l.length) : (l.eraseIdx d).length = l.length - 1 := List.length_eraseIdx_of_lt h
theorem erase_map : ∀ (l : List Int) (d : Nat), (l.map V.int).eraseIdx d = (l.eraseIdx d).map V.int
  | [], _ => rfl
  | _ :: _, 0 => rfl
  | a :: r, d + 1 => congrArg (V.int a :: ·) (erase_map r d)
theorem ix_seq {d : Int} {n : Nat} (h0 : 0 ≤ d) (h1 : d < (n : Int)) : seqIndex? d n = some d.toNat := by
  have e : ixN n d = some d.toNat := by
    unfold ixN
    rw [if_pos h0, if_pos h1]
  exact (ixN_seq e).1
section
variable {P : Program} {w : World} {K : PySem.W.Frag} {mg : Str → Option Value} {base : Heap} {fD fM : Addr} {fdD fdM : FuncData}
def spThg : Sp := fun vs H Q _ => ∃ (f c : Addr) (l m : Int) (B : Nat), vs = [.ref f, .int l, .int m] ∧ 1 ≤ l ∧ l ≤ m ∧ m ≤ 8 ∧ Feed H f c B ∧ B ≤ 2 ^ 58 ∧
  ∀ (ks : List Int) (p : Addr) (H' : Hp), Feed H' f c (B + 10) → Ke (· = f) H H' → Frs H p → H' p = some (.lst (ks.map V.int)) → Thg ks → l ≤ ks.length → (ks.length : Int) ≤ m → Q (.ref p) H'
theorem ok_thg {f : Addr} {fd : FuncData} {k : Nat} (F : Fun K "_law_sthings" "_law_sthings" sThg f fd) (T : Zs mg) (FD : Fun K "_law_sdraw" "_law_sdraw" sDrw fD fdD) (bD : Binds K fdD ["feed", "many"] []) (gD : mg "_law_sdraw" = some (.ref fD)) (GD : FnOk P w K mg base CX0 2 fD fdD ["feed", "many"] spDrw) :
    FnOk P w K mg base CX0 (k + 3) f fd ["feed", "least", "most"] spThg := by
  refine F.ok scThg (fun vs H Q E h => ?_) (fun cdv A outer s H vs Q E hr h => ?_)
  · obtain ⟨f, c, l, m, B, rfl, _⟩ := h
    rfl
  · obtain ⟨f, c, l, m, B, rfl, l0, lm, m8, hF, hB, q⟩ := h
    have hr2 : Room 2 _ := hr.mono (by omega)
    refine ⟨_, (pss_cons (ps_set (i := 3) scThg.nd rfl (.inl rfl) (pe_lstN (pa_cons pe_int (pa_cons pe_int (pa_cons pe_int (pa_cons pe_int (pa_cons pe_int (pa_cons pe_int (pa_cons pe_int (pa_cons pe_int pa_nil))))))))))
      (Evl.pss_cut (ps_set (i := 4) scThg.nd rfl (.inl rfl) (pe_op op_add (pv 1) (pe_call GD hr2 (by rfl) gD FD.kp bD .nil pass0 (pa_cons (pv 0) (pa_cons (pe_op op_sub (pe_op op_add (pv 2) pe_int) (pv 1)) pa_nil)))))
      (pss_cons (ps_set (i := 5) scThg.nd rfl (.inl rfl) (pe_lstN pa_nil))
      (pss_cons (ps_for PassesOwn.never rfl (pi_range1 (by rfl) T.z_range (pa_cons (pv 4) pa_nil)) (pg_name (i := 6) scThg.nd rfl (.inl rfl)) (pss_one (ps_expr (pe_bm PySem.F.plainAttrs_list PySem.F.slot_list_append PySem.F.type_list_append mt_append (pv 5) (pa_cons (pe_bm PySem.F.plainAttrs_list PySem.F.slot_list_pop PySem.F.type_list_pop mt_popAt (pv 3) (pa_cons (pe_call GD hr2 (by rfl) gD FD.kp bD .nil pass0 (pa_cons (pv 0) (pa_cons (pe_callB call_len_seq (by rfl) T.z_len (by decide +kernel) (pa_cons (pv 3) pa_nil)) pa_nil))) pa_nil)) pa_nil)))))
      (pss_one (ps_ret (pv 5))))))), ?_⟩
    refine ⟨by show 8 ≤ sizeLine; decide, fun L H1 nL s1 hL _ => ?_⟩
    have nLf : L ≠ f := hF.nf nL
    have nLc : L ≠ c := hF.nc nL
    refine Evl.q_cut (M := fun σ' H' => ∃ n : Nat, σ' = [some (.ref f), some (.int l), some (.int m), some (.ref L), some (.int n), none, none] ∧ l ≤ n ∧ (n : Int) ≤ m ∧ Feed H' f c (B + 1) ∧ Ke (· = f) H H' ∧ H' L = some (.lst (([1, 2, 3, 4, 5, 6, 7, 8] : List Int).map V.int))) ?_ ?_
    · have F1 : Feed H1 f c B := hF.same s1
      refine ⟨_, rfl, _, rfl, _, rfl, _, _, rfl, rfl, _, rfl, _, _, rfl, rfl, f, c, _, B, rfl, by omega, by omega, F1, by omega, fun d H2 d0 d1 F2 b2 => ?_⟩
      refine ⟨_, _, rfl, rfl, (l + d).toNat, ?_, by omega, by omega, F2, (Ke.same s1).trans (.but F1 b2), (b2 L nLf).trans hL⟩
      rw [Int.toNat_of_nonneg (by omega)]
      rfl
    rintro σ' H2 ⟨n, rfl, ln, nm, F2, k2, hL2⟩
    refine ⟨Nat.zero_le _, fun S H3 nS s3 hS _ => ?_⟩
    have nSL : S ≠ L := Ne.symm (ne_of_none hL2 nS)
    have nSf : S ≠ f := F2.nf nS
    have nSc : S ≠ c := F2.nc nS
    have frS : Frs H S := .ke k2 F2 (.of nS)
    have frL : Frs H L := .of nL
    refine ⟨_, rfl, n, rfl, by omega, by omega, for_range (Pv := fun i σ H' => ∃ (y6 : Option V) (left ks : List Int), σ = [some (.ref f), some (.int l), some (.int m), some (.ref L), some (.int n), some (.ref S), y6] ∧ Feed H' f c (B + 1 + i) ∧ Ke (· = f) H H' ∧ H' L = some (.lst (left.map V.int)) ∧ H' S = some (.lst (ks.map V.int)) ∧
      left.length = 8 - i ∧ ks.length = i ∧ (ks ++ left).Perm [1, 2, 3, 4, 5, 6, 7, 8]) ?_ ?_ ?_⟩
    · exact ⟨none, _, [], rfl, F2.same s3, k2.trans (.same s3), s3 _ _ hL2, hS, rfl, rfl, .refl _⟩
    · rintro i σ H' hi ⟨y6, left, ks, rfl, F4, k4, hL4, hS4, ll, lk, pm⟩
      have hi : i < n := by simpa using hi
      refine ⟨_, rfl, .inl ⟨rfl, _, .of hS4⟩, _, rfl, .inl ⟨rfl, _, .of hL4⟩, _, rfl, _, rfl, L, _, rfl, .inl (.of hL4), f, c, _, B + 1 + i, rfl, ?_, ?_, F4, by omega, fun d H5 d0 d1 F5 b5 => ?_⟩
      · rw [List.length_map]
        omega
      · rw [List.length_map]
        omega
      rw [List.length_map] at d1
      have dl : d.toNat < left.length := by omega
      have hL5 : H5 L = some (.lst (left.map V.int)) := (b5 L nLf).trans hL4
      have hS5 : H5 S = some (.lst (ks.map V.int)) := (b5 S nSf).trans hS4
      have k5 : Ke (· = f) H H5 := k4.trans (.but F4 b5)
      refine ⟨L, _, d, d.toNat, .int left[d.toNat], rfl, rfl, hL5, by omega, by omega, by rw [List.length_map]; exact ix_seq d0 d1, by rw [List.getElem?_map, List.getElem?_eq_getElem dl]; rfl, ?_⟩
      refine ⟨S, _, _, rfl, rfl, by rw [upd_ne nSL]; exact hS5, by rw [List.length_map]; exact small1000 (by omega), ?_⟩
      refine ⟨_, left.eraseIdx d.toNat, ks ++ [left[d.toNat]], rfl, ((F5.upd nLf nLc).upd nSf nSc).mono (by omega), (k5.write frL hL5).write frS (by rw [upd_ne nSL]; exact hS5), ?_, ?_, ?_, ?_, ?_⟩
      · rw [upd_ne (Ne.symm nSL), upd_same, erase_map]
      · rw [upd_same, List.map_append]
        rfl
      · rw [erase_len dl]
        omega
      · rw [List.length_append, lk]
        rfl
      · refine List.Perm.trans ?_ pm
        rw [List.append_assoc]
        exact (List.Perm.refl ks).append (perm_pop (List.getElem?_eq_getElem dl))
    · rintro σ H' ⟨y6, left, ks, rfl, F4, k4, hL4, hS4, ll, lk, pm⟩
      have lk' : ks.length = n := by simpa using lk
      have nd : (ks ++ left).Nodup := pm.nodup_iff.mpr (by decide)
      refine ⟨_, rfl, q ks S H' (F4.mono (by omega)) k4 frS hS4 ⟨(List.nodup_append.mp nd).1, fun k hk => ?_, by omega⟩ (by omega) (by omega)⟩
      have hm : k ∈ ([1, 2, 3, 4, 5, 6, 7, 8] : List Int) := pm.mem_iff.mp (List.mem_append_left _ hk)
      simp only [List.mem_cons, List.not_mem_nil, or_false] at hm
      omega
/-- sclaim(feed, things, most) -/
def spClm : Sp := fun vs H Q _ => ∃ (f c t : Addr) (m : Int) (B : Nat) (ks : List Int), vs = [.ref f, .ref t, .int m] ∧ 0 ≤ m ∧ m ≤ 8 ∧ H t = some (.lst (ks.map V.int)) ∧ Thg ks ∧ Feed H f c B ∧ B ≤ 2 ^ 58 ∧
  ∀ (cs : List Int) (p : Addr) (H' : Hp), Feed H' f c (B + 20) → Ke (· = f) H H' → Frs H p → H' p = some (.tup (cs.map V.int)) → IsCl cs → (∀ s ∈ cs, (s.natAbs : Int) ∈ ks) → (cs.length : Int) ≤ m → Q (.ref p) H'
theorem abs_nd : ∀ {l : List Int}, (l.map fun s => (s.natAbs : Int)).Nodup → l.Nodup ∧ ∀ k ∈ l, k ≠ 0 → -k ∉ l := fun {l} h => by
  refine ⟨(List.pairwise_map.mp h).imp (fun {a b} z e => z (by rw [e])), fun k hk h0 hn => ?_⟩
  have inj : ∀ a ∈ l, ∀ b ∈ l, (a.natAbs : Int) = b.natAbs → a = b := fun a ha b hb e => by
    obtain ⟨i, hi, ei⟩ := List.getElem_of_mem ha
    obtain ⟨j, hj, ej⟩ := List.getElem_of_mem hb
    have hij : (l.map fun s => (s.natAbs : Int))[i]'(by rw [List.length_map]; exact hi) = (l.map fun s => (s.natAbs : Int))[j]'(by rw [List.length_map]; exact hj) := by
      rw [List.getElem_map, List.getElem_map, ei, ej]
      exact e
    have := (List.getElem_inj h).mp hij
    subst this
    rw [← ei, ← ej]
  have := inj k hk (-k) hn (by omega)
  omega
theorem cl_of {says left ks ns : List Int} (T : Thg ks) (pm : ((says.map fun s => (s.natAbs : Int)) ++ left).Perm ks) (pn : ns.Perm says) (so : ns.Pairwise (· ≤ ·)) : IsCl ns ∧ ∀ s ∈ ns, (s.natAbs : Int) ∈ ks := by
  have nd := (List.nodup_append.mp (pm.nodup_iff.mpr T.nd)).1
  obtain ⟨n1, n2⟩ := abs_nd nd
  have mem : ∀ s ∈ ns, (s.natAbs : Int) ∈ ks := fun s hs => pm.mem_iff.mp (List.mem_append_left _ (List.mem_map.mpr ⟨s, pn.mem_iff.mp hs, rfl⟩))
  have nn : ns.Nodup := pn.nodup_iff.mpr n1
  have bd : ∀ s ∈ ns, s ≠ 0 ∧ -8 ≤ s ∧ s ≤ 8 := fun s hs => by
    have := T.one _ (mem s hs)
    omega
  refine ⟨⟨?_, bd, fun k hk hn => n2 k (pn.mem_iff.mp hk) (bd k hk).1 (pn.mem_iff.mp hn), ?_⟩, mem⟩
  · have := List.Pairwise.and so nn
    exact this.imp fun {a b} h => by
      obtain ⟨h1, h2⟩ := h
      omega
  · have l1 := pn.length_eq
    have l2 := pm.length_eq
    rw [List.length_append, List.length_map] at l2
    have := T.len
    omega
theorem ok_clm {f : Addr} {fd : FuncData} {k : Nat} (F : Fun K "_law_sclaim" "_law_sclaim" sClm f fd) (T : Zs mg) (FD : Fun K "_law_sdraw" "_law_sdraw" sDrw fD fdD) (bD : Binds K fdD ["feed", "many"] []) (gD : mg "_law_sdraw" = some (.ref fD)) (GD : FnOk P w K mg base CX0 2 fD fdD ["feed", "many"] spDrw) :
    FnOk P w K mg base CX0 (k + 3) f fd ["feed", "things", "most"] spClm := by
  refine F.ok scClm (fun vs H Q E h => ?_) (fun cdv A outer s H vs Q E hr h => ?_)
  · obtain ⟨f, c, t, m, B, ks, rfl, _⟩ := h
    rfl
  · obtain ⟨f, c, t, m, B, ks, rfl, m0, m8, ht, Tk, hF, hB, q⟩ := h
    have hr2 : Room 2 _ := hr.mono (by omega)
    refine ⟨_, (Evl.pss_cut (ps_set (i := 3) scClm.nd rfl (.inl rfl) (pe_callTy call_list_ofN (by rfl) T.z_list (by decide +kernel) (pa_cons (pv 1) pa_nil)))
      (pss_cons (ps_set (i := 4) scClm.nd rfl (.inl rfl) (pe_lstN pa_nil))
      (Evl.pss_cut (ps_for PassesOwn.never rfl (pi_range1 (by rfl) T.z_range (pa_cons (pe_callB (call_min2 rfl) (by rfl) T.z_min (by decide +kernel) (pa_cons (pe_callB call_len_seq (by rfl) T.z_len (by decide +kernel) (pa_cons (pv 3) pa_nil)) (pa_cons (pe_call GD hr2 (by rfl) gD FD.kp bD .nil pass0 (pa_cons (pv 0) (pa_cons (pe_op op_add (pv 2) pe_int) pa_nil))) pa_nil))) pa_nil)) (pg_name (i := 5) scClm.nd rfl (.inl rfl)) (pss_cons (ps_set (i := 6) scClm.nd rfl (.inl rfl) (pe_bm PySem.F.plainAttrs_list PySem.F.slot_list_pop PySem.F.type_list_pop mt_popAt (pv 3) (pa_cons (pe_call GD hr2 (by rfl) gD FD.kp bD .nil pass0 (pa_cons (pv 0) (pa_cons (pe_callB call_len_seq (by rfl) T.z_len (by decide +kernel) (pa_cons (pv 3) pa_nil)) pa_nil))) pa_nil)))
      (pss_one (ps_expr (pe_bm PySem.F.plainAttrs_list PySem.F.slot_list_append PySem.F.type_list_append mt_append (pv 4) (pa_cons (pe_ix ix_list (pe_lstN (pa_cons (pv 6) (pa_cons (pe_op op_sub pe_int (pv 6)) pa_nil))) (pe_call GD hr2 (by rfl) gD FD.kp bD .nil pass0 (pa_cons (pv 0) (pa_cons pe_int pa_nil))) (fun _ _ => rfl)) pa_nil))))))
      (pss_one (ps_ret (pe_callTy call_tuple_ofN (by rfl) T.z_tuple (by decide +kernel) (pa_cons (pe_callB cr_sortedN (by rfl) T.z_sorted (by decide +kernel) (pa_cons (pv 4) pa_nil)) pa_nil))))))), ?_⟩
    -- left
    refine Evl.q_cut (M := fun σ' H' => ∃ L, σ' = [some (.ref f), some (.ref t), some (.int m), some (.ref L), none, none, none] ∧ H L = none ∧ Same H H' ∧ H' L = some (.lst (ks.map V.int))) ?_ ?_
    · exact ⟨_, rfl, t, _, rfl, .inl (.of ht), fun L H1 nL s1 hL _ => ⟨L, rfl, nL, s1, hL⟩⟩
    rintro σ' H1 ⟨L, rfl, nL, s1, hL⟩
    refine ⟨Nat.zero_le _, fun S H2 nS s2 hS _ => ?_⟩
    have F2 : Feed H2 f c B := hF.same (s1.trans s2)
    have nLf : L ≠ f := hF.nf nL
    have nLc : L ≠ c := hF.nc nL
    have nSL : S ≠ L := Ne.symm (ne_of_none hL nS)
    have nSf : S ≠ f := (hF.same s1).nf nS
    have nSc : S ≠ c := (hF.same s1).nc nS
    have frL : Frs H L := .of nL
    have frS : Frs H S := .of (s1.free nS)
    have hL2 : H2 L = some (.lst (ks.map V.int)) := s2 _ _ hL
    -- the loop
    refine Evl.q_cut (M := fun σ' H' => ∃ (y5 y6 : Option V) (left says : List Int), σ' = [some (.ref f), some (.ref t), some (.int m), some (.ref L), some (.ref S), y5, y6] ∧ Feed H' f c (B + 20) ∧ Ke (· = f) H H' ∧ H' S = some (.lst (says.map V.int)) ∧ (says.length : Int) ≤ m ∧ ((says.map fun s => (s.natAbs : Int)) ++ left).Perm ks) ?_ ?_
    · refine ⟨_, rfl, L, _, rfl, .inl (.of hL2), _, rfl, _, rfl, _, _, rfl, rfl, f, c, _, B, rfl, by omega, by omega, F2, by omega, fun d H3 d0 d1 F3 b3 => ?_⟩
      refine ⟨_, _, rfl, ?_⟩
      generalize hn : (if d < ((ks.map V.int).length : Int) then d else ((ks.map V.int).length : Int)) = n
      have n0 : 0 ≤ n ∧ n ≤ m ∧ n ≤ ks.length := by
        rw [List.length_map] at hn
        split at hn <;> omega
      have tl := Tk.len
      have hL3 : H3 L = some (.lst (ks.map V.int)) := (b3 L nLf).trans hL2
      have hS3 : H3 S = some (.lst (([] : List Int).map V.int)) := (b3 S nSf).trans hS
      have k3 : Ke (· = f) H H3 := (Ke.same (s1.trans s2)).trans (.but F2 b3)
      refine ⟨n, rfl, by omega, by omega, for_range (Pv := fun i σ H' => ∃ (y5 y6 : Option V) (left says : List Int), σ = [some (.ref f), some (.ref t), some (.int m), some (.ref L), some (.ref S), y5, y6] ∧ Feed H' f c (B + 1 + 2 * i) ∧ Ke (· = f) H H' ∧ H' L = some (.lst (left.map V.int)) ∧ H' S = some (.lst (says.map V.int)) ∧
        left.length = ks.length - i ∧ says.length = i ∧ ((says.map fun s => (s.natAbs : Int)) ++ left).Perm ks) ?_ ?_ ?_⟩
      · exact ⟨none, none, ks, [], rfl, F3, k3, hL3, hS3, rfl, rfl, .refl _⟩
      · rintro i σ H' hi ⟨y5, y6, left, says, rfl, F4, k4, hL4, hS4, ll, ls, pm⟩
        have hi : i < n.toNat := hi
        refine ⟨_, rfl, .inl ⟨rfl, _, .of hL4⟩, _, rfl, _, rfl, L, _, rfl, .inl (.of hL4), f, c, _, B + 1 + 2 * i, rfl, ?_, ?_, F4, by omega, fun d H5 d0 d1 F5 b5 => ?_⟩
        · rw [List.length_map]
          omega
        · rw [List.length_map]
          omega
        rw [List.length_map] at d1
        have dl : d.toNat < left.length := by omega
        have hL5 : H5 L = some (.lst (left.map V.int)) := (b5 L nLf).trans hL4
        have hS5 : H5 S = some (.lst (says.map V.int)) := (b5 S nSf).trans hS4
        have k5 : Ke (· = f) H H5 := k4.trans (.but F4 b5)
        refine ⟨L, _, d, d.toNat, .int left[d.toNat], rfl, rfl, hL5, by omega, by omega, by rw [List.length_map]; exact ix_seq d0 d1, by rw [List.getElem?_map, List.getElem?_eq_getElem dl]; rfl, ?_⟩
        have pp := perm_pop (List.getElem?_eq_getElem dl)
        have y1 := Tk.one left[d.toNat] (pm.mem_iff.mp (List.mem_append_right _ (List.getElem_mem dl)))
        generalize left[d.toNat] = y at pp y1
        have F6 : Feed (upd H5 L (.lst ((left.map V.int).eraseIdx d.toNat))) f c (B + 1 + 2 * i + 1) := F5.upd nLf nLc
        have k6 : Ke (· = f) H (upd H5 L (.lst ((left.map V.int).eraseIdx d.toNat))) := k5.write frL hL5
        have hL6 : (upd H5 L (.lst ((left.map V.int).eraseIdx d.toNat))) L = some (.lst ((left.eraseIdx d.toNat).map V.int)) := by rw [upd_same, erase_map]
        have hS6 : (upd H5 L (.lst ((left.map V.int).eraseIdx d.toNat))) S = some (.lst (says.map V.int)) := by rw [upd_ne nSL]; exact hS5
        generalize (upd H5 L (.lst ((left.map V.int).eraseIdx d.toNat))) = H6 at F6 k6 hL6 hS6 ⊢
        -- says.append([thing, 0 - thing][..])
        refine ⟨_, rfl, .inl ⟨rfl, _, .of hS6⟩, _, rfl, _, rfl, _, _, rfl, rfl, by show 2 ≤ sizeLine; decide, fun p H7 np s7 hp _ => ?_⟩
        refine ⟨_, rfl, f, c, 2, B + 1 + 2 * i + 1, rfl, by decide, by decide, F6.same s7, by omega, fun e H8 e0 e1 F8 b8 => ?_⟩
        have npf : p ≠ f := F6.nf np
        have hp8 := (b8 p npf).trans hp
        have hS8 : H8 S = some (.lst (says.map V.int)) := (b8 S nSf).trans (s7 _ _ hS6)
        have hL8 : H8 L = some (.lst ((left.eraseIdx d.toNat).map V.int)) := (b8 L nLf).trans (s7 _ _ hL6)
        have k8 : Ke (· = f) H H8 := (k6.trans (.same s7)).trans (.but (F6.same s7) b8)
        have two : e = 0 ∨ e = 1 := by omega
        have go : ∀ z : Int, (z.natAbs : Int) = y → ((says ++ [z]).map (fun s => (s.natAbs : Int)) ++ left.eraseIdx d.toNat).Perm ks := fun z hz => by
          refine List.Perm.trans ?_ pm
          rw [List.map_append, List.append_assoc, List.map_singleton, hz]
          exact (List.Perm.refl _).append pp
        rcases two with rfl | rfl
        · refine ⟨p, _, 0, .int y, rfl, rfl, .of hp8, rfl, S, _, _, rfl, rfl, hS8, by rw [List.length_map]; exact small1000 (by omega), ?_⟩
          refine ⟨_, _, left.eraseIdx d.toNat, says ++ [y], rfl, (F8.upd nSf nSc).mono (by omega), k8.write frS hS8, by rw [upd_ne (Ne.symm nSL)]; exact hL8, by rw [upd_same, List.map_append]; rfl, by rw [erase_len dl]; omega, by rw [List.length_append, ls]; rfl, go y (by omega)⟩
        · refine ⟨p, _, 1, .int (0 - y), rfl, rfl, .of hp8, rfl, S, _, _, rfl, rfl, hS8, by rw [List.length_map]; exact small1000 (by omega), ?_⟩
          refine ⟨_, _, left.eraseIdx d.toNat, says ++ [0 - y], rfl, (F8.upd nSf nSc).mono (by omega), k8.write frS hS8, by rw [upd_ne (Ne.symm nSL)]; exact hL8, by rw [upd_same, List.map_append]; rfl, by rw [erase_len dl]; omega, by rw [List.length_append, ls]; rfl, go (0 - y) (by omega)⟩
      · rintro σ H' ⟨y5, y6, left, says, rfl, F4, k4, hL4, hS4, ll, ls, pm⟩
        exact ⟨y5, y6, left, says, rfl, F4.mono (by omega), k4, hS4, by omega, pm⟩
    rintro σ' H3 ⟨y5, y6, left, says, rfl, F3, k3, hS3, ls, pm⟩
    refine ⟨_, rfl, S, says, rfl, .of hS3, fun ns pn so p H4 np s4 hp _ => ?_⟩
    refine ⟨p, _, rfl, .of hp, fun p2 H5 np2 s5 hp2 _ => ?_⟩
    obtain ⟨h1, h2⟩ := cl_of Tk pm pn so
    refine q ns p2 H5 (F3.same (s4.trans s5)) (k3.trans (.same (s4.trans s5))) (.ke k3 F3 (.of (s4.free np2))) hp2 h1 h2 ?_
    rw [pn.length_eq]
    exact ls
/-- the claims css are of the things ks -/
def Of (ks : List Int) (cs : List Int) : Prop := IsCl cs ∧ ∀ s ∈ cs, (s.natAbs : Int) ∈ ks
/-- a list of claims as it grows -/
def Ls (H : Hp) (L : Addr) (css : List (List Int)) : Prop := ∃ vs, H L = some (.lst vs) ∧ vs.length = css.length ∧ ∀ (i : Nat) (x : V) (cs : List Int), vs[i]? = some x → css[i]? = some cs → TupI H x cs
theorem ix_append {α β : Type} {R : α → β → Prop} {vs : List α} {ys : List β} {v : α} {y : β} (l : vs.length = ys.length) (h : ∀ (i : Nat) (x : α) (z : β), vs[i]? = some x → ys[i]? = some z → R x z) (r : R v y) :
    ∀ (i : Nat) (x : α) (z : β), (vs ++ [v])[i]? = some x → (ys ++ [y])[i]? = some z → R x z := by
  intro i x z h1 h2
  by_cases hi : i < vs.length
  · rw [List.getElem?_append_left hi] at h1
    rw [List.getElem?_append_left (by omega)] at h2
    exact h i x z h1 h2
  · have e : i = vs.length := by
      have := (List.getElem?_eq_some_iff.mp h1).1
      rw [List.length_append, List.length_singleton] at this
      omega
    subst e
    rw [List.getElem?_append_right (Nat.le_refl _), Nat.sub_self] at h1
    rw [List.getElem?_append_right (by omega), show vs.length - ys.length = 0 by omega] at h2
    cases h1
    cases h2
    exact r
/-- sbook(feed, things, most) -/
def spBok : Sp := fun vs H Q _ => ∃ (f c t : Addr) (m : Int) (B : Nat) (ks : List Int), vs = [.ref f, .ref t, .int m] ∧ 1 ≤ m ∧ m ≤ 16 ∧ H t = some (.lst (ks.map V.int)) ∧ Thg ks ∧ ks ≠ [] ∧ t ≠ f ∧ Feed H f c B ∧ B ≤ 2 ^ 57 ∧
  ∀ (css : List (List Int)) (p : Addr) (H' : Hp), Feed H' f c (B + 500) → Ke (· = f) H H' → Frs H p → Bk H' (.ref p) css → (∀ cs ∈ css, Of ks cs) → 1 ≤ css.length → (css.length : Int) ≤ m → Q (.ref p) H'
theorem ok_bok {f fC : Addr} {fd fdC : FuncData} {k : Nat} (F : Fun K "_law_sbook" "_law_sbook" sBok f fd) (T : Zs mg) (FD : Fun K "_law_sdraw" "_law_sdraw" sDrw fD fdD) (bD : Binds K fdD ["feed", "many"] []) (gD : mg "_law_sdraw" = some (.ref fD)) (GD : FnOk P w K mg base CX0 2 fD fdD ["feed", "many"] spDrw)
    (FC : Fun K "_law_sclaim" "_law_sclaim" sClm fC fdC) (bC : Binds K fdC ["feed", "things", "most"] []) (gC : mg "_law_sclaim" = some (.ref fC)) (GC : FnOk P w K mg base CX0 3 fC fdC ["feed", "things", "most"] spClm) :
    FnOk P w K mg base CX0 (k + 4) f fd ["feed", "things", "most"] spBok := by
  refine F.ok scBok (fun vs H Q E h => ?_) (fun cdv A outer s H vs Q E hr h => ?_)
  · obtain ⟨f, c, t, m, B, ks, rfl, _⟩ := h
    rfl
  · obtain ⟨f, c, t, m, B, ks, rfl, m0, m8, ht, Tk, kn, ntf, hF, hB, q⟩ := h
    have hr2 : Room 2 _ := hr.mono (by omega)
    have hr3 : Room 3 _ := hr.mono (by omega)
    refine ⟨_, (pss_cons (ps_set (i := 3) scBok.nd rfl (.inl rfl) (pe_lstN pa_nil))
      (Evl.pss_cut (ps_for PassesOwn.never rfl (pi_range1 (by rfl) T.z_range (pa_cons (pe_op op_add pe_int (pe_call GD hr2 (by rfl) gD FD.kp bD .nil pass0 (pa_cons (pv 0) (pa_cons (pv 2) pa_nil)))) pa_nil)) (pg_name (i := 4) scBok.nd rfl (.inl rfl)) (Evl.pss_cut (ps_set (i := 5) scBok.nd rfl (.inl rfl) (pe_call GC hr3 (by rfl) gC FC.kp bC .nil pass0 (pa_cons (pv 0) (pa_cons (pv 1) (pa_cons (pe_ix ix_list (pe_lstN (pa_cons pe_int (pa_cons pe_int (pa_cons pe_int (pa_cons pe_int pa_nil))))) (pe_call GD hr2 (by rfl) gD FD.kp bD .nil pass0 (pa_cons (pv 0) (pa_cons pe_int pa_nil))) (fun _ _ => rfl)) pa_nil)))))
      (Evl.pss_cut (ps_if (PW.pt (pw_and (pt_cmpR (op_eqD hr.units) (pv 5) (pe_tupN pa_nil) (nomark _)) (pw_and1 (pt_cmpR op_gt (pe_call GD hr2 (by rfl) gD FD.kp bD .nil pass0 (pa_cons (pv 0) (pa_cons pe_int pa_nil))) pe_int (nomark _))))) (pss_one (ps_set (i := 5) scBok.nd rfl (.inl rfl) (pe_tupN (pa_cons (pe_ix ix_list (pv 1) pe_int (fun _ _ => rfl)) pa_nil)))) pss_nil)
      (pss_one (ps_expr (pe_bm PySem.F.plainAttrs_list PySem.F.slot_list_append PySem.F.type_list_append mt_append (pv 3) (pa_cons (pv 5) pa_nil)))))))
      (pss_one (ps_ret (pe_callTy call_tuple_ofN (by rfl) T.z_tuple (by decide +kernel) (pa_cons (pv 3) pa_nil)))))), ?_⟩
    refine ⟨Nat.zero_le _, fun L H1 nL s1 hL _ => ?_⟩
    have nLf : L ≠ f := hF.nf nL
    have nLc : L ≠ c := hF.nc nL
    have frL : Frs H L := .of nL
    have nLt : L ≠ t := Ne.symm (ne_of_none ht nL)
    obtain ⟨k0, kr, rfl⟩ : ∃ k0 kr, ks = k0 :: kr := by
      cases ks with
      | nil => exact absurd rfl kn
      | cons a r => exact ⟨a, r, rfl⟩
    have hk0 := Tk.one k0 List.mem_cons_self
    have of0 : Of (k0 :: kr) [k0] := by
      refine ⟨⟨.cons (fun _ h => (nomatch h)) .nil, fun k hk => ?_, fun k hk hn => ?_, by show 1 ≤ 8; decide⟩, fun s hs => ?_⟩
      · rw [List.mem_singleton.mp hk]
        omega
      · rw [List.mem_singleton.mp hk] at hn
        have := List.mem_singleton.mp hn
        omega
      · rw [List.mem_singleton.mp hs, show ((k0.natAbs : Nat) : Int) = k0 by omega]
        exact List.mem_cons_self
    refine Evl.q_cut (M := fun σ' H' => ∃ (y4 y5 : Option V) (css : List (List Int)), σ' = [some (.ref f), some (.ref t), some (.int m), some (.ref L), y4, y5] ∧ Feed H' f c (B + 500) ∧ Ke (· = f) H H' ∧ Ls H' L css ∧ (∀ cs ∈ css, Of (k0 :: kr) cs) ∧ 1 ≤ css.length ∧ (css.length : Int) ≤ m) ?_ ?_
    · have F1 : Feed H1 f c B := hF.same s1
      refine ⟨_, rfl, _, rfl, f, c, _, B, rfl, by omega, by omega, F1, by omega, fun d H2 d0 d1 F2 b2 => ?_⟩
      refine ⟨_, _, rfl, rfl, 1 + d, rfl, by omega, by omega, for_range (Pv := fun i σ H' => ∃ (y4 y5 : Option V) (css : List (List Int)), σ = [some (.ref f), some (.ref t), some (.int m), some (.ref L), y4, y5] ∧ Feed H' f c (B + 1 + 30 * i) ∧ Ke (· = f) H H' ∧ Ls H' L css ∧ (∀ cs ∈ css, Of (k0 :: kr) cs) ∧ css.length = i) ?_ ?_ ?_⟩
      · exact ⟨none, none, [], rfl, F2, (Ke.same s1).trans (.but F1 b2), ⟨[], (b2 L nLf).trans hL, rfl, fun i x cs h => by simp at h⟩, fun cs h => (nomatch h), rfl⟩
      · rintro i σ H3 hi ⟨y4, y5, css, rfl, F3, k3, ⟨vs, hL3, lv, hv⟩, oc, lc⟩
        have hi : i < (1 + d).toNat := hi
        have ht3 : H3 t = some (.lst ((k0 :: kr).map V.int)) := k3.lst ht ntf
        refine Evl.q_cut (M := fun σ' H' => ∃ (p : Addr) (cs : List Int), σ' = [some (.ref f), some (.ref t), some (.int m), some (.ref L), some (.int (0 + (i : Int))), some (.ref p)] ∧ Feed H' f c (B + 1 + 30 * i + 21) ∧ Ke (· = f) H3 H' ∧ H' p = some (.tup (cs.map V.int)) ∧ Of (k0 :: kr) cs) ?_ ?_
        · refine ⟨_, rfl, _, rfl, by show 4 ≤ sizeLine; decide, fun p4 H4 np4 s4 hp4 _ => ?_⟩
          have F4 := F3.same s4
          refine ⟨_, rfl, f, c, 4, _, rfl, by decide, by decide, F4, by omega, fun e H5 e0 e1 F5 b5 => ?_⟩
          have k5 : Ke (· = f) H3 H5 := (Ke.same s4).trans (.but F4 b5)
          have np4f : p4 ≠ f := F3.nf np4
          have ht5 : H5 t = some (.lst ((k0 :: kr).map V.int)) := k5.lst ht3 ntf
          have pk : ∃ mm : Int, 0 ≤ mm ∧ mm ≤ 8 ∧ atI [V.int 3, V.int 3, V.int 3, V.int 6] e = some (.int mm) := by
            have four : e = 0 ∨ e = 1 ∨ e = 2 ∨ e = 3 := by omega
            rcases four with rfl | rfl | rfl | rfl
            · exact ⟨3, by decide, by decide, rfl⟩
            · exact ⟨3, by decide, by decide, rfl⟩
            · exact ⟨3, by decide, by decide, rfl⟩
            · exact ⟨6, by decide, by decide, rfl⟩
          obtain ⟨mm, mm0, mm1, ha⟩ := pk
          refine ⟨p4, _, e, .int mm, rfl, rfl, .of ((b5 p4 np4f).trans hp4), ha, f, c, t, mm, _, k0 :: kr, rfl, mm0, mm1, ht5, Tk, F5, by omega, fun cs p H6 F6 k6 _ hp h1 h2 _ => ?_⟩
          exact ⟨p, cs, rfl, F6.mono (by omega), k5.trans k6, hp, h1, h2⟩
        rintro σ' H4 ⟨p, cs, rfl, F4, k4, hp, hc⟩
        -- if claim == () and ..
        refine Evl.q_cut (M := fun σ' H' => ∃ (p : Addr) (cs : List Int), σ' = [some (.ref f), some (.ref t), some (.int m), some (.ref L), some (.int (0 + (i : Int))), some (.ref p)] ∧ Feed H' f c (B + 1 + 30 * i + 22) ∧ Ke (· = f) H3 H' ∧ H' p = some (.tup (cs.map V.int)) ∧ Of (k0 :: kr) cs) ?_ ?_
        · refine ⟨_, rfl, Nat.zero_le _, fun p5 H5 np5 s5 hp5 _ => ?_⟩
          have F5 := F4.same s5
          have k5 : Ke (· = f) H3 H5 := k4.trans (.same s5)
          refine ⟨_, _, .tup (.of (s5 _ _ hp)) (dp_ints cs), .tup (.of hp5) .nil, shaped_tuple (flat_ints _), shaped_tuple rfl, _, rfl, ite2 (fun e => ?_) (fun e => ?_)⟩
          · refine ⟨_, rfl, f, c, 6, _, rfl, by decide, by decide, F5, by omega, fun g H6 g0 g1 F6 b6 => ?_⟩
            have k6 : Ke (· = f) H3 H6 := k5.trans (.but F5 b6)
            refine ⟨_, _, rfl, rfl, _, rfl, ite2 (fun e => ?_) (fun e => ?_)⟩
            · have ht6 : H6 t = some (.lst ((k0 :: kr).map V.int)) := k6.lst ht3 ntf
              refine ⟨_, rfl, t, _, 0, .int k0, rfl, rfl, .of ht6, atI_nat (j := 0) rfl, by show 1 ≤ sizeLine; decide, fun p7 H7 np7 s7 hp7 _ => ?_⟩
              exact ⟨p7, [k0], rfl, (F6.same s7).mono (by omega), k6.trans (.same s7), hp7, of0⟩
            · exact ⟨p, cs, rfl, F6.mono (by omega), k6, (Ke.but F5 b6).tups _ _ (s5 _ _ hp), hc⟩
          · exact ⟨p, cs, rfl, F5.mono (by omega), k5, s5 _ _ hp, hc⟩
        rintro σ' H5 ⟨p, cs, rfl, F5, k5, hp, hc⟩
        -- claims.append(claim)
        have hL5 : H5 L = some (.lst vs) := k5.lst hL3 nLf
        refine ⟨_, rfl, .inl ⟨rfl, _, .of hL5⟩, _, rfl, L, _, _, rfl, rfl, hL5, small1000 (by omega), ?_⟩
        have k6 : Ke (· = f) H (upd H5 L (.lst (vs ++ [.ref p]))) := (k3.trans k5).write frL hL5
        have tp : ∀ {x : V} {ds : List Int}, TupI H5 x ds → TupI (upd H5 L (.lst (vs ++ [.ref p]))) x ds := fun {x ds} ⟨a, e, h⟩ => ⟨a, e, by
          have n : a ≠ L := fun z => by
            rw [z, hL5] at h
            cases h
          rw [upd_ne n]
          exact h⟩
        refine ⟨_, _, css ++ [cs], rfl, (F5.upd nLf nLc).mono (by omega), k6, ⟨vs ++ [.ref p], upd_same, by rw [List.length_append, List.length_append, lv]; rfl, ix_append lv (fun i x ds h1 h2 => tp ((hv i x ds h1 h2).ke k5)) (tp ⟨p, rfl, hp⟩)⟩, fun ds hd => ?_, by rw [List.length_append, lc]; rfl⟩
        rcases List.mem_append.mp hd with z | z
        · exact oc ds z
        · rw [List.mem_singleton.mp z]
          exact hc
      · rintro σ H3 ⟨y4, y5, css, rfl, F3, k3, ls, oc, lc⟩
        have lc' : css.length = (1 + d).toNat := lc
        exact ⟨y4, y5, css, rfl, F3.mono (by omega), k3, ls, oc, by omega, by omega⟩
    rintro σ' H2 ⟨y4, y5, css, rfl, F2, k2, ⟨vs, hL2, lv, hv⟩, oc, l1, l2⟩
    refine ⟨_, rfl, L, vs, rfl, .of hL2, fun p H3 np s3 hp _ => ?_⟩
    have k3 : Ke (· = f) H2 H3 := .same s3
    exact q css p H3 (F2.same s3) (k2.trans k3) (.ke k2 F2 (.of np)) ⟨p, vs, rfl, hp, lv, fun i x cs h1 h2 => (hv i x cs h1 h2).ke k3⟩ oc l1 l2
end
end Cl
namespace Tb5
open PySem PySem.Spec PyProof.Rows L2
/-! ### a set's table of up to 512 places (k12) -/
/-- the masks of such tables -/
def Msk (m : Nat) : Prop := MaskOk m ∨ m = 511
theorem Msk.odd {m : Nat} (h : Msk m) : m % 2 = 1 := h.elim mask_odd fun e => by rw [e]
theorem go_on (m i a : Nat) : ∀ k, lcgI m (lcgI m i a) k = lcgI m i (a + k)
  | 0 => rfl
  | k + 1 => congrArg (fun z => (z * 5 + 1) % (m + 1)) (go_on m i a k)
/-- where the steps lead -/
def orb : Nat → Nat → List Nat
  | 0, _ => []
  | n + 1, x => x :: orb n ((x * 5 + 1) % 512)
theorem orb_at : ∀ (n x k : Nat), k < n → (orb n x)[k]? = some (lcgI 511 x k)
  | 0, _, _, h => absurd h (Nat.not_lt_zero _)
  | n + 1, x, 0, _ => rfl
  | n + 1, x, k + 1, h => by
    have e := orb_at n ((x * 5 + 1) % 512) k (by omega)
    have g := go_on 511 x 1 k
    rw [Nat.add_comm 1 k] at g
    rw [← g]
    exact e
theorem orb_len : ∀ n x, (orb n x).length = n
  | 0, _ => rfl
  | n + 1, x => congrArg (· + 1) (orb_len n _)
theorem orb_full : ((List.range 512).all fun j => (orb 512 0).contains j) = true := by decide +kernel
theorem back511 : lcgI 511 0 512 = 0 := by decide +kernel
theorem from0 {j : Nat} (h : j ≤ 511) : ∃ b, b < 512 ∧ lcgI 511 0 b = j := by
  have m := List.all_eq_true.mp orb_full j (List.mem_range.mpr (by omega))
  obtain ⟨b, hb⟩ := List.getElem?_of_mem (List.contains_iff_mem.mp m)
  have lb := (List.getElem?_eq_some_iff.mp hb).1
  rw [orb_len] at lb
  rw [orb_at 512 0 b lb] at hb
  exact ⟨b, lb, Option.some.inj hb⟩
theorem all511 {i j : Nat} (hi : i ≤ 511) (hj : j ≤ 511) : ∃ k, k ≤ 511 ∧ lcgI 511 i k = j := by
  obtain ⟨a, la, ea⟩ := from0 hi
  obtain ⟨b, lb, eb⟩ := from0 hj
  subst ea
  by_cases z : a ≤ b
  · exact ⟨b - a, by omega, by rw [go_on, show a + (b - a) = b by omega, eb]⟩
  · refine ⟨b + 512 - a, by omega, ?_⟩
    rw [go_on, show a + (b + 512 - a) = 512 + b by omega, ← go_on, back511, eb]
theorem Msk.meets {m : Nat} (hm : Msk m) (h : Int) {j : Nat} (hj : j ≤ m) : ∃ n, n ≤ m + 12 ∧ runI m (SetTable.bits h) n = j := by
  rcases hm with hm | rfl
  · exact run_meets hm h hj
  · obtain ⟨k, lk, e⟩ := all511 (runI_le 511 (SetTable.bits h) 12) hj
    refine ⟨12 + k, by omega, ?_⟩
    rw [runI_tail (bits_lt h), e]
theorem inside (m : Nat) (h : Int) (k : Nat) : way m h k ≤ m := by
  have a : SetTable.bits h % (m + 1) ≤ m := Nat.lt_succ_iff.mp (Nat.mod_lt _ (by omega))
  have b := runEnd_bd a
  have e := nth_in (m := m) k (runAt m (SetTable.bits h % (m + 1)) (SetTable.bits h)) (show SetTable.bits h % (m + 1) + (SetTable.runEnd m (SetTable.bits h % (m + 1)) - SetTable.bits h % (m + 1)) ≤ m by omega)
  exact Nat.le_trans (Nat.le_add_right _ _) e
/-- a table in which each hash is found again -/
structure Tk5 (t : SetTable) (hs : List Int) : Prop where
  up : Ris t.place.toList
  dm : t.dummies = #[]
  sz : t.place.size = hs.length
  mo : Msk t.mask
  le : ∀ x ∈ t.place.toList, x ≤ t.mask
  rc : ∀ (i : Nat) (h : Int) (j : Nat), hs[i]? = some h → t.place.toList[i]? = some j → ∃ k, way t.mask h k = j ∧ ∀ c, c < k → way t.mask h c ∈ t.place.toList
theorem Tk5.first {t : SetTable} {hs : List Int} (x : Tk5 t hs) (room : hs.length ≤ t.mask) (h : Int) : ∃ K, K < 10 * SetTable.turns t.mask ∧ way t.mask h K ∉ t.place.toList ∧ ∀ k, k < K → way t.mask h k ∈ t.place.toList := by
  obtain ⟨j, lj, nj⟩ := st_missing t.place.toList (t.mask + 1) (by rw [Array.length_toList, x.sz]; omega)
  obtain ⟨n, ln, e⟩ := x.mo.meets h (show j ≤ t.mask by omega)
  obtain ⟨k, lk, e2⟩ := run_nth t.mask (SetTable.bits h) n
  have wk : way t.mask h k ∉ t.place.toList := by
    show (nth t.mask _ k).j ∉ _
    rw [e2, show (runAt t.mask (runI t.mask (SetTable.bits h) n) _).j = j from e]
    exact nj
  obtain ⟨K, h1, h2, h3⟩ := st_least (p := fun k => way t.mask h k ∉ t.place.toList) k wk
  refine ⟨K, ?_, h2, fun c hc => Classical.not_not.mp (h3 c hc)⟩
  unfold SetTable.turns
  omega
theorem Tk5.before {t : SetTable} {hs : List Int} (x : Tk5 t hs) {h : Int} {K i j : Nat} (hK : way t.mask h K ∉ t.place.toList) (hi : hs[i]? = some h) (hj : t.place.toList[i]? = some j) : ∃ k, k < K ∧ way t.mask h k = j := by
  obtain ⟨k, rfl, hb⟩ := x.rc i h j hi hj
  refine ⟨k, Nat.lt_of_not_le fun z => ?_, rfl⟩
  rcases Nat.lt_or_eq_of_le z with z | z
  · exact hK (hb K z)
  · exact hK (z ▸ List.mem_of_getElem? hj)
/-- one more -/
theorem Tk5.put {t : SetTable} {hs : List Int} (x : Tk5 t hs) {h : Int} {K : Nat} (hK : way t.mask h K ∉ t.place.toList) (hb : ∀ k, k < K → way t.mask h k ∈ t.place.toList) :
    (t.put (way t.mask h K)).2 = SetTable.below t.place (way t.mask h K) ∧ SetTable.below t.place (way t.mask h K) ≤ hs.length ∧
    Tk5 (t.put (way t.mask h K)).1 (hs.take (SetTable.below t.place (way t.mask h K)) ++ h :: hs.drop (SetTable.below t.place (way t.mask h K))) ∧
    (t.put (way t.mask h K)).1.mask = t.mask ∧ (t.put (way t.mask h K)).1.led = t.led ∧ (t.put (way t.mask h K)).1.plain = t.plain ∧ (t.put (way t.mask h K)).1.moves = t.moves ∧ (t.put (way t.mask h K)).1.finger = t.finger ∧
    (t.put (way t.mask h K)).1.fill = hs.length + 1 := by
  have lw := inside t.mask h K
  generalize ew : way t.mask h K = j at hK lw
  have place := put_place t j
  have cut := (below_cut x.up j).1
  generalize eb : SetTable.below t.place j = p at place cut
  have lp : p ≤ t.place.toList.length := Array.length_toList (xs := t.place) ▸ cut
  have lh : p ≤ hs.length := x.sz ▸ cut
  have new : t.place[p]? ≠ some j := fun e => hK (List.mem_of_getElem? ((Array.getElem?_toList (xs := t.place)).trans e))
  have size : (t.put j).1.place.size = hs.length + 1 := by
    have := congrArg List.length place
    rw [len_ins _ lp, Array.length_toList, Array.length_toList, x.sz] at this
    exact this
  have old : ∀ {y : Nat}, y ∈ t.place.toList → y ∈ (t.put j).1.place.toList := fun m => place ▸ mem_ins.2 (.inr m)
  have dm := put_dm x.dm j
  refine ⟨eb, lh, ?_, rfl, rfl, rfl, rfl, rfl, ?_⟩
  · exact {
      up := by
        have := ris_insert x.up (j := j) (by rw [eb]; exact new)
        exact this
      dm := dm
      sz := by rw [len_ins _ lh]; exact size
      mo := x.mo
      le := fun y hy => by
        rw [place] at hy
        exact (mem_ins.1 hy).elim (fun e => e ▸ lw) (x.le y)
      rc := fun i g k hg hk => by
        rw [tins_get hs lh] at hg
        rw [place, tins_get _ lp] at hk
        have carry : ∀ i', hs[i']? = some g → t.place.toList[i']? = some k → ∃ c, way t.mask g c = k ∧ ∀ c', c' < c → way t.mask g c' ∈ (t.put j).1.place.toList := fun i' a b => by
          obtain ⟨c, e, f⟩ := x.rc i' g k a b
          exact ⟨c, e, fun c' lc => old (f c' lc)⟩
        show ∃ c, way t.mask g c = k ∧ ∀ c', c' < c → way t.mask g c' ∈ (t.put j).1.place.toList
        rcases Nat.lt_trichotomy i p with z | z | z
        · rw [if_pos z] at hg hk
          exact carry i hg hk
        · rw [if_neg (by omega), if_pos z] at hg hk
          cases hg
          cases hk
          exact ⟨K, ew, fun c lc => old (hb c lc)⟩
        · rw [if_neg (by omega), if_neg (by omega)] at hg hk
          exact carry (i - 1) hg hk }
  · show (t.put j).1.place.size + (t.put j).1.dummies.size = _
    rw [size, dm]
    rfl
theorem free_at {m : Nat} (hm : Msk m) (owner : Array (Option Nat)) (h : Int) {j : Nat} (hj : j ≤ m) (hf : oAt owner j = none) :
    ∃ K, SetTable.layClean.free m owner (SetTable.turns m) (SetTable.bits h % (m + 1)) (SetTable.bits h) = some (way m h K) ∧ oAt owner (way m h K) = none ∧ ∀ k, k < K → oAt owner (way m h k) ≠ none := by
  obtain ⟨n, ln, e⟩ := hm.meets h hj
  have there : oAt owner (way m h (off m (SetTable.bits h % (m + 1)) (SetTable.bits h) n)) = none := by
    have : way m h (off m (SetTable.bits h % (m + 1)) (SetTable.bits h) n) = j := by
      show (nth m _ _).j = j
      rw [nth_off, itL_run]
      exact e
    rw [this]
    exact hf
  obtain ⟨K, k1, k2, k3⟩ := st_least (p := fun k => oAt owner (way m h k) = none) _ there
  refine ⟨K, free_spec m owner _ n _ _ K ?_ k1 (fun k lk => ?_) ?_, k2, k3⟩
  · unfold SetTable.turns
    omega
  · exact Option.isNone_eq_false_iff.mpr (Option.isSome_iff_ne_none.mpr (k3 k lk))
  · exact Option.isNone_iff_eq_none.mpr k2
theorem own_more {m : Nat} (hm : Msk m) {done : List Int} {owner : Array (Option Nat)} (x : Own m done owner) (room : done.length ≤ m) (h : Int) :
    ∃ j, SetTable.layClean.free m owner (SetTable.turns m) (SetTable.bits h % (m + 1)) (SetTable.bits h) = some j ∧ Own m (done ++ [h]) (owner.setIfInBounds j (some done.length)) := by
  obtain ⟨ps, lps, inp⟩ := x.ps
  obtain ⟨j0, l0, n0⟩ := st_missing ps (m + 1) (by omega)
  have free0 : oAt owner j0 = none := Classical.not_not.mp fun z => n0 (inp j0 (by omega) z)
  obtain ⟨K, f1, f2, f3⟩ := free_at hm owner h (show j0 ≤ m by omega) free0
  have lw := inside m h K
  generalize ew : way m h K = j at f1 f2 lw
  have lo : j < owner.size := by
    rw [x.sz]
    omega
  have self := oAt_set_self (some done.length) lo
  have rest : ∀ {i}, i ≠ j → oAt (owner.setIfInBounds j (some done.length)) i = oAt owner i := fun c => oAt_set_ne _ c
  have held : ∀ {i}, oAt owner i ≠ none → oAt (owner.setIfInBounds j (some done.length)) i ≠ none := fun {i} hi => by
    by_cases c : i = j
    · rw [c, self]
      nofun
    · rwa [rest c]
  refine ⟨j, f1, ⟨by rw [Array.size_setIfInBounds]; exact x.sz, fun i k li e => ?_, fun k lk => ?_, j :: ps, ?_, fun i li e => ?_⟩⟩
  · by_cases c : i = j
    · rw [c, self] at e
      cases e
      refine ⟨h, K, ?_, ew.trans c.symm, fun k' l => held (f3 k' l)⟩
      rw [List.getElem?_append_right (Nat.le_refl _), Nat.sub_self]
      rfl
    · rw [rest c] at e
      obtain ⟨g, K', a1, a2, a3⟩ := x.at_ i k li e
      exact ⟨g, K', (List.getElem?_append_left (List.getElem?_eq_some_iff.mp a1).1).trans a1, a2, fun k' l => held (a3 k' l)⟩
  · rw [List.length_append, List.length_singleton] at lk
    rcases Nat.lt_succ_iff_lt_or_eq.mp lk with c | c
    · obtain ⟨i, li, e⟩ := x.all k c
      exact ⟨i, li, (rest fun z => by rw [z, f2] at e; cases e).trans e⟩
    · exact ⟨j, lw, by rw [c]; exact self⟩
  · rw [List.length_cons, List.length_append, lps]
    rfl
  · by_cases c : i = j
    · rw [c]
      exact List.mem_cons_self
    · exact List.mem_cons_of_mem _ (inp i li (by rwa [rest c] at e))
theorem own_all {m : Nat} (hm : Msk m) : ∀ (rest done : List Int) (owner : Array (Option Nat)), Own m done owner → done.length + rest.length ≤ m →
    ∃ owner', rest.foldl (stepF m) (some (owner, done.length)) = some (owner', (done ++ rest).length) ∧ Own m (done ++ rest) owner'
  | [], done, owner, x, _ => by
    rw [List.append_nil]
    exact ⟨owner, rfl, x⟩
  | h :: rest, done, owner, x, room => by
    rw [List.length_cons] at room
    obtain ⟨j, e, y⟩ := own_more hm x (by omega) h
    obtain ⟨o, f, z⟩ := own_all hm rest (done ++ [h]) _ y (by rw [List.length_append, List.length_singleton]; omega)
    rw [List.append_assoc] at f z
    rw [List.length_append, List.length_singleton] at f
    exact ⟨o, (congrArg (rest.foldl (stepF m)) (stepF_some e)).trans f, z⟩
theorem laid {m : Nat} (hm : Msk m) {hs : Array Int} (room : hs.size ≤ m) : ∃ owner, SetTable.layClean m hs = some owner ∧ Own m hs.toList owner := by
  obtain ⟨o, f, z⟩ := own_all hm hs.toList [] _ (Own.init m) (show 0 + hs.toList.length ≤ m by rw [Array.length_toList (xs := hs)]; omega)
  rw [List.nil_append] at z f
  refine ⟨o, ?_, z⟩
  rw [layClean_eq]
  exact congrArg (Option.map (·.1)) f
theorem anew (t : SetTable) {hs : Array Int} {wanted M : Nat} (hw : SetTable.sizeAbove wanted - 1 = M) (hM : Msk M) (room : hs.size ≤ M) :
    ∃ t' order, t.relaid hs wanted = some (t', order) ∧ order.toList.Perm (List.range hs.size) ∧ Tk5 t' (order.toList.map fun i => hs.getD i 0) ∧ t'.mask = M ∧ t'.led = t.led ∧ t'.plain = t.plain ∧ t'.dummies = #[] := by
  obtain ⟨owner, e, x⟩ := laid hM room
  have live := fun j k => mem_live (j := j) (k := k) x.sz
  have rs := ris_live (fun j => owner.getD j none) (List.range (M + 1)) (by unfold Ris; exact List.pairwise_lt_range)
  have r1 : Ris ((liveOf M owner).map (·.1)) := rs.1
  have r2 : ∀ y ∈ (liveOf M owner).map (·.1), y ∈ List.range (M + 1) := rs.2
  have num : ∀ k, k < hs.size → k ∈ (liveOf M owner).map (·.2) := fun k lk => by
    obtain ⟨j, b1, b2⟩ := x.all k lk
    exact List.mem_map.mpr ⟨(j, k), (live j k).2 ⟨b1, b2⟩, rfl⟩
  have len : (liveOf M owner).length = hs.size := by
    obtain ⟨ps, p1, p2⟩ := x.ps
    have least := nat_nodup_len (List.range hs.size) _ List.nodup_range fun k hk => num k (List.mem_range.mp hk)
    have n1 : ((liveOf M owner).map (·.1)).Nodup := List.Pairwise.imp (fun l => Nat.ne_of_lt l) r1
    have most := nat_nodup_len ((liveOf M owner).map (·.1)) ps n1 fun y hy => by
      obtain ⟨⟨j, k⟩, hq, rfl⟩ := List.mem_map.mp hy
      obtain ⟨b1, b2⟩ := (live j k).1 hq
      exact p2 j b1 (by rw [b2]; nofun)
    rw [List.length_map, List.length_range] at least
    rw [List.length_map, p1, Array.length_toList (xs := hs)] at most
    omega
  refine ⟨tabOf t M owner, ((liveOf M owner).map (·.2)).toArray, ?_, perm_range hs.size _ ((List.length_map _).trans len) num, ?_, rfl, rfl, rfl, rfl⟩
  · rw [relaid_eq, hw, e]
    rfl
  · exact {
      up := r1
      dm := rfl
      sz := by
        show ((liveOf M owner).map (·.1)).toArray.size = _
        rw [List.size_toArray, List.length_map, List.length_map, List.length_map]
      mo := hM
      le := fun y hy => Nat.lt_succ_iff.mp (List.mem_range.mp (r2 y hy))
      rc := fun i h j h1 h2 => by
        have h1 : (((liveOf M owner).map (·.2)).map fun i => hs.getD i 0)[i]? = some h := h1
        have h2 : ((liveOf M owner).map (·.1))[i]? = some j := h2
        rw [List.getElem?_map] at h2
        rw [List.getElem?_map, List.getElem?_map] at h1
        obtain ⟨⟨y, k⟩, hq, rfl⟩ := Option.map_eq_some_iff.mp h2
        rw [hq] at h1
        obtain ⟨b1, b2⟩ := (live y k).1 (List.mem_of_getElem? hq)
        obtain ⟨g, K, a1, a2, a3⟩ := x.at_ y k b1 b2
        have eg : g = h := by
          have h1 : hs.getD k 0 = h := Option.some.inj h1
          rw [← h1, Array.getD_eq_getD_getElem?, ← Array.getElem?_toList, a1]
          rfl
        subst eg
        refine ⟨K, a2, fun c lc => ?_⟩
        obtain ⟨k2, z⟩ := Option.ne_none_iff_exists'.mp (a3 c lc)
        exact List.mem_map.mpr ⟨(way M g c, k2), (live _ _).2 ⟨inside M g c, z⟩, rfl⟩ }
theorem size308 : SetTable.sizeAbove (SetTable.grown 77) = 512 := by decide +kernel
end Tb5
namespace Tsb
open PySem PySem.Spec PyProof.Rows L2
/-! ### sets of unlike tuples of numbers and texts -/
section
variable {P : Program} {w : World} {A : Around} {E : Value → Shared → Prop} {s : Shared}
abbrev Ks := List Key
abbrev hs1 (P : Program) (w : World) (k : Ks) : Int := tupleKeyHash (mixKind P w) k
abbrev TK (P : Program) (w : World) (h : Heap) (k : Ks) (b : Addr) : Prop := IsTupleKey (mixKind P w) h k b
def Leaf (v : Value) : Prop := (∃ i t, v = Value.int i t) ∨ ∃ x t, v = Value.str x t
theorem leaves {k : Ks} {vs : List Value} (z : ItemsAre (mixKind P w) k vs) : ∀ v ∈ vs, Leaf v := by
  induction z with
  | nil => exact fun v m => nomatch m
  | cons h1 _ ih =>
    intro v m
    rcases List.mem_cons.mp m with e | e
    · rw [e]
      rcases keyIs_shape h1 with ⟨i, t, _, e'⟩ | ⟨x, t, _, e'⟩
      · exact .inl ⟨i, t, e'⟩
      · exact .inr ⟨x, t, e'⟩
    · exact ih v e
theorem leaf_class {v : Value} (h : Leaf v) (n : Nat) : ofAClassStatement n v = pure false := by
  rcases h with ⟨i, t, rfl⟩ | ⟨x, t, rfl⟩ <;> cases n <;> rfl
theorem leaf_hash {v : Value} (h : Leaf v) (n : Nat) : hashByValue n v = pure true ∨ hashByValue n v = pure false := by
  rcases h with ⟨i, t, rfl⟩ | ⟨x, t, rfl⟩
  · exact .inl (by cases n <;> rfl)
  · exact .inr (by cases n <;> rfl)
/-- a tuple is of no class statement -/
theorem tup_class {k : Ks} {b : Addr} {Q : Bool → Shared → Prop} (z : TK P w s.heap k b) (q : Q false s) : wpAny (model P w) A (ofAClassStatement 8 (.ref b)) Q E s := by
  have ty := z.typeIs
  obtain ⟨ob, its, nn, g1, _, g2, g3⟩ := z
  unfold ofAClassStatement
  refine wpAny_bind (wpAny_typeOf ty ?_)
  dsimp only
  simp only [show (("tuple" : String) == "tuple") = true by decide, if_true, Bool.not_true, Bool.false_eq_true, if_false]
  try refine wpAny_bind (wpAny_pure ?_)
  try simp only [Bool.not_true, Bool.false_eq_true, if_false]
  show wpAny _ _ (seqItems? (Value.ref b) >>= _) _ _ s
  refine wpAny_bind (wpAny_seqItems g1 g2 ?_)
  dsimp only
  refine wpAny_bind ?_
  show wpAny _ _ (forIn its _ _) _ _ s
  rw [← Array.forIn_toList]
  refine wpAny_forIn_list _ (fun rest r u => r.1 = none ∧ u = s ∧ ∀ v ∈ rest, Leaf v) _ ?_ ?_ _ _ ⟨rfl, rfl, leaves g3⟩
  · rintro v rest r u ⟨_, rfl, al⟩
    rw [leaf_class (al v List.mem_cons_self)]
    refine wpAny_bind (wpAny_pure ?_)
    simp only [Bool.false_eq_true, if_false]
    exact wpAny_pure ⟨rfl, rfl, fun y hy => al y (List.mem_cons_of_mem _ hy)⟩
  · rintro ⟨r1, r2⟩ u ⟨e, rfl, _⟩
    have e : r1 = none := e
    rw [e]
    exact wpAny_pure q
/-- whether its hash is by value -/
theorem tup_hash {k : Ks} {b : Addr} {Q : Bool → Shared → Prop} (z : TK P w s.heap k b) (q : ∀ y, Q y s) : wpAny (model P w) A (hashByValue 8 (.ref b)) Q E s := by
  have ty := z.typeIs
  obtain ⟨ob, its, nn, g1, _, g2, g3⟩ := z
  unfold hashByValue
  refine wpAny_bind (wpAny_specialOf ty F.slot_tuple_hash.lookup ?_)
  show wpAny _ _ (seqItems? (Value.ref b) >>= _) _ _ s
  refine wpAny_bind (wpAny_seqItems g1 g2 ?_)
  refine wpAny_bind ?_
  show wpAny _ _ (forIn its _ _) _ _ s
  rw [← Array.forIn_toList]
  refine wpAny_forIn_list _ (fun rest r u => r.1 = none ∧ u = s ∧ ∀ v ∈ rest, Leaf v) _ ?_ ?_ _ _ ⟨rfl, rfl, leaves g3⟩
  · rintro v rest r u ⟨_, rfl, al⟩
    rcases leaf_hash (al v List.mem_cons_self) 7 with e | e
    · rw [e]
      refine wpAny_bind (wpAny_pure ?_)
      simp only [Bool.not_true, Bool.false_eq_true, if_false]
      exact wpAny_pure ⟨rfl, rfl, fun y hy => al y (List.mem_cons_of_mem _ hy)⟩
    · rw [e]
      refine wpAny_bind (wpAny_pure ?_)
      simp only [Bool.not_false, if_true]
      exact wpAny_pure (wpAny_pure (q false))
  · rintro ⟨r1, r2⟩ u ⟨e, rfl, _⟩
    have e : r1 = none := e
    rw [e]
    exact wpAny_pure (q true)
/-- no search among them shows -/
theorem tup_seen {k : Ks} {b : Addr} {Q : Bool → Shared → Prop} (z : TK P w s.heap k b) {ys : List Value} (al : ∀ y ∈ ys, ∃ k' c, y = Value.ref c ∧ TK P w s.heap k' c) (q : Q false s) : wpAny (model P w) A (searchCouldBeSeen (.ref b) ys) Q E s := by
  unfold searchCouldBeSeen
  refine wpAny_bind ?_
  refine wpAny_forIn_list _ (fun rest r u => r.1 = none ∧ u = s ∧ ∀ y ∈ rest, ∃ k' c, y = Value.ref c ∧ TK P w s.heap k' c) _ ?_ ?_ _ _ ⟨rfl, rfl, al⟩
  · rintro v rest r u ⟨_, rfl, al⟩
    obtain ⟨k', c, rfl, hc⟩ := al v List.mem_cons_self
    have al' : ∀ y ∈ rest, ∃ k' c, y = Value.ref c ∧ TK P w u.heap k' c := fun y hy => al y (List.mem_cons_of_mem _ hy)
    dsimp only
    cases e : (b == c || (carriedByValue (.ref b) && carriedByValue (.ref c))) with
    | true => exact wp_if_pos rfl (wpAny_pure ⟨rfl, rfl, al'⟩)
    | false =>
      refine wp_if_neg Bool.false_ne_true (wpAny_bind (wpAny_eqIsQuiet_tuple z ?_))
      simp only [Bool.not_true, Bool.false_eq_true, if_false]
      refine wpAny_bind (wpAny_eqIsQuiet_tuple hc ?_)
      simp only [Bool.not_true, Bool.false_eq_true, if_false]
      refine wpAny_bind (tup_class z ?_)
      simp only [Bool.false_eq_true, if_false]
      refine wpAny_bind (tup_class hc ?_)
      simp only [Bool.false_eq_true, if_false]
      exact wpAny_pure ⟨rfl, rfl, al'⟩
  · rintro ⟨r1, r2⟩ u ⟨e, rfl, _⟩
    have e : r1 = none := e
    rw [e]
    exact wpAny_pure q
def ents (P : Program) (w : World) (L : List (Addr × Ks)) : List (Int × Value) := L.map fun p => (hs1 P w p.2, Value.ref p.1)
theorem ents_len {L : List (Addr × Ks)} {es : Array (Int × Value)} (e : es.toList = ents P w L) : es.size = L.length := by
  rw [← Array.length_toList, e]
  exact List.length_map _
theorem ents_at {L : List (Addr × Ks)} {es : Array (Int × Value)} (e : es.toList = ents P w L) {i : Nat} {p : Addr × Ks} (hp : L[i]? = some p) : es[i]? = some (hs1 P w p.2, Value.ref p.1) := by
  rw [← Array.getElem?_toList, e]
  unfold ents
  rw [List.getElem?_map, hp]
  rfl
/-- the set's table, and the tuples in it -/
structure Tab (P : Program) (w : World) (h : Heap) (a : Addr) (L : List (Addr × Ks)) (es : Array (Int × Value)) (ep : Nat) (t : SetTable) : Prop where
  ob : ∃ o, h.get? a = some o ∧ o.ExactSet ∧ o.data = .set es ep t
  en : es.toList = ents P w L
  tb : Tb5.Tk5 t (L.map fun p => hs1 P w p.2)
  nd : (L.map (·.2)).Nodup
  tk : ∀ p ∈ L, TK P w h p.2 p.1
  ld : w.params.followText "set-order" = true ∨ t.led = true
  rm : L.length * 5 < t.mask * 3
  fw : L.length < 300
variable {a : Addr} {L : List (Addr × Ks)} {es : Array (Int × Value)} {ep : Nat} {t : SetTable}
theorem Tab.fits (R : Tab P w s.heap a L es ep t) : t.fits es.size = true := by
  have z1 := R.tb.sz
  rw [List.length_map] at z1
  have z2 := ents_len R.en
  have z3 := R.rm
  unfold SetTable.fits SetTable.fill
  rw [R.tb.dm, Bool.and_eq_true, beq_iff_eq, decide_eq_true_eq]
  constructor
  · omega
  · show t.place.size + 0 ≤ t.mask
    omega
/-- where a search begins -/
abbrev st0 (P : Program) (w : World) (t : SetTable) (k : Ks) : SetTable.Probe := runAt t.mask (SetTable.bits (hs1 P w k) % (t.mask + 1)) (SetTable.bits (hs1 P w k))
theorem nth_dm (m : Nat) : ∀ (n : Nat) (p : SetTable.Probe), p.dummy = none → (nth m p n).dummy = none
  | 0, _, h => h
  | n + 1, p, h => by
    refine nth_dm m n (adv m p) ?_
    unfold adv
    split <;> exact h
/-- a tuple that isn't there: the search ends at an empty place -/
theorem seek (R : Tab P w s.heap a L es ep t) {x : Addr} {k : Ks} (hx : TK P w s.heap k x) (hu : A.units < cLine) (nk : k ∉ L.map (·.2)) {K : Nat} (kf : K < 10 * SetTable.turns t.mask)
    (k1 : way t.mask (hs1 P w k) K ∉ t.place.toList) (k2 : ∀ c, c < K → way t.mask (hs1 P w k) c ∈ t.place.toList) {Q : SetFound → Shared → Prop} (q : Q (.free (way t.mask (hs1 P w k) K) false) s) :
    ∀ (f c : Nat) (stand : Option SetTable.Probe), stand.getD (t.probeStart (hs1 P w k)) = nth t.mask (st0 P w t k) c → c ≤ K → K - c < f → wpAny (model P w) A (setSearchFrom a (.ref x) (hs1 P w k) true f stand) Q E s
  | 0, c, stand, _, _, hf => absurd hf (Nat.not_lt_zero _)
  | f + 1, c, stand, e0, hc, hf => by
    obtain ⟨ob, g1, _, g2⟩ := R.ob
    rw [setSearchFrom_succ]
    refine wpAny_bind (wpAny_setState_of g1 g2 R.fits ?_)
    dsimp only
    refine wp_if_neg (by unfold SetTable.gaveWay; rw [R.tb.mo.odd]; decide) ?_
    try refine wpAny_bind (wpAny_pure ?_)
    have jj : ∀ y, (nth t.mask (nth t.mask (st0 P w t k) c) y).j = way t.mask (hs1 P w k) (c + y) := fun y => congrArg SetTable.Probe.j (nth_add t.mask c (st0 P w t k) y).symm
    have sp := go_spec t R.tb.up R.tb.dm (fun i => (es[i]?.map (·.1)).getD 0) (hs1 P w k) (10 * SetTable.turns t.mask) (K - c) (nth t.mask (st0 P w t k) c) (nth_dm t.mask c _ rfl) (by omega)
      (fun y hy => by rw [jj]; exact k2 (c + y) (by omega)) (by rw [jj, show c + (K - c) = K from by omega]; exact k1)
    rcases sp with ⟨y, i, ly, hi, _, _, hpr⟩ | ⟨_, hpr⟩
    · rw [e0, show t.probe (fun i => (es[i]?.map (·.1)).getD 0) (hs1 P w k) (nth t.mask (st0 P w t k) c) = _ from hpr]
      dsimp only
      have le : t.place.toList.length = L.length := by
        have z1 := R.tb.sz
        rw [List.length_map] at z1
        rw [Array.length_toList]
        exact z1
      have li : i < L.length := by
        have := (List.getElem?_eq_some_iff.mp hi).1
        omega
      have hp := List.getElem?_eq_getElem li
      generalize L[i] = p at hp
      have mp := List.mem_of_getElem? hp
      have ne : ¬ p.2 = k := fun z => nk (List.mem_map.mpr ⟨p, mp, z⟩)
      have en := ents_at R.en hp
      have go : wpAny (model P w) A (searchRest a (.ref x) (hs1 P w k) true f es t (nth t.mask (nth t.mask (st0 P w t k) c) y).j i (nth t.mask (nth t.mask (st0 P w t k) c) (y + 1))) Q E s := by
        unfold searchRest
        rw [en]
        dsimp only
        refine wpAny_bind (wpAny_holding (wpAny_eqBool_tuple hu (R.tk p mp) hx ?_))
        refine wpAny_bind (wpAny_setState_of g1 g2 R.fits ?_)
        dsimp only
        refine wp_if_neg (by simp [ne]) ?_
        try refine wpAny_bind (wpAny_pure ?_)
        rw [sameMem]
        dsimp only
        simp only [if_true, slot_live R.tb.up hi, en]
        refine wpAny_bind (wpAny_isSame_ref_self (wpAny_bind (wpAny_pure ?_)))
        simp only [if_true]
        refine wp_if_neg (by simp [ne]) ?_
        exact seek R hx hu nk kf k1 k2 q f (c + (y + 1)) _ (nth_add t.mask c (st0 P w t k) (y + 1)).symm (by omega) (by omega)
      cases hl : t.led with
      | true =>
        refine wp_if_neg (by simp) ?_
        try refine wpAny_bind (wpAny_pure ?_)
        exact go
      | false =>
        refine wp_if_pos (by simp) ?_
        refine wpAny_bind (tup_seen hx (fun y hy => ?_) ?_)
        · obtain ⟨e, he, rfl⟩ := List.mem_map.mp hy
          have he1 : e ∈ es.toList := by
            have : e ∈ es ∧ e.1 = hs1 P w k := by simpa using he
            simpa using this.1
          rw [R.en] at he1
          obtain ⟨p2, m2, rfl⟩ := List.mem_map.mp he1
          exact ⟨p2.2, p2.1, rfl, R.tk p2 m2⟩
        · refine wp_if_neg (by decide) ?_
          try refine wpAny_bind (wpAny_pure ?_)
          exact go
    · rw [e0, show t.probe (fun i => (es[i]?.map (·.1)).getD 0) (hs1 P w k) (nth t.mask (st0 P w t k) c) = _ from hpr]
      dsimp only
      rw [show (nth t.mask (nth t.mask (st0 P w t k) c) (K - c)).j = way t.mask (hs1 P w k) K by rw [jj, show c + (K - c) = K by omega]]
      exact wpAny_pure q
theorem seek0 (R : Tab P w s.heap a L es ep t) {x : Addr} {k : Ks} (hx : TK P w s.heap k x) (hu : A.units < cLine) (nk : k ∉ L.map (·.2)) {Q : SetFound → Shared → Prop}
    (q : ∀ K, way t.mask (hs1 P w k) K ∉ t.place.toList → (∀ c, c < K → way t.mask (hs1 P w k) c ∈ t.place.toList) → Q (.free (way t.mask (hs1 P w k) K) false) s) : wpAny (model P w) A (setSearch a (.ref x) (hs1 P w k) true) Q E s := by
  have rm := R.rm
  obtain ⟨K, kf, k1, k2⟩ := R.tb.first (by rw [List.length_map]; omega) (hs1 P w k)
  have big : 10 * SetTable.turns t.mask ≤ 5260 := by
    unfold SetTable.turns
    rcases R.tb.mo with (e | e | e) | e <;> omega
  unfold setSearch
  exact seek R hx hu nk kf k1 k2 (q K k1 k2) 100000 0 none rfl (Nat.zero_le _) (by omega)
theorem tk_same {h h' : Heap} {k : Ks} {b : Addr} {o : Obj} (z : TK P w h k b) (g1 : h.get? a = some o) (g2 : o.data = .set es ep t) (sb : Heap.SameBut a h h') : TK P w h' k b := by
  obtain ⟨o', its, nn, h1, h2, h3, h4⟩ := z
  refine ⟨o', its, nn, (sb.2 b fun e => ?_).trans h1, h2, h3, h4⟩
  rw [e, g1] at h1
  cases h1
  rw [g2] at h3
  cases h3
theorem tk_keep {h h' : Heap} {k : Ks} {b : Addr} (z : TK P w h k b) (kp : ∀ c o, h.get? c = some o → h'.get? c = some o) : TK P w h' k b := by
  obtain ⟨o, its, nn, h1, h2⟩ := z
  exact ⟨o, its, nn, kp b o h1, h2⟩
theorem at_eq {L : List (Addr × Ks)} {es : Array (Int × Value)} (e : es.toList = ents P w L) (i : Nat) : es[i]? = (L[i]?).map fun p => (hs1 P w p.2, Value.ref p.1) := by
  rw [← Array.getElem?_toList, e]
  unfold ents
  rw [List.getElem?_map]
theorem hash_eq {L : List (Addr × Ks)} {es : Array (Int × Value)} (e : es.toList = ents P w L) : ∀ l : List Nat, (∀ i ∈ l, i < L.length) → ((l.filterMap (L[·]?)).map fun p => hs1 P w p.2) = l.map fun i => (es.map (·.1)).getD i 0
  | [], _ => rfl
  | i :: l, h => by
    have li := h i List.mem_cons_self
    have ih := hash_eq e l fun j hj => h j (List.mem_cons_of_mem _ hj)
    have z : (es.map (·.1))[i]? = some (hs1 P w (L[i]).2) := by
      rw [Array.getElem?_map, at_eq e, List.getElem?_eq_getElem li]
      rfl
    rw [List.filterMap_cons_some (List.getElem?_eq_getElem li), List.map_cons, List.map_cons, ih]
    congr 1
    rw [Array.getD_eq_getD_getElem?, z]
    rfl
theorem reorder {L : List (Addr × Ks)} {es : Array (Int × Value)} {od : Array Nat} (e : es.toList = ents P w L) (pm : od.toList.Perm (List.range L.length)) :
    (od.filterMap (es[·]?)).toList = ents P w (od.toList.filterMap (L[·]?)) ∧ (od.toList.filterMap (L[·]?)).Perm L ∧ ((od.toList.filterMap (L[·]?)).map fun p => hs1 P w p.2) = od.toList.map fun i => (es.map (·.1)).getD i 0 := by
  refine ⟨?_, ?_, hash_eq e _ fun i hi => List.mem_range.mp (pm.mem_iff.mp hi)⟩
  · unfold ents
    rw [Array.toList_filterMap, List.map_filterMap]
    congr 1
    funext i
    exact at_eq e i
  · have z := pm.filterMap (L[·]?)
    have y := PySem.W.krv_all L.toArray
    rw [List.size_toArray] at y
    have y : (List.range L.length).filterMap (L[·]?) = L := by simpa using y
    rw [y] at z
    exact z
/-- the table laid anew -/
theorem relay {o : Obj} (g1 : s.heap.get? a = some o) (gx : o.ExactSet) (g2 : o.data = .set es ep t) (e0 : es.toList = ents P w L) (sz : t.place.size = es.size) (dm : t.dummies = #[]) (fl : es.size ≤ t.mask)
    (nd : (L.map (·.2)).Nodup) (tk : ∀ p ∈ L, TK P w s.heap p.2 p.1) (ld : w.params.followText "set-order" = true ∨ t.led = true) (fw : L.length < 300) {wanted M : Nat}
    (hw : SetTable.sizeAbove wanted - 1 = M) (hM : Tb5.Msk M) (h128 : SetTable.sizeAbove wanted ≤ 512) (hn : L.length * 5 < M * 3) {Q : Unit → Shared → Prop}
    (q : ∀ h' L' es' ep' t', Heap.SameBut a s.heap h' → Tab P w h' a L' es' ep' t' → L'.Perm L → Q () { s with heap := h' }) : wpAny (model P w) A (setRelay a wanted) Q E s := by
  have sl := ents_len e0
  have fits : t.fits es.size = true := by
    unfold SetTable.fits SetTable.fill
    rw [dm, Bool.and_eq_true, beq_iff_eq, decide_eq_true_eq]
    constructor
    · exact sz
    · show t.place.size + 0 ≤ t.mask
      omega
  obtain ⟨t', od, e1, pm, T, em, el, _, _⟩ := Tb5.anew t (hs := es.map (·.1)) (wanted := wanted) hw hM (by rw [Array.size_map]; omega)
  rw [Array.size_map, sl] at pm
  obtain ⟨r1, r2, r3⟩ := reorder e0 pm
  generalize od.toList.filterMap (L[·]?) = L2 at r1 r2 r3
  rw [← r3] at T
  have s2 := ents_len r1
  rw [r2.length_eq] at s2
  rw [setRelay_eq]
  refine wpAny_bind (wpAny_setState_of g1 g2 fits ?_)
  dsimp only
  refine wp_if_neg (by rw [sizeLine_eq]; omega) ?_
  try refine wpAny_bind (wpAny_pure ?_)
  rw [e1]
  dsimp only
  refine wpAny_bind ?_
  refine wp_if_neg (by rw [s2, sl]; simp) ?_
  try refine wpAny_bind (wpAny_pure ?_)
  refine wpAny_pure ?_
  dsimp only
  refine wpAny_storeSet_of g1 g2 ?_ (by rw [s2, sizeLine_eq]; omega)
  have sb : Heap.SameBut a s.heap (s.heap.update a (Obj.putSet (od.filterMap (es[·]?)) t')) := Heap.SameBut.update ..
  exact q _ L2 _ (ep + 1) t' sb ⟨⟨_, store_at g1 g2, ⟨gx.1, gx.2.1, gx.2.2⟩, rfl⟩, r1, T, (r2.map (·.2)).nodup_iff.mpr nd, fun p hp => tk_same (tk p (r2.mem_iff.mp hp)) g1 g2 sb, by rw [el]; exact ld, by rw [r2.length_eq, em]; exact hn, by rw [r2.length_eq]; exact fw⟩ r2
/-- one more, unlike all -/
theorem add (R : Tab P w s.heap a L es ep t) {x : Addr} {k : Ks} (hx : TK P w s.heap k x) (hu : A.units < cLine) (nk : k ∉ L.map (·.2)) (fw : L.length + 1 < 300) {Q : Bool → Shared → Prop}
    (q : ∀ y h' L' es' ep' t', Heap.SameBut a s.heap h' → Tab P w h' a L' es' ep' t' → L'.Perm ((x, k) :: L) → Q y { s with heap := h' }) : wpAny (model P w) A (setAddHashed a (.ref x) (hs1 P w k)) Q E s := by
  obtain ⟨o, g1, gx, g2⟩ := R.ob
  have sl := ents_len R.en
  have rm := R.rm
  unfold setAddHashed
  refine wpAny_holding ?_
  rw [show (100000 : Nat) = 99999 + 1 from rfl, setAddHashedIn_succ]
  refine wpAny_bind (wpAny_setState_of g1 g2 R.fits ?_)
  dsimp only
  refine wp_if_neg (by simp [byScan, Value.scannable]) ?_
  try refine wpAny_bind (wpAny_pure ?_)
  refine wpAny_bind (seek0 R hx hu nk fun K k1 k2 => ?_)
  dsimp only
  refine wpAny_bind (wpAny_setState_of g1 g2 R.fits ?_)
  dsimp only
  obtain ⟨p1, p2, p3, p4, p5, p6, p7, p8, p9⟩ := R.tb.put k1 k2
  generalize t.put (way t.mask (hs1 P w k) K) = pt at p1 p3 p4 p5 p6 p7 p8 p9 ⊢
  obtain ⟨t1, at1⟩ := pt
  dsimp only at p1 p3 p4 p5 p6 p7 p8 p9 ⊢
  subst p1
  have hin : (SetTable.insertAt es (SetTable.below t.place (way t.mask (hs1 P w k) K)) (hs1 P w k, Value.ref x)).toList = ents P w (L.take (SetTable.below t.place (way t.mask (hs1 P w k) K)) ++ (x, k) :: L.drop (SetTable.below t.place (way t.mask (hs1 P w k) K))) := by
    rw [SetTable.toList_insertAt, R.en]
    unfold ents
    rw [List.map_append, List.map_cons, List.map_take, List.map_drop]
  generalize SetTable.below t.place (way t.mask (hs1 P w k) K) = n at p2 p3 hin ⊢
  have pm := put_perm L n (x, k)
  have len1 : (L.take n ++ (x, k) :: L.drop n).length = L.length + 1 := pm.length_eq
  have hh : (L.take n ++ (x, k) :: L.drop n).map (fun p => hs1 P w p.2) = (L.map fun p => hs1 P w p.2).take n ++ hs1 P w k :: (L.map fun p => hs1 P w p.2).drop n := by
    rw [List.map_append, List.map_cons, List.map_take, List.map_drop]
  rw [← hh] at p3
  have nd1 : ((L.take n ++ (x, k) :: L.drop n).map (·.2)).Nodup := (pm.map (·.2)).nodup_iff.mpr (List.nodup_cons.mpr ⟨nk, R.nd⟩)
  have sz1 := ents_len hin
  rw [len1] at sz1
  generalize SetTable.insertAt es n (hs1 P w k, Value.ref x) = es1 at hin sz1 ⊢
  generalize L.take n ++ (x, k) :: L.drop n = L1 at pm len1 p3 nd1 hin
  have rest : ∀ y : Bool, wpAny (model P w) A (do
      storeSet a es1 { t1 with plain := y }
      if (!false && SetTable.tooFull { t1 with plain := y }) = true then do
        setRelay a (SetTable.grown (es.size + 1))
        pure true
      else pure true) Q E s := fun y => by
    have tb2 : Tb5.Tk5 { t1 with plain := y } (L1.map fun p => hs1 P w p.2) := ⟨p3.1, p3.2, p3.3, p3.4, p3.5, p3.6⟩
    have f9 : SetTable.fill { t1 with plain := y } = _ := p9
    have m4 : ({ t1 with plain := y } : SetTable).mask = t.mask := p4
    have l5 : ({ t1 with plain := y } : SetTable).led = t.led := p5
    generalize ({ t1 with plain := y } : SetTable) = t2 at tb2 f9 m4 l5 ⊢
    refine wpAny_bind (wpAny_storeSet_of g1 g2 ?_ (by rw [sz1, sizeLine_eq]; omega))
    have sb : Heap.SameBut a s.heap (s.heap.update a (Obj.putSet es1 t2)) := Heap.SameBut.update ..
    have g3 := store_at (es' := es1) (t' := t2) g1 g2
    generalize s.heap.update a (Obj.putSet es1 t2) = h1 at sb g3 ⊢
    have tk1 : ∀ p ∈ L1, TK P w h1 p.2 p.1 := fun p hp => by
      rcases List.mem_cons.mp (pm.mem_iff.mp hp) with e | m
      · rw [e]
        exact tk_same hx g1 g2 sb
      · exact tk_same (R.tk p m) g1 g2 sb
    have ld1 : w.params.followText "set-order" = true ∨ t2.led = true := by rw [l5]; exact R.ld
    have tf : t2.tooFull = decide (t2.mask * 3 ≤ (L.length + 1) * 5) := by
      unfold SetTable.tooFull
      rw [f9, List.length_map]
    cases full : t2.tooFull with
    | true =>
      refine wp_if_pos rfl ?_
      rw [tf] at full
      have full := of_decide_eq_true full
      rw [m4] at full
      rw [sl]
      have cs : (t.mask = 7 ∧ L.length = 4) ∨ (t.mask = 31 ∧ L.length = 18) ∨ (t.mask = 127 ∧ L.length = 76) := by
        rcases R.tb.mo with (e | e | e) | e
        · exact .inl ⟨e, by omega⟩
        · exact .inr (.inl ⟨e, by omega⟩)
        · exact .inr (.inr ⟨e, by omega⟩)
        · omega
      have z1 := tb2.sz
      rw [List.length_map, len1] at z1
      have go : ∀ M, SetTable.sizeAbove (SetTable.grown (L.length + 1)) - 1 = M → Tb5.Msk M → SetTable.sizeAbove (SetTable.grown (L.length + 1)) ≤ 512 → (L.length + 1) * 5 < M * 3 →
          wpAny (model P w) A (setRelay a (SetTable.grown (L.length + 1)) >>= fun _ => pure true) Q E { s with heap := h1 } := fun M m1 m2 m3 m5 => by
        refine wpAny_bind (relay (s := { s with heap := h1 }) g3 ⟨gx.1, gx.2.1, gx.2.2⟩ rfl hin (by omega) tb2.dm (by rw [m4]; rcases cs with ⟨_, _⟩ | ⟨_, _⟩ | ⟨_, _⟩ <;> omega) nd1 tk1 ld1 (by omega) m1 m2 m3 (by omega) fun h2 L2 es2 ep2 t3 sb2 R2 pm2 => ?_)
        exact wpAny_pure (q true h2 L2 es2 ep2 t3 (sb.trans sb2) R2 (pm2.trans pm))
      rcases cs with ⟨_, e⟩ | ⟨_, e⟩ | ⟨_, e⟩
      · exact go 31 (by rw [e, size_20]) (.inl (.inr (.inl rfl))) (by rw [e, size_20]; decide) (by omega)
      · exact go 127 (by rw [e, size_76]) (.inl (.inr (.inr rfl))) (by rw [e, size_76]; decide) (by omega)
      · exact go 511 (by rw [e, Tb5.size308]) (.inr rfl) (by rw [e, Tb5.size308]; decide) (by omega)
    | false =>
      refine wp_if_neg (by decide) ?_
      rw [tf] at full
      have full := of_decide_eq_false full
      exact wpAny_pure (q true h1 L1 es1 (ep + 1) t2 sb ⟨⟨_, g3, ⟨gx.1, gx.2.1, gx.2.2⟩, rfl⟩, hin, tb2, nd1, tk1, ld1, by omega, by omega⟩ pm)
  cases pl : t1.plain with
  | true =>
    first
      | (refine wpAny_bind ?_; refine wp_if_pos rfl ?_; refine tup_hash hx fun y => ?_)
      | refine wp_if_pos rfl (wpAny_bind (tup_hash hx fun y => ?_))
    cases y with
    | true => exact rest t1.plain
    | false => exact rest false
  | false =>
    first
      | (refine wpAny_bind ?_; refine wp_if_neg Bool.false_ne_true ?_; refine wpAny_pure ?_)
      | refine wp_if_neg Bool.false_ne_true (wpAny_bind (wpAny_pure ?_))
      | refine wp_if_neg Bool.false_ne_true ?_
    exact rest t1.plain
theorem Tab.keep {h h' : Heap} (R : Tab P w h a L es ep t) (ka : ∀ o, h.get? a = some o → h'.get? a = some o) (tk : ∀ p ∈ L, TK P w h' p.2 p.1) : Tab P w h' a L es ep t := by
  obtain ⟨o, g1, gx⟩ := R.ob
  exact ⟨⟨o, ka o g1, gx⟩, R.en, R.tb, R.nd, tk, R.ld, R.rm, R.fw⟩
theorem tab_new {h : Heap} {a : Addr} (g : h.get? a = some { cls := .type "set", dict := none, data := .set #[] 0 (.fresh 0 0 (!w.params.followText "set-order")) }) : Tab P w h a [] #[] 0 (.fresh 0 0 (!w.params.followText "set-order")) := by
  refine ⟨⟨_, g, ⟨rfl, rfl, rfl⟩, rfl⟩, rfl, ⟨.nil, rfl, rfl, .inl (.inl rfl), fun x hx => (nomatch hx), fun i y j e => by simp at e⟩, List.nodup_nil, fun p hp => (nomatch hp), ?_, by show 0 * 5 < 7 * 3; decide, by show 0 < 300; decide⟩
  show _ ∨ (!w.params.followText "set-order") = true
  cases w.params.followText "set-order" with
  | true => exact .inl rfl
  | false => exact .inr rfl
/-- all items of a walk are put into the set -/
theorem put_all {I : Addr} {fp wr : List Addr} {G : Array GenState → Array GenState → Prop} {n : Nat} {Pv : Nat → Value → Prop} {St : Nat → Shared → Prop} {R : Result → Shared → Prop}
    (W : WalksS P w A.in1 I fp wr G n Pv St) (S : Addr) (nS : S ∉ fp) (ks : List (Addr × Ks)) (en : n = ks.length) (fw : ks.length < 300) (nd : (ks.map (·.2)).Nodup) (val : ∀ i v, Pv i v → ∃ p, ks[i]? = some p ∧ v = .ref p.1)
    (h0 : Heap) (tk : ∀ p ∈ ks, TK P w h0 p.2 p.1) (h0S : h0.get? S = none) (h0w : ∀ b ∈ wr, h0.get? b = none) (hu : A.in1.units < cLine) :
    ∀ (m i : Nat) (s : Shared), n - i = m → i ≤ n → St i s → (∀ b o, h0.get? b = some o → s.heap.get? b = some o) → (∃ L es ep t, Tab P w s.heap S L es ep t ∧ L.Perm (ks.take i)) →
      (∀ s' L es ep t, Moved (S :: wr) G s s' → Tab P w s'.heap S L es ep t → L.Perm ks → (∀ b o, h0.get? b = some o → s'.heap.get? b = some o) → R (.ok (.ret .none)) s') →
      codeAny (model P w) A (.builtin "set.update.loop" ⟨[.ref S, .ref I], []⟩) R s := by
  have nSw : S ∉ wr := fun z => nS (W.sub _ z)
  have up : ∀ {s s' : Shared}, Moved wr G s s' → (∀ b o, h0.get? b = some o → s.heap.get? b = some o) → ∀ b o, h0.get? b = some o → s'.heap.get? b = some o := fun mv kp b o e =>
    mv.heap b o (fun z => by rw [h0w b z] at e; cases e) (kp b o e)
  intro m
  induction m with
  | zero =>
    intro i s e0 le st kp ⟨L, es, ep, t, T, pm⟩ q
    obtain rfl : i = n := by omega
    refine codeAny_builtin F.entry_set_update_loop ?_
    rw [Around.under_plainId F.plain_set_update_loop (⟨[Value.ref S, Value.ref I], []⟩ : Args)]
    show wpAny _ A.in1 (pyNext (.ref I) >>= _) _ _ s
    refine wpAny_bind (W.done s _ _ st fun s' mv => ?_)
    show wpAny _ A.in1 (ret Value.none) _ _ s'
    rw [en, List.take_length] at pm
    have kp' := up mv kp
    exact wpAny_pure (q s' L es ep t (mv.mono fun b hb => List.mem_cons_of_mem _ hb) (T.keep (fun o e => mv.heap S o nSw e) fun p hp => tk_keep (tk p (pm.mem_iff.mp hp)) kp') pm kp')
  | succ m ih =>
    intro i s e0 le st kp ⟨L, es, ep, t, T, pm⟩ q
    have lt : i < n := by omega
    refine codeAny_builtin F.entry_set_update_loop ?_
    rw [Around.under_plainId F.plain_set_update_loop (⟨[Value.ref S, Value.ref I], []⟩ : Args)]
    show wpAny _ A.in1 (pyNext (.ref I) >>= _) _ _ s
    refine wpAny_bind (W.item i s _ _ lt st fun v s' pv st' mv => ?_)
    obtain ⟨p, hp, rfl⟩ := val i v pv
    have kp' := up mv kp
    have T' : Tab P w s'.heap S L es ep t := T.keep (fun o e => mv.heap S o nSw e) fun y hy => tk_keep (tk y (List.mem_of_mem_take (pm.mem_iff.mp hy))) kp'
    have hx : TK P w s'.heap p.2 p.1 := tk_keep (tk p (List.mem_of_getElem? hp)) kp'
    have tn : ks.take (i + 1) = ks.take i ++ [p] := by
      rw [List.take_succ, hp]
      rfl
    have nk : p.2 ∉ L.map (·.2) := fun z => by
      have z2 := (pm.map (·.2)).mem_iff.mp z
      have nd2 := nd.sublist ((List.take_sublist (i + 1) ks).map (·.2))
      rw [tn, List.map_append, List.nodup_append] at nd2
      exact nd2.2.2 _ z2 _ (List.mem_singleton.mpr rfl) rfl
    have ll : L.length = i := by
      rw [pm.length_eq, List.length_take]
      omega
    show wpAny _ A.in1 (holding [Value.ref p.1] (setAdd S (.ref p.1)) >>= _) _ _ s'
    refine wpAny_bind (wpAny_holding ?_)
    unfold setAdd
    refine wpAny_holding (wpAny_bind (wpAny_pyHash_tuple hu hx ?_))
    refine add (s := { s' with toks := s'.toks + (p.2.length + 1) }) T' hx hu nk (by omega) fun y h' L' es' ep' t' sb T2 pm2 => ?_
    have kp2 : ∀ b o, h0.get? b = some o → h'.get? b = some o := fun b o e => (sb.2 b (fun z => by rw [z, h0S] at e; cases e)).trans (kp' b o e)
    refine wpAny_pure ⟨plainId_quiet F.plain_set_update_loop _, ih (i + 1) _ (by omega) lt (W.frame _ s' _ _ st' (Nat.le_add_right _ _) fun b hb o e => ?_) kp2 ⟨L', es', ep', t', T2, ?_⟩ fun s'' L2 es2 ep2 t2 mv2 T3 pm3 kp3 => ?_⟩
    · rw [sb.2 b fun z : b = S => nS (by rw [← z]; exact hb)]
      exact e
    · rw [tn]
      exact pm2.trans ((pm.cons _).trans (List.perm_append_singleton p (ks.take i)).symm)
    · refine q s'' L2 es2 ep2 t2 (Moved.trans W.gtrans ((mv.mono fun b hb => List.mem_cons_of_mem _ hb).then_heap (Nat.le_add_right _ _) fun b o hb e => ?_) mv2) T3 pm3 kp3
      rw [sb.2 b fun z : b = S => hb (by rw [z]; exact List.mem_cons_self)]
      exact e
abbrev ob0 (w : World) : Obj := { cls := .type "set", dict := none, data := .set #[] 0 (.fresh 0 0 (!w.params.followText "set-order")) }
set_option maxHeartbeats 3200000 in
/-- set(xs), xs a list of unlike tuples -/
theorem set_of {l : Addr} {items : Array Value} (ks : List (Addr × Ks)) {Q : Value → Shared → Prop} (hh : A.handled = none) (hl : s.heap.IsList l items) (hit : items.toList = ks.map fun p => Value.ref p.1)
    (tk : ∀ p ∈ ks, TK P w s.heap p.2 p.1) (fw : ks.length < 300) (nd : (ks.map (·.2)).Nodup) (hu : A.units + 3 < cLine)
    (q : ∀ (h' : Heap) (u : Nat) L es ep t, Tab P w h' s.heap.objs.size L es ep t → L.Perm ks → (∀ b o, s.heap.get? b = some o → h'.get? b = some o) → Q (.ref s.heap.objs.size) { s with heap := h', toks := u }) :
    wpAny (model P w) A (call (.type "set") [.ref l]) Q E s := by
  have en : items.size = ks.length := by
    rw [← Array.length_toList, hit]
    exact List.length_map _
  obtain ⟨mc, ml, mro⟩ := F.called_set.mro
  have made := F.called_set.made
  have sub := F.called_set.sub
  refine wpAny_call (codeAny_of_tree ?_)
  show wpAny _ _ (callAny (.type "set") _) _ _ _
  refine wpAny_pure ⟨Code.quiet_builtin _ (by decide +kernel), codeAny_builtin F.entry_type_call ?_⟩
  rw [Around.under_plain (weight_type_call_type "set" [.ref l] []) rfl]
  have nt := F.called_set.notType
  have cc := F.called_set.canCreate
  have ct := F.typeCall_set_1 (.ref l)
  repeat (any_goals (first | (with_reducible assumption) | assumption | wp_step))
  have g0 : (s.heap.push (ob0 w)).get? s.heap.objs.size = some (ob0 w) := Heap.get?_push_size _ rfl
  refine codeAny_mono (code_set_led1 (.ref l) (E := E) (Q₁ := fun v s1 => v = .ref s.heap.objs.size ∧ s1 = { s with heap := s.heap.push (ob0 w) }) ⟨rfl, rfl⟩) fun r s1 hr => ?_
  match r, hr with
  | .error e, hr => exact hr
  | .ok (.ret v), hr =>
    obtain ⟨rfl, rfl⟩ := hr
    have ty : Shared.TypeIs { s with heap := s.heap.push (ob0 w) } (.ref s.heap.objs.size) "set" := ⟨_, g0, rfl⟩
    have li := F.called_set.init.lookup
    have bi := F.called_set.init.bind (.ref s.heap.objs.size)
    repeat (any_goals (first | (with_reducible assumption) | assumption | wp_step))
    refine codeAny_mono (codeAny_call_builtin (R := wants (fun r s2 => r = .none ∧ ∃ h' u L es ep t, s2 = { s with heap := h', toks := u } ∧ Tab P w h' s.heap.objs.size L es ep t ∧ L.Perm ks ∧ (∀ b o, s.heap.get? b = some o → h'.get? b = some o)) E) F.called_set.init.plain F.entry_set_init (check_set_init_1 ty ?_)) fun r2 s2 hr2 => ?_
    · obtain ⟨ol, hol, hcl, nl, hdl⟩ := hl
      obtain ⟨c0, d0, x0, sl0⟩ := ol
      simp only at hcl hdl
      subst hcl hdl
      have sl1 := F.sub_list_set
      have sl2 := F.sub_list_frozenset
      have ne0 : (Value.type "list" == Value.type "dict") = false := by decide
      have hl1 : (s.heap.push (ob0 w)).IsList l items := ⟨_, Heap.get?_push_of_some _ hol, rfl, nl, rfl⟩
      have hol' : (s.heap.push (ob0 w)).get? l = some { cls := .type "list", dict := d0, data := .seq items nl, slots := sl0 } := Heap.get?_push_of_some _ hol
      unfold Builtin.«set.__init__» noKeywords Builtin.Frozenset.updateFrom
      generalize hPI : pyIter = PI
      wp_walk
      subst hPI
      refine wpAny_pyIter_list hl1 (wpAny_bind (wpAny_runValue ?_))
      have lS : l < s.heap.objs.size := Heap.lt_size hol
      have z1 : (s.heap.push (ob0 w)).objs.size = s.heap.objs.size + 1 := Heap.size_push ..
      have nf : ∀ b, s.heap.objs.size ≤ b → s.heap.get? b = none := fun b hb => by
        cases y : s.heap.get? b with
        | none => rfl
        | some o => exact absurd (Nat.lt_of_lt_of_le (Heap.lt_size y) hb) (Nat.lt_irrefl _)
      have lI : l ≠ (s.heap.push (ob0 w)).objs.size := Nat.ne_of_lt (by rw [z1]; exact Nat.lt_succ_of_lt lS)
      have hh3 : A.in1.in1.in1.handled = none := by simp [hh]
      refine put_all ((Walks.list hh3 _ l lI items).toS) s.heap.objs.size (fun z => by
        simp only [List.mem_cons, List.not_mem_nil, or_false] at z
        rcases z with z | z
        · exact absurd z (Nat.ne_of_lt (by rw [z1]; exact Nat.lt_succ_self _))
        · exact absurd z (Nat.ne_of_gt lS)) ks en fw nd (fun i v hv => ?_) s.heap tk (nf _ (Nat.le_refl _)) (fun b hb => nf b (by rw [List.mem_singleton.mp hb, z1]; exact Nat.le_succ _)) hu (items.size - 0) 0 _ (by omega) (Nat.zero_le _)
        ⟨⟨_, Heap.get?_push_size _ rfl, rfl, rfl⟩, (hl1.push _)⟩ (fun b o e => Heap.get?_push_of_some _ (Heap.get?_push_of_some _ e)) ⟨[], #[], 0, _, tab_new (Heap.get?_push_of_some _ g0), by rw [List.take_zero]⟩ fun s' L es ep t mv T pm kp => ?_
      · have y : items.toList[i]? = some v := by rw [Array.getElem?_toList]; exact hv
        rw [hit, List.getElem?_map] at y
        obtain ⟨p, h1, h2⟩ := Option.map_eq_some_iff.mp y
        exact ⟨p, h1, h2.symm⟩
      · obtain ⟨h', g2, d', u', os'⟩ := s'
        obtain rfl : g2 = s.gens := mv.gens
        obtain rfl : d' = s.drawn := mv.drawn
        obtain rfl : os' = s.os := mv.os
        refine wpAny_pure ?_
        show wpAny _ _ (ret Value.none) _ _ _
        exact wpAny_pure ⟨rfl, h', u', L, es, ep, t, rfl, T, pm, kp⟩
    · match r2, hr2 with
      | .error e, hr2 => exact hr2
      | .ok (.ret v), hr2 =>
        obtain ⟨rfl, h', u, L, es, ep, t, rfl, T, pm, kp⟩ := hr2
        repeat (any_goals (first | (with_reducible assumption) | assumption | wp_step))
        exact q _ _ _ _ _ _ T pm kp
      | .ok .next, hr2 => exact hr2.elim
      | .ok .brk, hr2 => exact hr2.elim
      | .ok .cont, hr2 => exact hr2.elim
  | .ok .next, hr => exact hr.elim
  | .ok .brk, hr => exact hr.elim
  | .ok .cont, hr => exact hr.elim
end
/-- a set of so many things, no more said of it -/
structure St0 (h : Heap) (a : Addr) (n : Nat) : Prop where
  ex : ∃ (es : Array (Int × Value)) (ep : Nat) (t : SetTable), (∃ o, h.get? a = some o ∧ o.ExactSet ∧ o.data = .set es ep t) ∧ es.size = n ∧ t.fits es.size = true ∧ n < 300
def SetN (a : Addr) (n : Nat) : HO := .ext fun h => St0 h a n
theorem setN_ok {P : Program} {w : World} {H : Hp} {h : Heap} {a : Addr} {n : Nat} (z : St0 h a n) : ObjOk P w H h a (SetN a n) := by
  obtain ⟨es, ep, t, ⟨o, g, r⟩, q⟩ := id z.ex
  refine ⟨z, ⟨o, g⟩, fun h1 h2 p k => ?_⟩
  obtain ⟨es', ep', t', ⟨o', g', r'⟩, q'⟩ := St0.ex p
  exact ⟨es', ep', t', ⟨o', k o' g', r'⟩, q'⟩
theorem keys_are {P : Program} {w : World} : ∀ {k : Ks} {us : List Value}, Vals (k.map kV) us → ItemsAre (mixKind P w) k us
  | [], _, .nil => .nil
  | .inl i :: k, _, .cons r z => by
    obtain ⟨t, rfl⟩ := r
    exact .cons (mixKind_int P w i t) (keys_are z)
  | .inr x :: k, _, .cons r z => by
    obtain ⟨t, rfl⟩ := r
    exact .cons (mixKind_str P w x t) (keys_are z)
theorem refs_are : ∀ {ks : List (Addr × Ks)} {us : List Value}, Vals (ks.map fun p => V.ref p.1) us → us = ks.map fun p => Value.ref p.1
  | [], _, .nil => rfl
  | _ :: ks, _, .cons r z => by
    cases r
    rw [refs_are z]
    rfl
section
variable {X : Cx}
/-- set(xs) -/
theorem cr_setK (hc : X.calm = true) (hu : X.A.units + 64 < cLine) : CallR X (.type "set") (fun xs H Q => ∃ (l : Addr) (ks : List (Addr × Ks)), xs = [V.ref l] ∧ SqL X.K H l (ks.map fun p => V.ref p.1) ∧ (∀ p ∈ ks, SqT X.K H p.1 (p.2.map kV)) ∧ ks.length < 300 ∧ (ks.map (·.2)).Nodup ∧
    ∀ a H', H a = none → Same H H' → H' a = some (SetN a ks.length) → Q (.ref a) H') := by
  intro pins s σ H xs us Q I r h
  obtain ⟨l, ks, rfl, hl, hk, fw, nd, q⟩ := h
  rw [Vals.ref1 r]
  obtain ⟨its, rv, pl, _⟩ := I.list hl
  have hn : H s.heap.objs.size = none := I.hok.fresh (Nat.le_refl _)
  refine set_of (P := X.prog) (w := X.w) ks (I.ok.hd hc) pl.isList (by simpa using refs_are rv) (fun p hp => ?_) fw nd (by omega) fun h' u L es ep t R pm kp => ?_
  · obtain ⟨its, r, ⟨o, ho, hc, n, hd⟩, _⟩ := I.tuple (hk p hp)
    exact ⟨o, its.toArray, n, ho, hc, hd, by simpa using keys_are r⟩
  · have ll := pm.length_eq
    have z : St0 h' s.heap.objs.size ks.length := ⟨es, ep, t, R.ob, (ents_len R.en).trans ll, Tab.fits (s := { s with heap := h' }) R, fw⟩
    exact ⟨.ref s.heap.objs.size, upd H s.heap.objs.size (SetN s.heap.objs.size ks.length), I.laid (t' := u) kp (Nat.le_refl _) (setN_ok z), rfl, q _ _ hn (Nw.same_new hn) upd_same⟩
/-- how many it has -/
theorem cr_lenSN : CallR X (.builtin "len") (fun xs H Q => ∃ (a : Addr) (n : Nat), xs = [V.ref a] ∧ H a = some (SetN a n) ∧ Q (.int (n : Nat)) H) := by
  intro pins s σ H xs us Q I r h
  obtain ⟨a, n, rfl, ha, q⟩ := h
  have z : St0 s.heap a n := (I.hok a _ ha).1
  rw [Vals.ref1 r]
  obtain ⟨es, ep, t, ⟨o, g, gx, gd⟩, e, ft, fw⟩ := z.ex
  exact call_len_set g gx gd ft (by omega) ⟨.int (n : Nat), H, I.tok _, ⟨_, by rw [e]⟩, q⟩
end
end Tsb
namespace St
open PySem PySem.Spec PyProof.Rows L2 Nw
/-! ### set(xs) of a list of whole numbers, and sorted of it -/
/-- a set as it begins -/
abbrev bare (w : World) : Obj := { cls := .type "set", dict := none, data := .set #[] 0 (.fresh 0 0 (!w.params.followText "set-order")) }
section
variable {P : Program} {w : World} {A : Around} {E : Value → Shared → Prop} {s : Shared}
set_option maxRecDepth 100000 in
set_option maxHeartbeats 3200000 in
theorem set_of_list {l : Addr} {xs : Array Value} (ks : List Int) {Q : Value → Shared → Prop} (hA : A.handled = none) (hx : s.heap.IsList l xs) (hk : IntsAre xs.toList ks) (few : ks.length + 1 < scanBound)
    (want : ∀ (h' : Heap) (tk c : Nat), SetR w h' s.heap.objs.size (fun j => decide (j ∈ ks)) c → c ≤ ks.length → (∀ b o, s.heap.get? b = some o → h'.get? b = some o) → Q (.ref s.heap.objs.size) { s with heap := h', toks := tk }) :
    wpAny (model P w) A (call (.type "set") [.ref l]) Q E s := by
  have sz : xs.size = ks.length := by rw [← Array.length_toList]; exact IntsAre.length hk
  obtain ⟨c, tl, hmro⟩ := F.called_set.mro
  have m1 := F.called_set.made
  have m2 := F.called_set.sub
  have m3 := F.called_set.notType
  have m4 := F.called_set.canCreate
  have m5 := F.typeCall_set_1 (.ref l)
  refine wpAny_call (codeAny_of_tree (wpAny_pure ⟨Code.quiet_builtin _ (by decide +kernel), codeAny_builtin F.entry_type_call ?_⟩))
  rw [Around.under_plain (weight_type_call_type "set" [.ref l] []) rfl]
  repeat (any_goals (first | assumption | wp_step))
  refine codeAny_mono (code_set_led1 (.ref l) (E := E) (Q₁ := fun o s1 => o = .ref s.heap.objs.size ∧ s1 = { s with heap := s.heap.push (bare w) }) ⟨rfl, rfl⟩) fun r s1 hr => ?_
  cases r with
  | error e => exact hr
  | ok fl =>
    cases fl with
    | next => exact hr.elim
    | brk => exact hr.elim
    | cont => exact hr.elim
    | ret o =>
      obtain ⟨rfl, rfl⟩ := hr
      have g0 : (s.heap.push (bare w)).get? s.heap.objs.size = some (bare w) := Heap.get?_push_size _ rfl
      have t0 : Shared.TypeIs { s with heap := s.heap.push (bare w) } (.ref s.heap.objs.size) "set" := ⟨_, g0, rfl⟩
      have m6 := F.called_set.init.lookup
      have m7 := F.called_set.init.bind (.ref s.heap.objs.size)
      repeat (any_goals (first | assumption | wp_step))
      refine codeAny_mono (codeAny_call_builtin (R := wants (fun r s2 => r = .none ∧ ∃ h' tk c, s2 = { s with heap := h', toks := tk } ∧ SetR w h' s.heap.objs.size (fun j => decide (j ∈ ks)) c ∧ c ≤ ks.length ∧ ∀ b o, s.heap.get? b = some o → h'.get? b = some o) E) F.called_set.init.plain F.entry_set_init (check_set_init_1 t0 ?_)) fun r2 s2 hr2 => ?_
      · obtain ⟨ol, g1, hc, nl, hd⟩ := hx
        have lt : l < s.heap.objs.size := Heap.lt_size g1
        obtain ⟨oc, od, oda, osl⟩ := ol
        dsimp only at hc hd
        subst hc hd
        have g2 : (s.heap.push (bare w)).get? l = some { cls := .type "list", dict := od, data := .seq xs nl, slots := osl } := Heap.get?_push_of_some _ g1
        have i1 : (s.heap.push (bare w)).IsList l xs := ⟨_, g2, rfl, nl, rfl⟩
        have m8 := F.sub_list_set
        have m9 := F.sub_list_frozenset
        have m10 : (Value.type "list" == Value.type "dict") = false := by decide
        have szp : (s.heap.push (bare w)).objs.size = s.heap.objs.size + 1 := Heap.size_push ..
        unfold Builtin.«set.__init__» noKeywords Builtin.Frozenset.updateFrom
        generalize hPI : pyIter = PI
        wp_walk
        subst hPI
        refine wpAny_pyIter_list i1 (wpAny_bind (wpAny_runValue ?_))
        have ne1 : l ≠ (s.heap.push (bare w)).objs.size := by rw [szp]; exact Nat.ne_of_lt (Nat.lt_succ_of_lt lt)
        have ne2 : s.heap.objs.size ∉ [(s.heap.push (bare w)).objs.size, l] := by
          rw [szp]
          simp only [List.mem_cons, List.not_mem_nil, or_false, not_or]
          exact ⟨Nat.ne_of_lt (Nat.lt_succ_self _), Nat.ne_of_gt lt⟩
        have at_ : ∀ (i : Nat) (v : Value), xs[i]? = some v → ∃ k t, ks[i]? = some k ∧ v = .int k t := fun i v hv => by
          have hi : i < ks.length := by rw [← sz]; exact (Array.getElem?_eq_some_iff.mp hv).1
          obtain ⟨t, e⟩ := IntsAre.int_at hk i v (by rw [Array.getElem?_toList]; exact hv)
          rw [List.getD_eq_getElem?_getD, List.getElem?_eq_getElem hi, Option.getD_some] at e
          exact ⟨ks[i], t, List.getElem?_eq_getElem hi, e⟩
        have hA3 : A.in1.in1.in1.handled = none := by simp [hA]
        refine set_update_ints ((Walks.list hA3 _ l ne1 xs).toS) s.heap.objs.size ne2 ks sz few at_ (xs.size - 0) 0 _ (by omega) (Nat.zero_le _) ⟨⟨_, Heap.get?_push_size _ rfl, rfl, rfl⟩, i1.push _⟩ ⟨0, Nat.le_refl 0, setR_new_at (Heap.get?_push_of_some _ g0)⟩ ?_
        intro s' c' hm hc' hS'
        obtain ⟨h', g', d', tk', os'⟩ := s'
        obtain rfl : g' = s.gens := hm.gens
        obtain rfl : d' = s.drawn := hm.drawn
        obtain rfl : os' = s.os := hm.os
        show wpAny _ _ _ _ _ _
        refine wpAny_pure (wpAny_pure ⟨rfl, h', tk', c', rfl, hS', by omega, fun b o e => ?_⟩)
        have lb : b < s.heap.objs.size := Heap.lt_size e
        refine hm.heap b o ?_ (Heap.get?_push_of_some _ (Heap.get?_push_of_some _ e))
        rw [szp]
        simp only [List.mem_cons, List.not_mem_nil, or_false, not_or]
        exact ⟨Nat.ne_of_lt lb, Nat.ne_of_lt (Nat.lt_succ_of_lt lb)⟩
      · cases r2 with
        | error e => exact hr2
        | ok f2 =>
          cases f2 with
          | next => exact hr2.elim
          | brk => exact hr2.elim
          | cont => exact hr2.elim
          | ret r =>
            obtain ⟨rfl, h', tk, c', rfl, hS', hc', hk'⟩ := hr2
            repeat (any_goals (first | assumption | wp_step))
            exact want _ _ _ hS' hc' hk'
end
end St
namespace St
open PySem PySem.Spec PyProof.Rows L2 Nw
theorem cr_setL {X : Cx} (hc : X.calm = true) : CallR X (.type "set") (fun xs H Q => ∃ (a : Addr) (ns : List Int), xs = [.ref a] ∧ SqL X.K H a (ns.map V.int) ∧ ns.length ≤ 60 ∧ ∀ p H2 n, H p = none → Same H H2 → H2 p = some (SetO X.w p (fun j => decide (j ∈ ns)) n) → n ≤ ns.length → Q (.ref p) H2) := by
  intro pins s σ H xs us Q I r h
  obtain ⟨a, ns, rfl, hs, hl, q⟩ := h
  obtain ⟨u, rfl, ru⟩ := Vals.one r
  cases ru
  obtain ⟨its, ri, pl, _⟩ := I.list hs
  have hn : H s.heap.objs.size = none := I.hok.fresh (Nat.le_refl _)
  refine set_of_list ns (I.ok.hd hc) (PlainL.isList pl) (by rw [List.toList_toArray]; exact Vals.ints ri) (by unfold scanBound; omega) fun h' tk c R lc k => ?_
  exact ⟨.ref s.heap.objs.size, upd H s.heap.objs.size (SetO X.w s.heap.objs.size (fun j => decide (j ∈ ns)) c), I.laid (t' := tk) k (Nat.le_refl _) (setO_new R), rfl, q _ _ c hn (same_new hn) upd_same lc⟩
theorem cr_sortedS {X : Cx} (hc : X.calm = true) : CallR X (.builtin "sorted") (fun vs H Q => ∃ (a : Addr) (S : Int → Bool) (n : Nat), vs = [V.ref a] ∧ H a = some (SetO X.w a S n) ∧ n < 64 ∧ ∀ ns : List Int, ns.Pairwise (· < ·) → (∀ k : Int, k ∈ ns ↔ S k = true) → ns.length = n → New H (.lst (ns.map V.int)) Q) :=
  call_weak (cr_sortedSet hc) fun _ _ _ ⟨a, S, n, h1, h2, h3, h4⟩ => ⟨a, S, n, h1, h2, h3, fun ns p x1 x2 x3 np => (h4 ns x1 x2 x3).to p np⟩
end St
namespace St
open PySem PySem.Spec PyProof.Rows L2 Nw
section
variable {X : Cx}
/-- sorted(t), t a tuple of whole numbers: the items are gathered in a list, then a list of these is sorted in its place -/
theorem cr_sortedT : CallR X (.builtin "sorted") (fun vs H Q => ∃ (a : Addr) (ns : List Int), vs = [V.ref a] ∧ SqT X.K H a (ns.map V.int) ∧ ∀ ns' : List Int, ns'.Perm ns → ns'.Pairwise (· ≤ ·) → New H (.lst (ns'.map V.int)) Q) := by
  intro pins s σ H vs us Q I r h
  obtain ⟨a, ns, rfl, hs, q⟩ := h
  obtain ⟨its, rv, ⟨o, ho, hcl, n, hd⟩, hz⟩ := I.tuple hs
  obtain ⟨u, rfl, ru⟩ := Vals.one r
  cases ru
  have hin := Vals.ints rv
  have lz : its.length ≤ sizeLine := by rw [← Vals.length rv]; exact hz
  refine Calls.call_function_entry PyProof.Rows.kind_sorted PyProof.Rows.plain_sorted PyProof.Rows.entry_sorted (PyProof.Rows.args_sorted1 _) ?_
  unfold Builtin.«sorted»
  refine wpAny_bind (m := checkCount "sorted" 1 1 _) (wpAny_pure (wpAny_bind (wpAny_collect_seq a (.inr rfl) ho hcl hd (fun h1 k1 => ?_) (by rw [List.size_toArray]; exact lz))))
  refine wpAny_bind (wpAny_newList ?_ (by rw [List.toList_toArray]; exact lz))
  rw [List.toList_toArray]
  have at1 : (h1.push (seqObj "list" its.toArray 0)).get? h1.objs.size = some (seqObj "list" its.toArray 0) := Heap.get?_push_size _ rfl
  have up1 : ∀ b o, s.heap.get? b = some o → b ≠ h1.objs.size ∧ (h1.push (seqObj "list" its.toArray 0)).get? b = some o := fun b o e => ⟨Nat.ne_of_lt (Heap.lt_size (k1 b o e)), Heap.get?_push_of_some _ (k1 b o e)⟩
  refine wpAny_bind (wpAny_holding (wpAny_call_entry PyProof.Rows.slot_list_sort ⟨_, at1, rfl⟩ PyProof.Rows.entry_list_sort (SrtO.list_sort_ord SrtO.swo_int at1 lz (fun h2 => SrtO.ints_sortable hin h2) fun out g1 g2 => ⟨_, rfl, ?_⟩) (PyProof.Rows.args_list_sort _)))
  obtain ⟨i1, i2, i3⟩ := SrtO.ints_out hin g1 g2
  obtain ⟨ep, hat⟩ := PyProof.Rows.sortedHeap_at (out := out.toArray) at1
  have gone : s.heap.get? h1.objs.size = none := by
    cases e : s.heap.get? h1.objs.size with
    | none => rfl
    | some o => exact absurd (Heap.lt_size (k1 _ o e)) (Nat.lt_irrefl _)
  have hn : H h1.objs.size = none := I.hok.gone gone
  have old : ∀ b o, s.heap.get? b = some o → (PyProof.Rows.sortedHeap (h1.push (seqObj "list" its.toArray 0)) h1.objs.size its out.toArray).get? b = some o := fun b o e => by
    rw [PyProof.Rows.sortedHeap_old (up1 b o e).1 (Heap.lt_size (up1 b o e).2)]
    exact (up1 b o e).2
  have len : ((out.map SrtO.iv).map V.int).length ≤ sizeLine := by
    rw [List.length_map, i2.length_eq]
    rw [List.length_map] at hz
    exact hz
  refine wpAny_pure ⟨_, rfl, .ref h1.objs.size, upd H h1.objs.size (.lst ((out.map SrtO.iv).map V.int)), I.laidN (t' := s.toks) old gone hn ⟨len, out, ep, vals_of_ints i1, hat⟩, rfl, (q _ i2 i3).to _ hn⟩
end
end St
namespace St2
open PySem PySem.Spec PyProof.Rows L2 Nw
/-! ### set(t) of a tuple of whole numbers -/
/-- a set as it begins -/
abbrev bare (w : World) : Obj := { cls := .type "set", dict := none, data := .set #[] 0 (.fresh 0 0 (!w.params.followText "set-order")) }
section
variable {P : Program} {w : World} {A : Around} {E : Value → Shared → Prop} {s : Shared}
set_option maxRecDepth 100000 in
set_option maxHeartbeats 3200000 in
theorem set_of_tup {l : Addr} {xs : Array Value} (ks : List Int) {Q : Value → Shared → Prop} (hA : A.handled = none) (hx : s.heap.IsTuple l xs) (hk : IntsAre xs.toList ks) (few : ks.length + 1 < scanBound)
    (want : ∀ (h' : Heap) (tk c : Nat), SetR w h' s.heap.objs.size (fun j => decide (j ∈ ks)) c → c ≤ ks.length → (∀ b o, s.heap.get? b = some o → h'.get? b = some o) → Q (.ref s.heap.objs.size) { s with heap := h', toks := tk }) :
    wpAny (model P w) A (call (.type "set") [.ref l]) Q E s := by
  have sz : xs.size = ks.length := by rw [← Array.length_toList]; exact IntsAre.length hk
  obtain ⟨c, tl, hmro⟩ := F.called_set.mro
  have m1 := F.called_set.made
  have m2 := F.called_set.sub
  have m3 := F.called_set.notType
  have m4 := F.called_set.canCreate
  have m5 := F.typeCall_set_1 (.ref l)
  refine wpAny_call (codeAny_of_tree (wpAny_pure ⟨Code.quiet_builtin _ (by decide +kernel), codeAny_builtin F.entry_type_call ?_⟩))
  rw [Around.under_plain (weight_type_call_type "set" [.ref l] []) rfl]
  repeat (any_goals (first | assumption | wp_step))
  refine codeAny_mono (code_set_led1 (.ref l) (E := E) (Q₁ := fun o s1 => o = .ref s.heap.objs.size ∧ s1 = { s with heap := s.heap.push (bare w) }) ⟨rfl, rfl⟩) fun r s1 hr => ?_
  cases r with
  | error e => exact hr
  | ok fl =>
    cases fl with
    | next => exact hr.elim
    | brk => exact hr.elim
    | cont => exact hr.elim
    | ret o =>
      obtain ⟨rfl, rfl⟩ := hr
      have g0 : (s.heap.push (bare w)).get? s.heap.objs.size = some (bare w) := Heap.get?_push_size _ rfl
      have t0 : Shared.TypeIs { s with heap := s.heap.push (bare w) } (.ref s.heap.objs.size) "set" := ⟨_, g0, rfl⟩
      have m6 := F.called_set.init.lookup
      have m7 := F.called_set.init.bind (.ref s.heap.objs.size)
      repeat (any_goals (first | assumption | wp_step))
      refine codeAny_mono (codeAny_call_builtin (R := wants (fun r s2 => r = .none ∧ ∃ h' tk c, s2 = { s with heap := h', toks := tk } ∧ SetR w h' s.heap.objs.size (fun j => decide (j ∈ ks)) c ∧ c ≤ ks.length ∧ ∀ b o, s.heap.get? b = some o → h'.get? b = some o) E) F.called_set.init.plain F.entry_set_init (check_set_init_1 t0 ?_)) fun r2 s2 hr2 => ?_
      · obtain ⟨ol, g1, hc, nl, hd⟩ := hx
        have lt : l < s.heap.objs.size := Heap.lt_size g1
        obtain ⟨oc, od, oda, osl⟩ := ol
        dsimp only at hc hd
        subst hc hd
        have g2 : (s.heap.push (bare w)).get? l = some { cls := .type "tuple", dict := od, data := .seq xs nl, slots := osl } := Heap.get?_push_of_some _ g1
        have i1 : (s.heap.push (bare w)).IsTuple l xs := ⟨_, g2, rfl, nl, rfl⟩
        have m8 := F.sub_tuple_set
        have m9 := F.sub_tuple_frozenset
        have m10 : (Value.type "tuple" == Value.type "dict") = false := by decide
        have szp : (s.heap.push (bare w)).objs.size = s.heap.objs.size + 1 := Heap.size_push ..
        unfold Builtin.«set.__init__» noKeywords Builtin.Frozenset.updateFrom
        generalize hPI : pyIter = PI
        wp_walk
        subst hPI
        refine wpAny_pyIter_tuple i1 (wpAny_bind (wpAny_runValue ?_))
        have ne1 : l ≠ (s.heap.push (bare w)).objs.size := by rw [szp]; exact Nat.ne_of_lt (Nat.lt_succ_of_lt lt)
        have ne2 : s.heap.objs.size ∉ [(s.heap.push (bare w)).objs.size, l] := by
          rw [szp]
          simp only [List.mem_cons, List.not_mem_nil, or_false, not_or]
          exact ⟨Nat.ne_of_lt (Nat.lt_succ_self _), Nat.ne_of_gt lt⟩
        have at_ : ∀ (i : Nat) (v : Value), xs[i]? = some v → ∃ k t, ks[i]? = some k ∧ v = .int k t := fun i v hv => by
          have hi : i < ks.length := by rw [← sz]; exact (Array.getElem?_eq_some_iff.mp hv).1
          obtain ⟨t, e⟩ := IntsAre.int_at hk i v (by rw [Array.getElem?_toList]; exact hv)
          rw [List.getD_eq_getElem?_getD, List.getElem?_eq_getElem hi, Option.getD_some] at e
          exact ⟨ks[i], t, List.getElem?_eq_getElem hi, e⟩
        have hA3 : A.in1.in1.in1.handled = none := by simp [hA]
        refine set_update_ints ((Walks.tuple hA3 _ l ne1 xs).toS) s.heap.objs.size ne2 ks sz few at_ (xs.size - 0) 0 _ (by omega) (Nat.zero_le _) ⟨⟨_, Heap.get?_push_size _ rfl, rfl, rfl⟩, i1.push _⟩ ⟨0, Nat.le_refl 0, setR_new_at (Heap.get?_push_of_some _ g0)⟩ ?_
        intro s' c' hm hc' hS'
        obtain ⟨h', g', d', tk', os'⟩ := s'
        obtain rfl : g' = s.gens := hm.gens
        obtain rfl : d' = s.drawn := hm.drawn
        obtain rfl : os' = s.os := hm.os
        show wpAny _ _ _ _ _ _
        refine wpAny_pure (wpAny_pure ⟨rfl, h', tk', c', rfl, hS', by omega, fun b o e => ?_⟩)
        have lb : b < s.heap.objs.size := Heap.lt_size e
        refine hm.heap b o ?_ (Heap.get?_push_of_some _ (Heap.get?_push_of_some _ e))
        rw [szp]
        simp only [List.mem_cons, List.not_mem_nil, or_false, not_or]
        exact ⟨Nat.ne_of_lt lb, Nat.ne_of_lt (Nat.lt_succ_of_lt lb)⟩
      · cases r2 with
        | error e => exact hr2
        | ok f2 =>
          cases f2 with
          | next => exact hr2.elim
          | brk => exact hr2.elim
          | cont => exact hr2.elim
          | ret r =>
            obtain ⟨rfl, h', tk, c', rfl, hS', hc', hk'⟩ := hr2
            repeat (any_goals (first | assumption | wp_step))
            exact want _ _ _ hS' hc' hk'
theorem cr_setT {X : Cx} (hc : X.calm = true) : CallR X (.type "set") (fun xs H Q => ∃ (a : Addr) (ns : List Int), xs = [.ref a] ∧ SqT X.K H a (ns.map V.int) ∧ ns.length ≤ 60 ∧ ∀ p H2 n, H p = none → Same H H2 → H2 p = some (SetO X.w p (fun j => decide (j ∈ ns)) n) → n ≤ ns.length → Q (.ref p) H2) := by
  intro pins s σ H xs us Q I r h
  obtain ⟨a, ns, rfl, hs, hl, q⟩ := h
  obtain ⟨u, rfl, ru⟩ := Vals.one r
  cases ru
  obtain ⟨its, ri, pl, _⟩ := I.tuple hs
  have hn : H s.heap.objs.size = none := I.hok.fresh (Nat.le_refl _)
  refine set_of_tup ns (I.ok.hd hc) (show s.heap.IsTuple a its.toArray from pl) (by rw [List.toList_toArray]; exact Vals.ints ri) (by unfold scanBound; omega) fun h' tk c R lc k => ?_
  exact ⟨.ref s.heap.objs.size, upd H s.heap.objs.size (SetO X.w s.heap.objs.size (fun j => decide (j ∈ ns)) c), I.laid (t' := tk) k (Nat.le_refl _) (setO_new R), rfl, q _ _ c hn (same_new hn) upd_same lc⟩
end
end St2
namespace Ct
open PySem PySem.Spec PyProof.Rows L2 GxR Nw Dr Kp Se
structure Zc (mg : Str → Option Value) : Prop where
  z_any : mg "any" = none
  z_isinstance : mg "isinstance" = none
  z_int : mg "int" = none
  z_bool : mg "bool" = none
  z_tuple : mg "tuple" = none
  z_sorted : mg "sorted" = none
  z_set : mg "set" = none
abbrev sHop : Stmt := topS 3
abbrev nHop : List Str := ["says", "say"]
theorem scHop : FnScope nHop ["says"] (defScope sHop) := ⟨rfl, rfl, rfl, by decide +kernel, rfl, by decide +kernel, by decide +kernel⟩
abbrev sWho : Stmt := topS 2
theorem scWho : FnScope ["thing"] ["thing"] (defScope sWho) := ⟨rfl, rfl, rfl, by decide +kernel, rfl, by decide +kernel, by decide +kernel⟩
abbrev sCme : Stmt := topS 16
theorem scCme : FnScope ["one", "other", "k"] ["one", "other", "k"] (defScope sCme) := ⟨rfl, rfl, rfl, by decide +kernel, rfl, by decide +kernel, by decide +kernel⟩
abbrev sCon : Stmt := topS 17
abbrev nCon : List Str := ["one", "other", "k", "says", "say"]
theorem scCon : FnScope nCon ["one", "other", "k"] (defScope sCon) := ⟨rfl, rfl, rfl, by decide +kernel, rfl, by decide +kernel, by decide +kernel⟩
theorem ints_flat (cs : List Int) : (cs.map V.int).all flatV = true := by
  rw [List.all_map, List.all_eq_true]
  exact fun _ _ => rfl
theorem at_int {ks : List Int} {i : Nat} {x : V} (hx : (ks.map V.int)[i]? = some x) : ∃ z, ks[i]? = some z ∧ x = V.int z := by
  rw [List.getElem?_map] at hx
  cases e : ks[i]? with
  | none =>
    rw [e] at hx
    cases hx
  | some z =>
    rw [e] at hx
    exact ⟨z, rfl, (Option.some.inj hx).symm⟩
/-- any/all over a list that stays -/
theorem aa_list {K : PySem.W.Frag} {a : Addr} {xs : List V} {g : TG} {tt : TT} {te : TE} {vs : List Nat} {σ : L2.St} {H1 : Hp} {stopb : Bool} {Q : VK} (Pv : Nat → Hp → Prop) (h0 : Pv 0 H1) (hl : ∀ i H, i ≤ xs.length → Pv i H → SqL K H a xs)
    (hs : ∀ i x H, xs[i]? = some x → Pv i H → g x (wipe σ vs) H fun σ2 H2 => wipe σ2 vs = wipe σ vs ∧ tt σ2 H2 fun b H3 => if b = true then te σ2 H3 fun y H4 => (y = .bl stopb ∧ Q (.bl stopb) H4) ∨ (y = .bl (!stopb) ∧ Pv (i + 1) H4) else Pv (i + 1) H3) (hd : ∀ H, Pv xs.length H → Q (.bl (!stopb)) H) :
    ∃ W : Nat → Nat → Hp → Prop, (∃ m, W 0 m H1) ∧ ∀ i m H, W i m H → ((Itl K a).stop i H ∧ Q (.bl (!stopb)) H) ∨ ((Itl K a).go i H ∧ ∃ Nx : Hp → Prop, (∀ H', Nx H' → ∃ m', m' < m ∧ W (i + 1) m' H') ∧ ∀ x H', (Itl K a).yld i H x H' → g x (wipe σ vs) H' fun σ2 H2 => wipe σ2 vs = wipe σ vs ∧ tt σ2 H2 fun b H3 =>
      if b = true then te σ2 H3 fun y H4 => (y = .bl stopb ∧ Q (.bl stopb) H4) ∨ (y = .bl (!stopb) ∧ Nx H4) else Nx H3) := by
  refine ⟨fun i m H => i + m = xs.length ∧ Pv i H, ⟨xs.length, Nat.zero_add _, h0⟩, fun i m H ⟨e, p⟩ => ?_⟩
  have sq := hl i H (by omega) p
  cases m with
  | zero =>
    have ei : i = xs.length := by omega
    subst ei
    exact .inl ⟨⟨xs, sq, Nat.le_refl _⟩, hd H p⟩
  | succ m =>
    have lt : i < xs.length := by omega
    refine .inr ⟨⟨xs, xs[i], sq, List.getElem?_eq_getElem lt⟩, Pv (i + 1), fun H' q => ⟨m, Nat.lt_succ_self m, by omega, q⟩, fun x H' y => ?_⟩
    obtain ⟨rfl, y⟩ := y
    exact hs i x _ (y xs sq) p
/-- two of the says are opposite -/
def oppB (ns : List Int) : Bool := ns.any fun s => decide (0 < s) && inV (.int (-s)) (ns.map V.int)
theorem take_any {α : Type} {f : α → Bool} {l : List α} {i : Nat} {x : α} (h : l[i]? = some x) (p : (l.take i).any f = false) : (f x = true → l.any f = true) ∧ (f x = false → (l.take (i + 1)).any f = false) := by
  refine ⟨fun z => List.any_eq_true.mpr ⟨x, List.mem_of_getElem? h, z⟩, fun z => ?_⟩
  rw [List.take_add_one, h, List.any_append, p]
  show (f x || false) = false
  rw [z]
  rfl
section
variable {P : Program} {w : World} {K : PySem.W.Frag} {mg : Str → Option Value} {base : Heap}
def spHop (Po : Addr) : Sp := fun vs H Q _ => ∃ (a : Addr) (ns : List Int), vs = [.ref a] ∧ H a = some (.lst (ns.map V.int)) ∧ TabG H Po ∧ ∀ H', Ke Nof H H' → Q (.bl (oppB ns)) H'
theorem ok_hop {f c Po : Addr} {fd : FuncData} {k : Nat} (F : FunC K "has_opposites" "has_opposites" sHop f c fd) (T : Zc mg) (TB : TabB base mg c Po) : FnOk P w K mg base CX0 (k + 3) f fd ["says"] (spHop Po) := by
  refine F.ok scHop (fun vs H Q E h => ?_) (fun A outer s H vs Q E hr h => ?_)
  · obtain ⟨a, ns, rfl, _⟩ := h
    rfl
  · obtain ⟨a, ns, rfl, ha, tg, q⟩ := h
    refine ⟨_, (pss_one (ps_ret (Gx.pe_any hr (by rfl) T.z_any rfl scHop.nd TB rfl (pi_list (pv 0)) (own := [("say", 1)]) (g := gName 1) (blkOk_by (N := nHop) (sc := defScope sHop) (by decide +kernel)) ⟨rfl, by decide +kernel, rfl⟩ (fun _ _ _ _ _ _ _ => pg_name (i := 1) scHop.nd rfl (.inl rfl)) (fun _ _ _ _ _ _ _ => (pts_one (pt_cmpR op_gt (pv 1) pe_int (nomark _)))) (fun _ _ _ _ _ _ _ => (pe_cmpR (op_in_seqB (K := K) rfl) (pe_un un_neg (pv 1)) (pv 0) (by rfl)))))), ?_⟩
    refine ⟨_, rfl, a, rfl, ⟨_, .of ha⟩, tg, fun H1 tb => ?_⟩
    have k1 : Ke Nof H H1 := .tabbed tg tb
    refine aa_list (xs := ns.map V.int) (Pv := fun i H' => Ke Nof H H' ∧ (ns.take i).any (fun s => decide (0 < s) && inV (.int (-s)) (ns.map V.int)) = false) ⟨k1, rfl⟩ (fun i H' _ p => .of (p.1.lst ha fun z => z)) ?_ ?_
    · rintro i x H' hx ⟨k2, p⟩
      obtain ⟨z, hz, rfl⟩ := at_int hx
      obtain ⟨t1, t2⟩ := take_any hz p
      refine ⟨rfl, _, rfl, _, _, rfl, rfl, _, rfl, ite2 (fun y1 => ?_) (fun y1 => ?_)⟩
      · refine ⟨_, rfl, _, rfl, _, rfl, a, _, rfl, .inl (.of (k2.lst ha fun z => z)), rfl, ints_flat ns, ?_⟩
        cases e : inV (.int (-z)) (ns.map V.int) with
        | true =>
          refine .inl ⟨rfl, ?_⟩
          have := q H' k2
          rw [show oppB ns = true from t1 (by rw [e, Bool.and_true]; exact y1)] at this
          exact this
        | false => exact .inr ⟨rfl, k2, t2 (by rw [e, Bool.and_false])⟩
      · exact ⟨k2, t2 (by rw [show decide (0 < z) = false from Bool.eq_false_iff.mpr y1, Bool.false_and])⟩
    · rintro H' ⟨k2, p⟩
      rw [List.length_map, List.take_length] at p
      have := q H' k2
      rw [show oppB ns = false from p] at this
      exact this
def spWho : Sp := fun vs H Q _ => ∃ k : Int, vs = [.int k] ∧ Q (.bl true) H
theorem ok_who {f : Addr} {fd : FuncData} {k : Nat} (F : Fun K "is_whole" "is_whole" sWho f fd) (T : Zc mg) : FnOk P w K mg base CX0 (k + 1) f fd ["thing"] spWho := by
  refine F.ok scWho (fun vs H Q E h => ?_) (fun cdv A outer s H vs Q E hr h => ?_)
  · obtain ⟨k, rfl, _⟩ := h
    rfl
  · obtain ⟨k, rfl, q⟩ := h
    refine ⟨_, (pss_one (ps_ret (pe_and (pe_callB call_isi (by rfl) T.z_isinstance (by decide +kernel) (pa_cons (pv 0) (pa_cons (pe_bltn (v := .ty "int") (u := .type "int") (by rfl) T.z_int (by decide +kernel) rfl) pa_nil))) (pe_one (pe_not (pe_callB call_isi (by rfl) T.z_isinstance (by decide +kernel) (pa_cons (pv 0) (pa_cons (pe_bltn (v := .ty "bool") (u := .type "bool") (by rfl) T.z_bool (by decide +kernel) rfl) pa_nil)))))))), ?_⟩
    refine ⟨_, rfl, .int k, .ty "int", .type "int", .type "int", true, rfl, .ty _, .base (.int k), kit_ty (by decide +kernel), _, rfl, ?_⟩
    refine ⟨_, rfl, .int k, .ty "bool", .type "int", .type "bool", false, rfl, .ty _, .base (.int k), kit_ty (by decide +kernel), _, rfl, q⟩
/-- k meets -/
def meetB (cs ds : List Int) (k : Int) : Bool := decide (1 ≤ k) && decide (k ≤ 8) && inV (.int k) (cs.map V.int) && inV (.int (-k)) (ds.map V.int)
def spCme : Sp := fun vs H Q _ => ∃ (v u : V) (k : Int) (cs ds : List Int), vs = [v, u, .int k] ∧ TupI H v cs ∧ TupI H u ds ∧ Q (.bl (meetB cs ds k)) H
theorem ok_cme {f fW : Addr} {fd fdW : FuncData} {k : Nat} {tk : Tok} (F : Fun K "can_meet" "can_meet" sCme f fd) (T : Zc mg) (M8 : mg "MOST_THINGS" = some (.int 8 tk)) (FW : Fun K "is_whole" "is_whole" sWho fW fdW) (bW : Binds K fdW ["thing"] []) (gW : mg "is_whole" = some (.ref fW)) (GW : FnOk P w K mg base CX0 1 fW fdW ["thing"] spWho) :
    FnOk P w K mg base CX0 (k + 2) f fd ["one", "other", "k"] spCme := by
  refine F.ok scCme (fun vs H Q E h => ?_) (fun cdv A outer s H vs Q E hr h => ?_)
  · obtain ⟨v, u, k, cs, ds, rfl, _⟩ := h
    rfl
  · obtain ⟨v, u, k, cs, ds, rfl, ⟨a, rfl, ha⟩, ⟨b, rfl, hb⟩, q⟩ := h
    have hr1 : Room 1 _ := hr.mono (by omega)
    refine ⟨_, (pss_one (ps_ret (pe_and (pe_call GW hr1 (by rfl) gW FW.kp bW .nil pass0 (pa_cons (pv 2) pa_nil)) (pe_and (pe_chain op_le op_le pe_int (pv 2) (pe_glob (v := .int 8) rfl M8 ⟨_, rfl⟩)) (pe_and (pe_cmpR op_in_seq (pv 2) (pv 0) (by rfl)) (pe_one (pe_cmpR op_in_seq (pe_un un_neg (pv 2)) (pv 1) (by rfl)))))))), ?_⟩
    refine ⟨_, rfl, k, rfl, _, rfl, ?_⟩
    unfold meetB at q
    refine ⟨_, rfl, 1, _, rfl, rfl, decide (1 ≤ k), rfl, ?_⟩
    cases e1 : decide (1 ≤ k) with
    | false =>
      rw [e1] at q
      exact ⟨_, rfl, q⟩
    | true =>
      refine ⟨_, _, rfl, rfl, decide (k ≤ 8), rfl, ?_⟩
      cases e2 : decide (k ≤ 8) with
      | false =>
        rw [e1, e2] at q
        exact q
      | true =>
        refine ⟨_, rfl, _, rfl, a, _, rfl, .inr (.of ha), rfl, ints_flat cs, _, rfl, ?_⟩
        cases e3 : inV (.int k) (cs.map V.int) with
        | false =>
          rw [e1, e2, e3] at q
          exact q
        | true =>
          rw [e1, e2, e3] at q
          exact ⟨_, rfl, _, rfl, _, rfl, b, _, rfl, .inr (.of hb), rfl, ints_flat ds, q⟩
/-- what is said besides -/
def saysB (cs ds : List Int) (k : Int) : List Int := (cs.filter fun s => !decide (V.int s = V.int k)) ++ ds.filter fun s => !decide (V.int s = V.int (-k))
theorem filt_take {α : Type} {f : α → Bool} {l : List α} {i : Nat} {x : α} (h : l[i]? = some x) : (l.take (i + 1)).filter f = (l.take i).filter f ++ (if f x = true then [x] else []) := by
  rw [List.take_add_one, h, List.filter_append]
  congr 1
  show [x].filter f = _
  cases e : f x with
  | true => rw [List.filter_cons_of_pos e]; rfl
  | false => rw [List.filter_cons_of_neg (by rw [e]; decide)]; rfl
def spCon (Po : Addr) : Sp := fun vs H Q _ => ∃ (v u : V) (k : Int) (cs ds : List Int), vs = [v, u, .int k] ∧ TupI H v cs ∧ TupI H u ds ∧ cs.length ≤ 20 ∧ ds.length ≤ 20 ∧ TabG H Po ∧
  (∀ H', Ke Nof H H' → (meetB cs ds k = false ∨ oppB (saysB cs ds k) = true) → Q .non H') ∧
  ∀ (ns : List Int) (p : Addr) (H' : Hp), Ke Nof H H' → meetB cs ds k = true → oppB (saysB cs ds k) = false → ns.Pairwise (· < ·) → (∀ j, j ∈ ns ↔ j ∈ saysB cs ds k) → H' p = some (.tup (ns.map V.int)) → Q (.ref p) H'
theorem ok_con {f fM fH Po : Addr} {fd fdM fdH : FuncData} {k : Nat} (F : Fun K "cut_or_none" "cut_or_none" sCon f fd) (T : Zc mg) (FM : Fun K "can_meet" "can_meet" sCme fM fdM) (bM : Binds K fdM ["one", "other", "k"] []) (gM : mg "can_meet" = some (.ref fM)) (GM : FnOk P w K mg base CX0 2 fM fdM ["one", "other", "k"] spCme)
    (kpH : PySem.W.keepIn K (.ref fH) = true) (bH : Binds K fdH ["says"] []) (gH : mg "has_opposites" = some (.ref fH)) (GH : FnOk P w K mg base CX0 3 fH fdH ["says"] (spHop Po)) :
    FnOk P w K mg base CX0 (k + 4) f fd ["one", "other", "k"] (spCon Po) := by
  refine F.ok scCon (fun vs H Q E h => ?_) (fun cdv A outer s H vs Q E hr h => ?_)
  · obtain ⟨v, u, k, cs, ds, rfl, _⟩ := h
    rfl
  · obtain ⟨v, u, k, cs, ds, rfl, tv, tu, lc, ld, tg, q1, q2⟩ := h
    have hr2 : Room 2 _ := hr.mono (by omega)
    have hr3 : Room 3 _ := hr.mono (by omega)
    refine ⟨_, (pss_cons (ps_if (pt_not (pt_val (pe_call GM hr2 (by rfl) gM FM.kp bM .nil pass0 (pa_cons (pv 0) (pa_cons (pv 1) (pa_cons (pv 2) pa_nil)))))) (pss_one (ps_ret pe_non)) pss_nil)
      (Evl.pss_cut (ps_set (i := 3) scCon.nd rfl (.inl rfl) (pe_op op_catN (pe_lc (own := [("say", 4)]) (g := (gName 4))  rfl scCon.nd (pi_tup (pv 0)) (blkOk_by (N := nCon) (sc := defScope sCon) (by decide +kernel)) (fun _ _ _ _ _ => (pg_name (i := 4) scCon.nd rfl (.inl rfl))) (fun _ _ _ _ _ => (pts_one (pt_cmpR op_ne (pv 4) (pv 2) (nomark _)))) (fun _ _ _ _ _ => (pv 4))) (pe_lc (own := [("say", 4)]) (g := (gName 4))  rfl scCon.nd (pi_tup (pv 1)) (blkOk_by (N := nCon) (sc := defScope sCon) (by decide +kernel)) (fun _ _ _ _ _ => (pg_name (i := 4) scCon.nd rfl (.inl rfl))) (fun _ _ _ _ _ => (pts_one (pt_cmpR op_ne (pv 4) (pe_un un_neg (pv 2)) (nomark _)))) (fun _ _ _ _ _ => (pv 4)))))
      (pss_cons (ps_if (pt_val (pe_call GH hr3 (by rfl) gH kpH bH .nil pass0 (pa_cons (pv 3) pa_nil))) (pss_one (ps_ret pe_non)) pss_nil)
      (pss_one (ps_ret (pe_callTy call_tuple_ofN (by rfl) T.z_tuple (by decide +kernel) (pa_cons (pe_callB (St.cr_sortedS rfl) (by rfl) T.z_sorted (by decide +kernel) (pa_cons (pe_callTy (St.cr_setL rfl) (by rfl) T.z_set (by decide +kernel) (pa_cons (pv 3) pa_nil)) pa_nil)) pa_nil))))))), ?_⟩
    obtain ⟨a, rfl, ha⟩ := id tv
    obtain ⟨b, rfl, hb⟩ := id tu
    refine ⟨_, rfl, _, rfl, _, rfl, .ref a, .ref b, k, cs, ds, rfl, tv, tu, _, rfl, ?_⟩
    cases e1 : meetB cs ds k with
    | false => exact q1 H (.refl _ _) (.inl e1)
    | true =>
      refine Evl.q_cut (M := fun σ' H' => ∃ p : Addr, σ' = [some (.ref a), some (.ref b), some (.int k), some (.ref p), none] ∧ Same H H' ∧ H' p = some (.lst ((saysB cs ds k).map V.int))) ?_ ?_
      · refine ⟨_, rfl, a, rfl, ⟨_, .of ha⟩, fun D nD => ?_⟩
        refine lc_tup (xs := cs.map V.int) (Pv := fun i H' => Same H H' ∧ H' D = some (.lst (((cs.take i).filter fun s => !decide (V.int s = V.int k)).map V.int))) ⟨same_new nD, upd_same⟩ (fun i H' _ p => .of (p.1 _ _ ha)) ?_ ?_
        · rintro i x H' hx ⟨s1, hD⟩
          obtain ⟨z, hz, rfl⟩ := at_int hx
          have ft := filt_take (f := fun s => !decide (V.int s = V.int k)) hz
          refine ⟨rfl, _, rfl, _, rfl, rfl, _, rfl, ite2 (fun y1 => ?_) (fun y1 => ?_)⟩
          · refine ⟨_, rfl, _, hD, ?_, fun c o y => ?_, ?_⟩
            · rw [List.length_map]
              exact small1000 (Nat.le_trans (List.length_filter_le _ _) (by rw [List.length_take]; omega))
            · rw [upd_ne (ne_of_none y nD)]
              exact s1 _ _ y
            · rw [upd_same, ft, if_pos y1, List.map_append]
              rfl
          · refine ⟨s1, ?_⟩
            rw [ft, if_neg y1, List.append_nil]
            exact hD
        rintro H1 ⟨s1, hD⟩
        rw [List.length_map, List.take_length] at hD
        refine ⟨_, rfl, b, rfl, ⟨_, .of (s1 _ _ hb)⟩, fun D2 nD2 => ?_⟩
        refine lc_tup (xs := ds.map V.int) (Pv := fun i H' => Same H1 H' ∧ H' D2 = some (.lst (((ds.take i).filter fun s => !decide (V.int s = V.int (-k))).map V.int))) ⟨same_new nD2, upd_same⟩ (fun i H' _ p => .of (p.1 _ _ (s1 _ _ hb))) ?_ ?_
        · rintro i x H' hx ⟨s2, hD2⟩
          obtain ⟨z, hz, rfl⟩ := at_int hx
          have ft := filt_take (f := fun s => !decide (V.int s = V.int (-k))) hz
          refine ⟨rfl, _, rfl, _, rfl, _, rfl, rfl, _, rfl, ite2 (fun y1 => ?_) (fun y1 => ?_)⟩
          · refine ⟨_, rfl, _, hD2, ?_, fun c o y => ?_, ?_⟩
            · rw [List.length_map]
              exact small1000 (Nat.le_trans (List.length_filter_le _ _) (by rw [List.length_take]; omega))
            · rw [upd_ne (ne_of_none y nD2)]
              exact s2 _ _ y
            · rw [upd_same, ft, if_pos y1, List.map_append]
              rfl
          · refine ⟨s2, ?_⟩
            rw [ft, if_neg y1, List.append_nil]
            exact hD2
        rintro H2 ⟨s2, hD2⟩
        rw [List.length_map, List.take_length] at hD2
        refine ⟨D, D2, _, _, rfl, rfl, s2 _ _ hD, hD2, ?_, fun p H3 np s3 hp _ => ?_⟩
        · rw [List.length_map, List.length_map]
          have h1 := List.length_filter_le (fun s => !decide (V.int s = V.int k)) cs
          have h2 := List.length_filter_le (fun s => !decide (V.int s = V.int (-k))) ds
          exact Nat.le_trans (by omega : _ ≤ 1000) (by decide)
        · rw [← List.map_append] at hp
          exact ⟨p, rfl, (s1.trans s2).trans s3, hp⟩
      rintro σ' H1 ⟨p, rfl, s1, hp⟩
      have k1 : Ke Nof H H1 := .same s1
      refine ⟨_, rfl, p, _, rfl, hp, k1.tabs _ tg, fun H2 k2 => ⟨_, rfl, ?_⟩⟩
      have k12 := k1.trans k2
      cases e2 : oppB (saysB cs ds k) with
      | true => exact q1 H2 k12 (.inr e2)
      | false =>
        have hp2 := k2.lst hp fun z => z
        have ls : (saysB cs ds k).length ≤ 40 := by
          unfold saysB
          rw [List.length_append]
          have h1 := List.length_filter_le (fun s => !decide (V.int s = V.int k)) cs
          have h2 := List.length_filter_le (fun s => !decide (V.int s = V.int (-k))) ds
          omega
        refine ⟨_, rfl, p, _, rfl, .of hp2, by omega, fun r H3 n nr s3 hr' ln => ?_⟩
        refine ⟨r, _, n, rfl, hr', by omega, fun es up me le r2 H4 nr2 s4 h4 _ => ?_⟩
        refine ⟨r2, _, rfl, .of h4, fun r3 H5 nr3 s5 h5 _ => ?_⟩
        exact q2 es r3 H5 (k12.trans (.same ((s3.trans s4).trans s5))) e1 e2 up (fun j => (me j).trans decide_eq_true_iff) h5
end
end Ct
namespace Ct
open PySem PySem.Spec PyProof.Rows L2 GxR Nw Dr Kp Se
structure Zd (mg : Str → Option Value) : Prop where
  z_tuple : mg "tuple" = none
  z_sorted : mg "sorted" = none
  z_set : mg "set" = none
  z_abs : mg "abs" = none
abbrev sSct : Stmt := topS 38
abbrev nSct : List Str := ["one", "other", "k", "says", "say"]
theorem scSct : FnScope nSct ["one", "other", "k"] (defScope sSct) := ⟨rfl, rfl, rfl, by decide +kernel, rfl, by decide +kernel, by decide +kernel⟩
theorem in_ints (k : Int) : ∀ cs : List Int, inV (.int k) (cs.map V.int) = true ↔ k ∈ cs
  | [] => by
    constructor
    · intro h
      cases h
    · intro h
      cases h
  | c :: r => by
    have ih := in_ints k r
    show (eqV (.int c) (.int k) || inV (.int k) (r.map V.int)) = true ↔ _
    rw [Bool.or_eq_true, ih, List.mem_cons]
    have e : eqV (.int c) (.int k) = true ↔ k = c := by
      show (c == k) = true ↔ k = c
      rw [beq_iff_eq]
      exact eq_comm
    rw [e]
/-- what is said besides, told by members -/
def Bes (cs ds : List Int) (k j : Int) : Prop := (j ∈ cs ∨ j ∈ ds) ∧ (j.natAbs : Int) ≠ k
section
variable {P : Program} {w : World} {K : PySem.W.Frag} {mg : Str → Option Value} {base : Heap}
def spSct : Sp := fun vs H Q _ => ∃ (v u : V) (k : Int) (cs ds : List Int), vs = [v, u, .int k] ∧ TupI H v cs ∧ TupI H u ds ∧ cs.length ≤ 20 ∧ ds.length ≤ 20 ∧
  (∀ H', Same H H' → (k < 1 ∨ k ∉ cs ∨ -k ∉ ds ∨ ∃ j, Bes cs ds k j ∧ Bes cs ds k (-j)) → Q .non H') ∧
  ∀ (ns : List Int) (p : Addr) (H' : Hp), Same H H' → 1 ≤ k → k ∈ cs → -k ∈ ds → (∀ j, Bes cs ds k j → ¬ Bes cs ds k (-j)) → ns.Pairwise (· < ·) → (∀ j, j ∈ ns ↔ Bes cs ds k j) → H' p = some (.tup (ns.map V.int)) → Q (.ref p) H'
theorem ok_sct {f : Addr} {fd : FuncData} {k : Nat} (F : Fun K "_law_scut" "_law_scut" sSct f fd) (T : Zd mg) : FnOk P w K mg base CX0 (k + 1) f fd ["one", "other", "k"] spSct := by
  refine F.ok scSct (fun vs H Q E h => ?_) (fun cdv A outer s H vs Q E hr h => ?_)
  · obtain ⟨v, u, k, cs, ds, rfl, _⟩ := h
    rfl
  · obtain ⟨v, u, k, cs, ds, rfl, ⟨a, rfl, ha⟩, ⟨b, rfl, hb⟩, lc, ld, q1, q2⟩ := h
    refine ⟨_, (pss_cons (ps_if (PW.pt (pw_or (pt_cmpR op_lt (pv 2) pe_int (nomark _)) (pw_or (pt_cmpR op_notIn_seq (pv 2) (pv 0) (by rfl)) (pw_or1 (pt_cmpR op_notIn_seq (pe_op op_sub pe_int (pv 2)) (pv 1) (by rfl)))))) (pss_one (ps_ret pe_non)) pss_nil)
      (Evl.pss_cut (ps_set (i := 3) scSct.nd rfl (.inr rfl) (pe_callB (St.cr_sortedS rfl) (by rfl) T.z_sorted (by decide +kernel) (pa_cons (pe_callTy (St2.cr_setT rfl) (by rfl) T.z_set (by decide +kernel) (pa_cons (pe_op op_catTN (pv 0) (pv 1)) pa_nil)) pa_nil)))
      (Evl.pss_cut (ps_set (i := 3) scSct.nd rfl (.inr rfl) (pe_lc (own := [("say", 4)]) (g := (gName 4))  rfl scSct.nd (pi_list (pv 3)) (blkOk_by (N := nSct) (sc := defScope sSct) (by decide +kernel)) (fun _ _ _ _ _ => (pg_name (i := 4) scSct.nd rfl (.inl rfl))) (fun _ _ _ _ _ => (pts_one (pt_cmpR op_ne (pe_callB call_abs (by rfl) T.z_abs (by decide +kernel) (pa_cons (pv 4) pa_nil)) (pv 2) (nomark _)))) (fun _ _ _ _ _ => (pv 4))))
      (pss_cons (ps_if (pt_cmpR (op_neD hr.units) (pe_lc (own := [("say", 4)]) (g := (gName 4))  rfl scSct.nd (pi_list (pv 3)) (blkOk_by (N := nSct) (sc := defScope sSct) (by decide +kernel)) (fun _ _ _ _ _ => (pg_name (i := 4) scSct.nd rfl (.inl rfl))) (fun _ _ _ _ _ => (pts_one (pt_cmpR (op_in_seqB (K := K) rfl) (pe_op op_sub pe_int (pv 4)) (pv 3) (by rfl)))) (fun _ _ _ _ _ => (pv 4))) (pe_lstN pa_nil) (nomark _)) (pss_one (ps_ret pe_non)) pss_nil)
      (pss_one (ps_ret (pe_callTy call_tuple_ofN (by rfl) T.z_tuple (by decide +kernel) (pa_cons (pv 3) pa_nil)))))))), ?_⟩
    refine ⟨_, rfl, _, _, rfl, rfl, _, rfl, ite2 (fun y1 => ?_) (fun y1 => ?_)⟩
    · exact q1 H (Same.refl H) (.inl (of_decide_eq_true y1))
    have k1 : 1 ≤ k := by
      have := of_decide_eq_false (Bool.eq_false_iff.mpr y1)
      omega
    refine ⟨_, rfl, _, rfl, a, _, rfl, .inr (.of ha), rfl, ints_flat cs, _, rfl, ite2 (fun y2 => ?_) (fun y2 => ?_)⟩
    · refine q1 H (Same.refl H) (.inr (.inl fun z => ?_))
      have y2 : (!inV (.int k) (cs.map V.int)) = true := y2
      rw [(in_ints k cs).mpr z] at y2
      cases y2
    have kc : k ∈ cs := (in_ints k cs).mp (by
      have y2 : ¬ (!inV (.int k) (cs.map V.int)) = true := y2
      cases e : inV (.int k) (cs.map V.int) with
      | true => rfl
      | false => exact absurd (by rw [e]; rfl) y2)
    refine ⟨_, rfl, _, _, rfl, rfl, _, rfl, b, _, rfl, .inr (.of hb), rfl, ints_flat ds, _, rfl, ite2 (fun y3 => ?_) (fun y3 => ?_)⟩
    · refine q1 H (Same.refl H) (.inr (.inr (.inl fun z => ?_)))
      have y3 : (!inV (.int (0 - k)) (ds.map V.int)) = true := y3
      rw [(in_ints (0 - k) ds).mpr (by rw [show 0 - k = -k by omega]; exact z)] at y3
      cases y3
    have kd : -k ∈ ds := by
      have y3 : ¬ (!inV (.int (0 - k)) (ds.map V.int)) = true := y3
      have e : inV (.int (0 - k)) (ds.map V.int) = true := by
        cases e : inV (.int (0 - k)) (ds.map V.int) with
        | true => rfl
        | false => exact absurd (by rw [e]; rfl) y3
      have := (in_ints (0 - k) ds).mp e
      rw [show 0 - k = -k by omega] at this
      exact this
    clear y1 y2 y3
    refine Evl.q_cut (M := fun σ' H' => ∃ (p : Addr) (es : List Int), σ' = [some (.ref a), some (.ref b), some (.int k), some (.ref p), none] ∧ Same H H' ∧ H' p = some (.lst (es.map V.int)) ∧ es.Pairwise (· < ·) ∧ (∀ j, j ∈ es ↔ (j ∈ cs ∨ j ∈ ds)) ∧ es.length ≤ 40) ?_ ?_
    · refine ⟨_, rfl, _, rfl, a, b, _, _, rfl, rfl, ha, hb, ?_, fun q1 H1 u1 h1 => ?_⟩
      · rw [List.length_map, List.length_map]
        exact Nat.le_trans (by omega : _ ≤ 1000) (by decide)
      rw [← List.map_append] at h1
      refine ⟨q1, _, rfl, .of h1, by rw [List.length_append]; omega, fun r H2 n nr s2 hr' ln => ?_⟩
      rw [List.length_append] at ln
      refine ⟨r, _, n, rfl, hr', by omega, fun es up me le p H3 np s3 hp _ => ?_⟩
      exact ⟨p, es, rfl, (u1.trans s2).trans s3, hp, up, fun j => ((me j).trans decide_eq_true_iff).trans List.mem_append, by omega⟩
    rintro σ' H1 ⟨p, es, rfl, s1, hp, up, me, le⟩
    refine Evl.q_cut (M := fun σ' H' => ∃ p : Addr, σ' = [some (.ref a), some (.ref b), some (.int k), some (.ref p), none] ∧ Same H H' ∧ H' p = some (.lst ((es.filter fun s => !decide (V.int (s.natAbs : Int) = V.int k)).map V.int))) ?_ ?_
    · refine ⟨_, rfl, p, rfl, ⟨_, .of hp⟩, fun D nD => ?_⟩
      refine lc_list (xs := es.map V.int) (Pv := fun i H' => Same H1 H' ∧ H' D = some (.lst (((es.take i).filter fun s => !decide (V.int (s.natAbs : Int) = V.int k)).map V.int))) ⟨same_new nD, upd_same⟩ (fun i H' _ z => .of (z.1 _ _ hp)) ?_ ?_
      · rintro i x H2 hx ⟨s2, hD⟩
        obtain ⟨z, hz, rfl⟩ := at_int hx
        have ft := filt_take (f := fun s : Int => !decide (V.int (s.natAbs : Int) = V.int k)) hz
        have e : (if z < 0 then -z else z) = (z.natAbs : Int) := by
          split <;> omega
        refine ⟨rfl, _, rfl, z, rfl, _, rfl, rfl, _, rfl, ?_⟩
        rw [e]
        refine ite2 (fun y1 => ?_) (fun y1 => ?_)
        · refine ⟨_, rfl, _, hD, ?_, fun c o y => ?_, ?_⟩
          · rw [List.length_map]
            exact small1000 (Nat.le_trans (List.length_filter_le _ _) (by rw [List.length_take]; omega))
          · rw [upd_ne (ne_of_none y nD)]
            exact s2 _ _ y
          · rw [upd_same, ft, if_pos y1, List.map_append]
            rfl
        · refine ⟨s2, ?_⟩
          rw [ft, if_neg y1, List.append_nil]
          exact hD
      · rintro H2 ⟨s2, hD⟩
        rw [List.length_map, List.take_length] at hD
        exact ⟨D, rfl, s1.trans s2, hD⟩
    clear hp
    rintro σ' H2 ⟨p, rfl, s2, hp⟩
    have mf : ∀ j, j ∈ (es.filter fun s => !decide (V.int (s.natAbs : Int) = V.int k)) ↔ Bes cs ds k j := fun j => by
      rw [List.mem_filter, me]
      unfold Bes
      have e : ((!decide (V.int (j.natAbs : Int) = V.int k)) = true) ↔ (j.natAbs : Int) ≠ k := by
        rw [Bool.not_eq_true', decide_eq_false_iff_not]
        exact ⟨fun z y => z (by rw [y]), fun z y => z (V.int.inj y)⟩
      rw [e]
    have uf : (es.filter fun s => !decide (V.int (s.natAbs : Int) = V.int k)).Pairwise (· < ·) := up.filter _
    have lf : (es.filter fun s => !decide (V.int (s.natAbs : Int) = V.int k)).length ≤ 40 := Nat.le_trans (List.length_filter_le _ _) le
    generalize (es.filter fun s => !decide (V.int (s.natAbs : Int) = V.int k)) = fs at hp mf uf lf
    refine ⟨_, rfl, p, rfl, ⟨_, .of hp⟩, fun D nD => ?_⟩
    refine lc_list (xs := fs.map V.int) (Pv := fun i H' => Same H2 H' ∧ H' D = some (.lst (((fs.take i).filter fun s => inV (.int (0 - s)) (fs.map V.int)).map V.int))) ⟨same_new nD, upd_same⟩ (fun i H' _ z => .of (z.1 _ _ hp)) ?_ ?_
    · rintro i x H3 hx ⟨s3, hD⟩
      obtain ⟨z, hz, rfl⟩ := at_int hx
      have ft := filt_take (f := fun s : Int => inV (.int (0 - s)) (fs.map V.int)) hz
      refine ⟨rfl, _, rfl, _, _, rfl, rfl, _, rfl, p, _, rfl, .inl (.of (s3 _ _ hp)), rfl, ints_flat fs, _, rfl, ite2 (fun y1 => ?_) (fun y1 => ?_)⟩
      · have y1 : inV (.int (0 - z)) (fs.map V.int) = true := y1
        refine ⟨_, rfl, _, hD, ?_, fun c o y => ?_, ?_⟩
        · rw [List.length_map]
          exact small1000 (Nat.le_trans (List.length_filter_le _ _) (by rw [List.length_take]; omega))
        · rw [upd_ne (ne_of_none y nD)]
          exact s3 _ _ y
        · rw [upd_same, ft, if_pos y1, List.map_append]
          rfl
      · have y1 : ¬ inV (.int (0 - z)) (fs.map V.int) = true := y1
        refine ⟨s3, ?_⟩
        rw [ft, if_neg y1, List.append_nil]
        exact hD
    rintro H3 ⟨s3, hD⟩
    rw [List.length_map, List.take_length] at hD
    refine ⟨Nat.zero_le _, fun r H4 nr s4 hr4 _ => ?_⟩
    have s24 := s2.trans (s3.trans s4)
    cases hg : (fs.filter fun s => inV (.int (0 - s)) (fs.map V.int)) with
    | nil =>
      rw [hg] at hD
      refine ⟨_, _, .lst (.of (s4 _ _ hD)) .nil, .lst (.of hr4) .nil, rfl, rfl, false, rfl, ?_⟩
      have hp4 := s4 _ _ (s3 _ _ hp)
      refine ⟨_, rfl, p, _, rfl, .of hp4, fun r5 H5 n5 s5 h5 _ => ?_⟩
      refine q2 fs r5 H5 (s24.trans s5) k1 kc kd (fun j hj hn => ?_) uf mf h5
      have z : j ∈ (fs.filter fun s => inV (.int (0 - s)) (fs.map V.int)) := List.mem_filter.mpr ⟨(mf j).mpr hj, (in_ints _ _).mpr (by rw [show 0 - j = -j by omega]; exact (mf _).mpr hn)⟩
      rw [hg] at z
      cases z
    | cons j r' =>
      have z : j ∈ (fs.filter fun s => inV (.int (0 - s)) (fs.map V.int)) := by rw [hg]; exact List.mem_cons_self
      obtain ⟨z1, z2⟩ := List.mem_filter.mp z
      have z3 := (in_ints _ _).mp z2
      rw [show 0 - j = -j by omega] at z3
      rw [hg] at hD
      refine ⟨_, _, .lst (.of (s4 _ _ hD)) (dp_ints (j :: r')), .lst (.of hr4) .nil, shaped_list (flat_ints _), rfl, true, rfl, ?_⟩
      exact q1 H4 s24 (.inr (.inr (.inr ⟨j, (mf j).mp z1, (mf (-j)).mp z3⟩)))
end
end Ct
namespace Ct
open PySem PySem.Spec PyProof.Rows L2 GxR Nw Dr Kp Se
/-! ### what the program cuts and what is cut here agree -/
theorem up_unique : ∀ {xs ys : List Int}, xs.Pairwise (· < ·) → ys.Pairwise (· < ·) → (∀ j, j ∈ xs ↔ j ∈ ys) → xs = ys
  | [], [], _, _, _ => rfl
  | [], y :: r, _, _, h => absurd ((h y).mpr List.mem_cons_self) (by simp)
  | x :: r, [], _, _, h => absurd ((h x).mp List.mem_cons_self) (by simp)
  | x :: r, y :: t, hx, hy, h => by
    obtain ⟨x1, x2⟩ := List.pairwise_cons.mp hx
    obtain ⟨y1, y2⟩ := List.pairwise_cons.mp hy
    have e : x = y := by
      rcases List.mem_cons.mp ((h x).mp List.mem_cons_self) with e | m
      · exact e
      · rcases List.mem_cons.mp ((h y).mpr List.mem_cons_self) with e | m2
        · exact e.symm
        · have := y1 x m
          have := x1 y m2
          omega
    subst e
    rw [up_unique x2 y2 fun j => ⟨fun hj => ?_, fun hj => ?_⟩]
    · rcases List.mem_cons.mp ((h j).mp (List.mem_cons_of_mem _ hj)) with e | m
      · have := x1 j hj
        omega
      · exact m
    · rcases List.mem_cons.mp ((h j).mpr (List.mem_cons_of_mem _ hj)) with e | m
      · have := y1 j hj
        omega
      · exact m
variable {cs ds : List Int} {k : Int}
theorem meet_iff (hc : IsCl cs) : meetB cs ds k = true ↔ 1 ≤ k ∧ k ∈ cs ∧ -k ∈ ds := by
  unfold meetB
  rw [Bool.and_eq_true, Bool.and_eq_true, Bool.and_eq_true, decide_eq_true_iff, decide_eq_true_iff, in_ints, in_ints]
  constructor
  · rintro ⟨⟨⟨h1, _⟩, h2⟩, h3⟩
    exact ⟨h1, h2, h3⟩
  · rintro ⟨h1, h2, h3⟩
    exact ⟨⟨⟨h1, (hc.says k h2).2.2⟩, h2⟩, h3⟩
theorem not_int {a b : Int} : (!decide (V.int a = V.int b)) = true ↔ a ≠ b := by
  rw [Bool.not_eq_true', decide_eq_false_iff_not]
  exact ⟨fun z y => z (by rw [y]), fun z y => z (V.int.inj y)⟩
theorem says_iff (hc : IsCl cs) (hd : IsCl ds) (kc : k ∈ cs) (kd : -k ∈ ds) (k1 : 1 ≤ k) (j : Int) : j ∈ saysB cs ds k ↔ Bes cs ds k j := by
  unfold saysB Bes
  rw [List.mem_append, List.mem_filter, List.mem_filter, not_int, not_int]
  constructor
  · rintro (⟨h1, h2⟩ | ⟨h1, h2⟩)
    · refine ⟨.inl h1, fun z => ?_⟩
      have e : j = -k := by omega
      rw [e] at h1
      exact hc.opp k kc h1
    · refine ⟨.inr h1, fun z => ?_⟩
      have e : j = k := by omega
      rw [e] at h1
      exact hd.opp k h1 kd
  · rintro ⟨h1 | h1, h2⟩
    · exact .inl ⟨h1, by omega⟩
    · exact .inr ⟨h1, by omega⟩
theorem opp_iff (ns : List Int) (nz : ∀ j ∈ ns, j ≠ 0) : oppB ns = true ↔ ∃ j, j ∈ ns ∧ -j ∈ ns := by
  unfold oppB
  rw [List.any_eq_true]
  constructor
  · rintro ⟨j, hj, h⟩
    rw [Bool.and_eq_true, in_ints] at h
    exact ⟨j, hj, h.2⟩
  · rintro ⟨j, h1, h2⟩
    have := nz j h1
    by_cases p : 0 < j
    · exact ⟨j, h1, by rw [Bool.and_eq_true, in_ints, decide_eq_true_iff]; exact ⟨p, h2⟩⟩
    · exact ⟨-j, h2, by rw [Bool.and_eq_true, in_ints, decide_eq_true_iff, Int.neg_neg]; exact ⟨by omega, h1⟩⟩
/-- the cut of two claims: what comes, if anything -/
def Comes (cs ds : List Int) (k : Int) (ns : List Int) : Prop := 1 ≤ k ∧ k ∈ cs ∧ -k ∈ ds ∧ (∀ j, Bes cs ds k j → ¬ Bes cs ds k (-j)) ∧ ns.Pairwise (· < ·) ∧ ∀ j, j ∈ ns ↔ Bes cs ds k j
def NoCome (cs ds : List Int) (k : Int) : Prop := k < 1 ∨ k ∉ cs ∨ -k ∉ ds ∨ ∃ j, Bes cs ds k j ∧ Bes cs ds k (-j)
theorem Comes.one {ns ms : List Int} (a : Comes cs ds k ns) (b : Comes cs ds k ms) : ns = ms := up_unique a.2.2.2.2.1 b.2.2.2.2.1 fun j => (a.2.2.2.2.2 j).trans (b.2.2.2.2.2 j).symm
theorem Comes.no {ns : List Int} (a : Comes cs ds k ns) (b : NoCome cs ds k) : False := by
  obtain ⟨a1, a2, a3, a4, _⟩ := a
  rcases b with b | b | b | ⟨j, b1, b2⟩
  · omega
  · exact b a2
  · exact b a3
  · exact a4 j b1 b2
theorem comes_of (hc : IsCl cs) (hd : IsCl ds) {ns : List Int} (m : meetB cs ds k = true) (o : oppB (saysB cs ds k) = false) (up : ns.Pairwise (· < ·)) (me : ∀ j, j ∈ ns ↔ j ∈ saysB cs ds k) : Comes cs ds k ns := by
  obtain ⟨k1, kc, kd⟩ := (meet_iff hc).mp m
  have sb := says_iff hc hd kc kd k1
  refine ⟨k1, kc, kd, fun j h1 h2 => ?_, up, fun j => (me j).trans (sb j)⟩
  have nz : ∀ j ∈ saysB cs ds k, j ≠ 0 := fun j hj => by
    rcases ((sb j).mp hj).1 with h | h
    · exact (hc.says j h).1
    · exact (hd.says j h).1
  have := (opp_iff _ nz).mpr ⟨j, (sb j).mpr h1, (sb _).mpr h2⟩
  rw [o] at this
  cases this
theorem nocome_of (hc : IsCl cs) (hd : IsCl ds) (h : meetB cs ds k = false ∨ oppB (saysB cs ds k) = true) : NoCome cs ds k := by
  by_cases k1 : 1 ≤ k
  · by_cases kc : k ∈ cs
    · by_cases kd : -k ∈ ds
      · have m := (meet_iff (ds := ds) hc).mpr ⟨k1, kc, kd⟩
        rcases h with h | h
        · rw [m] at h
          cases h
        · have sb := says_iff hc hd kc kd k1
          have nz : ∀ j ∈ saysB cs ds k, j ≠ 0 := fun j hj => by
            rcases ((sb j).mp hj).1 with h | h
            · exact (hc.says j h).1
            · exact (hd.says j h).1
          obtain ⟨j, h1, h2⟩ := (opp_iff _ nz).mp h
          exact .inr (.inr (.inr ⟨j, (sb j).mp h1, (sb _).mp h2⟩))
      · exact .inr (.inr (.inl kd))
    · exact .inr (.inl kc)
  · exact .inl (by omega)
end Ct
namespace Od
open PySem PySem.Spec PyProof.Rows L2 GxR Nw Dr Kp
/-! ### anything: values by their data; no list among them is one of f -/
mutual
inductive OdV (f : Addr → Prop) (H : Hp) : V → PyData → Prop
  | non : OdV f H .non .none
  | bl (b : Bool) : OdV f H (.bl b) (.bool b)
  | int (i : Int) : OdV f H (.int i) (.int i)
  | str (x : Str) : OdV f H (.str x) (.str x)
  | lst {a : Addr} {xs : List V} {ds : List PyData} : H a = some (.lst xs) → ¬ f a → OdAll f H xs ds → OdV f H (.ref a) (.list ds)
  | tup {a : Addr} {xs : List V} {ds : List PyData} : H a = some (.tup xs) → OdAll f H xs ds → OdV f H (.ref a) (.tuple ds)
inductive OdAll (f : Addr → Prop) (H : Hp) : List V → List PyData → Prop
  | nil : OdAll f H [] []
  | cons {v : V} {vs : List V} {d : PyData} {ds : List PyData} : OdV f H v d → OdAll f H vs ds → OdAll f H (v :: vs) (d :: ds)
end
variable {f : Addr → Prop} {H H' : Hp}
mutual
theorem OdV.dp {K : PySem.W.Frag} : ∀ {d : PyData} {v : V}, OdV f H v d → Dp K H v d
  | .none, _, h => by cases h; exact .non
  | .bool _, _, h => by cases h; exact .bl _
  | .int _, _, h => by cases h; exact .int _
  | .str _, _, h => by cases h; exact .str _
  | .list ds, _, h => by cases h with | lst h1 _ h2 => exact .lst (.of h1) (OdAll.dp h2)
  | .tuple ds, _, h => by cases h with | tup h1 h2 => exact .tup (.of h1) (OdAll.dp h2)
  | .dict _, _, h => by cases h
theorem OdAll.dp {K : PySem.W.Frag} : ∀ {ds : List PyData} {vs : List V}, OdAll f H vs ds → DpAll K H vs ds
  | [], _, h => by cases h; exact .nil
  | d :: ds, _, h => by cases h with | cons h1 h2 => exact .cons (OdV.dp h1) (OdAll.dp h2)
end
mutual
theorem OdV.ke (k : Ke f H H') : ∀ {d : PyData} {v : V}, OdV f H v d → OdV f H' v d
  | .none, _, h => by cases h; exact .non
  | .bool _, _, h => by cases h; exact .bl _
  | .int _, _, h => by cases h; exact .int _
  | .str _, _, h => by cases h; exact .str _
  | .list ds, _, h => by cases h with | lst h1 n h2 => exact .lst (k.lst h1 n) n (OdAll.ke k h2)
  | .tuple ds, _, h => by cases h with | tup h1 h2 => exact .tup (k.tups _ _ h1) (OdAll.ke k h2)
  | .dict _, _, h => by cases h
theorem OdAll.ke (k : Ke f H H') : ∀ {ds : List PyData} {vs : List V}, OdAll f H vs ds → OdAll f H' vs ds
  | [], _, h => by cases h; exact .nil
  | d :: ds, _, h => by cases h with | cons h1 h2 => exact .cons (OdV.ke k h1) (OdAll.ke k h2)
end
theorem OdAll.len : ∀ {vs : List V} {ds : List PyData}, OdAll f H vs ds → vs.length = ds.length
  | [], _, h => by cases h; rfl
  | v :: vs, _, h => by cases h with | cons h1 h2 => rw [List.length_cons, List.length_cons, OdAll.len h2]
theorem OdAll.at : ∀ {vs : List V} {ds : List PyData} {i : Nat} {v : V}, OdAll f H vs ds → vs[i]? = some v → ∃ d, ds[i]? = some d ∧ OdV f H v d
  | [], _, _, _, _, e => by simp at e
  | v :: vs, _, 0, _, h, e => by
    cases h with
    | cons h1 h2 =>
      cases e
      exact ⟨_, rfl, h1⟩
  | v :: vs, _, i + 1, _, h, e => by
    cases h with
    | cons h1 h2 => exact OdAll.at (vs := vs) (i := i) h2 (by simpa using e)
theorem OdAll.cat : ∀ {vs us : List V} {ds es : List PyData}, OdAll f H vs ds → OdAll f H us es → OdAll f H (vs ++ us) (ds ++ es)
  | [], _, _, _, h, g => by cases h; exact g
  | v :: vs, _, _, _, h, g => by cases h with | cons h1 h2 => exact .cons h1 (OdAll.cat h2 g)
theorem OdAll.one {v : V} {d : PyData} (h : OdV f H v d) : OdAll f H [v] [d] := .cons h .nil
theorem OdAll.take : ∀ {vs : List V} {ds : List PyData} (n : Nat), OdAll f H vs ds → OdAll f H (vs.take n) (ds.take n)
  | _, _, 0, _ => by rw [List.take_zero, List.take_zero]; exact .nil
  | [], _, n + 1, h => by cases h; exact .nil
  | v :: vs, _, n + 1, h => by cases h with | cons h1 h2 => exact .cons h1 (OdAll.take n h2)
theorem OdAll.drop : ∀ {vs : List V} {ds : List PyData} (n : Nat), OdAll f H vs ds → OdAll f H (vs.drop n) (ds.drop n)
  | _, _, 0, h => by rw [List.drop_zero, List.drop_zero]; exact h
  | [], _, n + 1, h => by cases h; exact .nil
  | v :: vs, _, n + 1, h => by cases h with | cons h1 h2 => exact OdAll.drop n h2
theorem OdAll.rev : ∀ {vs : List V} {ds : List PyData}, OdAll f H vs ds → OdAll f H vs.reverse ds.reverse
  | [], _, h => by cases h; exact .nil
  | v :: vs, _, h => by
    cases h with
    | cons h1 h2 =>
      rw [List.reverse_cons, List.reverse_cons]
      exact (OdAll.rev h2).cat (.one h1)
theorem od_ints : ∀ ns : List Int, OdAll f H (ns.map V.int) (ns.map PyData.int)
  | [] => .nil
  | n :: r => .cons (.int n) (od_ints r)
/-! ### what anything is -/
def tyD : PyData → String
  | .none => "NoneType" | .bool _ => "bool" | .int _ => "int" | .str _ => "str" | .list _ => "list" | .tuple _ => "tuple" | .dict _ => "dict"
theorem OdV.ty {K : PySem.W.Frag} {d : PyData} {v : V} (h : OdV f H v d) : TyX K H v (.type (tyD d)) := by
  cases h with
  | non => exact .base .non
  | bl b => exact .base (.bl b)
  | int i => exact .base (.int i)
  | str x => exact .base (.str x)
  | lst h1 _ _ => exact .base (.lst h1)
  | tup h1 _ => exact .base (.tup h1)
def whD : PyData → Bool
  | .int _ => true
  | _ => false
def tuD : PyData → Bool
  | .tuple _ => true
  | _ => false
def numD : PyData → Int → Bool
  | .int n, m => decide (0 ≤ n) && decide (n < m)
  | _, _ => false
/-! ### small data, to be shown -/
structure Sm (B : Nat) (d : PyData) : Prop where
  sh : d.showable = true
  nd : d.hasDict = false
  dp : d.depth ≤ 6
  sz : d.shown.length ≤ B
structure SmAll (B : Nat) (ds : List PyData) : Prop where
  sh : PyData.showableAll ds = true
  nd : PyData.hasDictAll ds = false
  dp : PyData.depthAll ds ≤ 5
  sz : ∀ x ∈ PyData.shownAll ds, x.length ≤ B
theorem SmAll.nil {B : Nat} : SmAll B [] := ⟨rfl, rfl, by decide, fun _ h => nomatch h⟩
theorem SmAll.cons {B : Nat} {d : PyData} {ds : List PyData} (h : Sm B d) (h5 : d.depth ≤ 5) (t : SmAll B ds) : SmAll B (d :: ds) := by
  refine ⟨?_, ?_, ?_, fun x hx => ?_⟩
  · show (PyData.showable d && PyData.showableAll ds) = true
    rw [h.sh, t.sh]
    rfl
  · show (PyData.hasDict d || PyData.hasDictAll ds) = false
    rw [h.nd, t.nd]
    rfl
  · exact Nat.max_le.mpr ⟨h5, t.dp⟩
  · rcases List.mem_cons.mp hx with e | e
    · rw [e]
      exact h.sz
    · exact t.sz x e
theorem shownAll_len : ∀ ds : List PyData, (PyData.shownAll ds).length = ds.length
  | [] => rfl
  | _ :: r => congrArg (· + 1) (shownAll_len r)
theorem sum_le {B : Nat} : ∀ {l : List Nat}, (∀ x ∈ l, x ≤ B) → l.sum ≤ B * l.length
  | [], _ => Nat.zero_le _
  | x :: r, h => by
    have h1 := h x List.mem_cons_self
    have h2 := sum_le (l := r) fun y hy => h y (List.mem_cons_of_mem _ hy)
    rw [List.sum_cons, List.length_cons, Nat.mul_add]
    omega
theorem SmAll.sum {B : Nat} {ds : List PyData} (h : SmAll B ds) : ((PyData.shownAll ds).map (·.length)).sum ≤ B * ds.length := by
  have := sum_le (B := B) (l := (PyData.shownAll ds).map (·.length)) fun x hx => by
    obtain ⟨y, hy, rfl⟩ := List.mem_map.mp hx
    exact h.sz y hy
  rw [List.length_map, shownAll_len] at this
  exact this
theorem SmAll.list {B n B' : Nat} {ds : List PyData} (h : SmAll B ds) (l : ds.length ≤ n) (hb : B * n + 2 * n + 3 ≤ B') : Sm B' (.list ds) := by
  have e := listText_len_le (PyData.shownAll ds)
  have s := h.sum
  rw [shownAll_len] at e
  have m : B * ds.length ≤ B * n := Nat.mul_le_mul_left _ l
  exact ⟨h.sh, h.nd, by show PyData.depthAll ds + 1 ≤ 6; have := h.dp; omega, by show (listText (PyData.shownAll ds)).length ≤ B'; omega⟩
theorem SmAll.tuple {B n B' : Nat} {ds : List PyData} (h : SmAll B ds) (l : ds.length ≤ n) (hb : B * n + 2 * n + 3 ≤ B') : Sm B' (.tuple ds) := by
  have e := tupleText_len_le (PyData.shownAll ds)
  have s := h.sum
  rw [shownAll_len] at e
  have m : B * ds.length ≤ B * n := Nat.mul_le_mul_left _ l
  exact ⟨h.sh, h.nd, by show PyData.depthAll ds + 1 ≤ 6; have := h.dp; omega, by show (tupleText (PyData.shownAll ds)).length ≤ B'; omega⟩
theorem SmAll.cat {B : Nat} : ∀ {ds es : List PyData}, SmAll B ds → SmAll B es → SmAll B (ds ++ es)
  | [], _, _, g => g
  | d :: r, es, h, g => by
    have hs := h.sh
    have hn := h.nd
    have hd := h.dp
    have hz := h.sz
    have hs' : (PyData.showable d && PyData.showableAll r) = true := hs
    have hn' : (PyData.hasDict d || PyData.hasDictAll r) = false := hn
    rw [Bool.and_eq_true] at hs'
    rw [Bool.or_eq_false_iff] at hn'
    have hd' : Nat.max (PyData.depth d) (PyData.depthAll r) ≤ 5 := hd
    have z := Nat.max_le.mp hd'
    have hr : SmAll B r := ⟨hs'.2, hn'.2, z.2, fun x hx => hz x (List.mem_cons_of_mem _ hx)⟩
    exact SmAll.cons ⟨hs'.1, hn'.1, by omega, hz _ List.mem_cons_self⟩ z.1 (SmAll.cat hr g)
theorem SmAll.of {B : Nat} : ∀ {ds : List PyData}, (∀ d ∈ ds, Sm B d ∧ d.depth ≤ 5) → SmAll B ds
  | [], _ => .nil
  | d :: r, h => SmAll.cons (h d List.mem_cons_self).1 (h d List.mem_cons_self).2 (SmAll.of fun x hx => h x (List.mem_cons_of_mem _ hx))
theorem SmAll.mem {B : Nat} : ∀ {ds : List PyData}, SmAll B ds → ∀ d ∈ ds, Sm B d ∧ d.depth ≤ 5
  | [], _, d, hd => nomatch hd
  | e :: r, h, d, hd => by
    have hs' : (PyData.showable e && PyData.showableAll r) = true := h.sh
    have hn' : (PyData.hasDict e || PyData.hasDictAll r) = false := h.nd
    rw [Bool.and_eq_true] at hs'
    rw [Bool.or_eq_false_iff] at hn'
    have hd' : Nat.max (PyData.depth e) (PyData.depthAll r) ≤ 5 := h.dp
    have z := Nat.max_le.mp hd'
    rcases List.mem_cons.mp hd with u | u
    · rw [u]
      exact ⟨⟨hs'.1, hn'.1, by omega, h.sz _ List.mem_cons_self⟩, z.1⟩
    · exact SmAll.mem (ds := r) ⟨hs'.2, hn'.2, z.2, fun x hx => h.sz x (List.mem_cons_of_mem _ hx)⟩ d u
theorem Sm.mono {B B' : Nat} {d : PyData} (h : Sm B d) (l : B ≤ B') : Sm B' d := ⟨h.sh, h.nd, h.dp, Nat.le_trans h.sz l⟩
theorem small_ints : ∀ n : Fin 130, PyData.showable (.int ((n.val : Int) - 60)) = true ∧ (PyData.shown (.int ((n.val : Int) - 60))).length ≤ 3 := by decide +kernel
theorem sm_int {n : Int} (h0 : -60 ≤ n) (h1 : n < 70) : Sm 3 (.int n) := by
  have := small_ints ⟨(n + 60).toNat, by omega⟩
  rw [show (((n + 60).toNat : Nat) : Int) - 60 = n by omega] at this
  exact ⟨this.1, rfl, by show 0 ≤ 6; decide, this.2⟩
theorem OdV.un {g : Addr → Prop} (h : ∀ a, g a → f a) : ∀ {d : PyData} {v : V}, OdV f H v d → OdV g H v d := fun {d v} => OdV.rec (motive_1 := fun v d _ => OdV g H v d) (motive_2 := fun vs ds _ => OdAll g H vs ds) .non .bl .int .str (fun h1 n _ ih => .lst h1 (fun z => n (h _ z)) ih) (fun h1 _ ih => .tup h1 ih) .nil (fun _ _ i1 i2 => .cons i1 i2)
theorem OdAll.un {g : Addr → Prop} (h : ∀ a, g a → f a) : ∀ {ds : List PyData} {vs : List V}, OdAll f H vs ds → OdAll g H vs ds
  | [], _, x => by cases x; exact .nil
  | _ :: _, _, x => by cases x with | cons h1 h2 => exact .cons (OdV.un h h1) (OdAll.un h h2)
end Od
namespace Lr
open PySem PySem.Spec PyProof.Rows L2 GxR Nw Dr Kp Ct
/-! ### rows, ladders, their claims -/
inductive Rw where
  | book (n : Nat)
  | cut (i j : Nat) (k : Int)
/-- the row's parts -/
def Rw.vs : Rw → List V
  | .book n => [.str "book", .int (n : Nat)]
  | .cut i j k => [.str "cut", .int (i : Nat), .int (j : Nat), .int k]
def RowAt (H : Hp) (v : V) (r : Rw) : Prop := ∃ a, v = .ref a ∧ H a = some (.tup r.vs)
variable {F : Addr → Prop} {H H' : Hp}
theorem RowAt.ke {v : V} {r : Rw} (h : RowAt H v r) (k : Ke F H H') : RowAt H' v r := by
  obtain ⟨a, e, h⟩ := h
  exact ⟨a, e, k.tups _ _ h⟩
/-- items told one by one -/
def All2 {α β : Type} (R : α → β → Prop) (xs : List α) (ys : List β) : Prop := xs.length = ys.length ∧ ∀ (i : Nat) (x : α) (y : β), xs[i]? = some x → ys[i]? = some y → R x y
theorem All2.imp {α β : Type} {R S : α → β → Prop} {xs : List α} {ys : List β} (h : All2 R xs ys) (f : ∀ x y, R x y → S x y) : All2 S xs ys := ⟨h.1, fun i x y h1 h2 => f x y (h.2 i x y h1 h2)⟩
theorem All2.nil {α β : Type} {R : α → β → Prop} : All2 R ([] : List α) ([] : List β) := ⟨rfl, fun i x y h => by cases h⟩
theorem All2.snoc {α β : Type} {R : α → β → Prop} {xs : List α} {ys : List β} {x : α} {y : β} (h : All2 R xs ys) (r : R x y) : All2 R (xs ++ [x]) (ys ++ [y]) := by
  refine ⟨by rw [List.length_append, List.length_append, h.1]; rfl, fun i x' y' h1 h2 => ?_⟩
  by_cases hi : i < xs.length
  · rw [List.getElem?_append_left hi] at h1
    rw [List.getElem?_append_left (by rw [← h.1]; exact hi)] at h2
    exact h.2 i x' y' h1 h2
  · have e : i = xs.length := by
      have := (List.getElem?_eq_some_iff.mp h1).1
      rw [List.length_append, List.length_singleton] at this
      omega
    subst e
    rw [List.getElem?_append_right (Nat.le_refl _), Nat.sub_self] at h1
    rw [List.getElem?_append_right (by rw [h.1]; exact Nat.le_refl _), show xs.length - ys.length = 0 by rw [h.1]; exact Nat.sub_self _] at h2
    cases h1
    cases h2
    exact r
theorem All2.cat {α β : Type} {R : α → β → Prop} {xs us : List α} {ys ws : List β} (h : All2 R xs ys) (g : All2 R us ws) : All2 R (xs ++ us) (ys ++ ws) := by
  refine ⟨by rw [List.length_append, List.length_append, h.1, g.1], fun i x y h1 h2 => ?_⟩
  by_cases hi : i < xs.length
  · rw [List.getElem?_append_left hi] at h1
    rw [List.getElem?_append_left (by rw [← h.1]; exact hi)] at h2
    exact h.2 i x y h1 h2
  · rw [List.getElem?_append_right (by omega)] at h1
    rw [List.getElem?_append_right (by rw [← h.1]; omega), ← h.1] at h2
    exact g.2 _ x y h1 h2
theorem All2.take {α β : Type} {R : α → β → Prop} {xs : List α} {ys : List β} (h : All2 R xs ys) (n : Nat) : All2 R (xs.take n) (ys.take n) := by
  refine ⟨by rw [List.length_take, List.length_take, h.1], fun i x y h1 h2 => ?_⟩
  rw [List.getElem?_take] at h1 h2
  by_cases l : i < n
  · rw [if_pos l] at h1 h2
    exact h.2 i x y h1 h2
  · rw [if_neg l] at h1
    cases h1
theorem All2.at {α β : Type} {R : α → β → Prop} {xs : List α} {ys : List β} (h : All2 R xs ys) {i : Nat} {x : α} (e : xs[i]? = some x) : ∃ y, ys[i]? = some y ∧ R x y := by
  have l := (List.getElem?_eq_some_iff.mp e).1
  have l2 : i < ys.length := by rw [← h.1]; exact l
  exact ⟨ys[i], List.getElem?_eq_getElem l2, h.2 i x _ e (List.getElem?_eq_getElem l2)⟩
theorem All2.atR {α β : Type} {R : α → β → Prop} {xs : List α} {ys : List β} (h : All2 R xs ys) {i : Nat} {y : β} (e : ys[i]? = some y) : ∃ x, xs[i]? = some x ∧ R x y := by
  have l := (List.getElem?_eq_some_iff.mp e).1
  have l2 : i < xs.length := by rw [h.1]; exact l
  exact ⟨xs[i], List.getElem?_eq_getElem l2, h.2 i _ y (List.getElem?_eq_getElem l2) e⟩
/-- a list of claims, a list of rows -/
def ClL (H : Hp) (L : Addr) (cls : List (List Int)) : Prop := ∃ vs, H L = some (.lst vs) ∧ All2 (TupI H) vs cls
def RwL (H : Hp) (L : Addr) (rows : List Rw) : Prop := ∃ vs, H L = some (.lst vs) ∧ All2 (RowAt H) vs rows
theorem ClL.ke {L : Addr} {cls : List (List Int)} (h : ClL H L cls) (k : Ke F H H') (n : ¬ F L) : ClL H' L cls := by
  obtain ⟨vs, h1, h2⟩ := h
  exact ⟨vs, k.lst h1 n, h2.imp fun x y r => r.ke k⟩
theorem RwL.ke {L : Addr} {rows : List Rw} (h : RwL H L rows) (k : Ke F H H') (n : ¬ F L) : RwL H' L rows := by
  obtain ⟨vs, h1, h2⟩ := h
  exact ⟨vs, k.lst h1 n, h2.imp fun x y r => r.ke k⟩
theorem bk_all {v : V} {css : List (List Int)} (h : Bk H v css) : ∃ a vs, v = .ref a ∧ H a = some (.tup vs) ∧ All2 (TupI H) vs css := by
  obtain ⟨a, vs, e, h, l, t⟩ := h
  exact ⟨a, vs, e, h, l, t⟩
/-- the claim of a row behind rows with the claims cls -/
def RowCl (css cls : List (List Int)) : Rw → List Int → Prop
  | .book n, c => css[n]? = some c
  | .cut i j k, c => ∃ x y, cls[i]? = some x ∧ cls[j]? = some y ∧ Comes x y k c
/-- a ladder by the book, with its claims -/
def Lad (css : List (List Int)) (rows : List Rw) (cls : List (List Int)) : Prop := rows.length = cls.length ∧ ∀ (i : Nat) (r : Rw) (c : List Int), rows[i]? = some r → cls[i]? = some c → RowCl css (cls.take i) r c
theorem Lad.nil (css : List (List Int)) : Lad css [] [] := ⟨rfl, fun i r c h => by cases h⟩
theorem Lad.snoc {css cls : List (List Int)} {rows : List Rw} {r : Rw} {c : List Int} (h : Lad css rows cls) (hr : RowCl css cls r c) : Lad css (rows ++ [r]) (cls ++ [c]) := by
  refine ⟨by rw [List.length_append, List.length_append, h.1]; rfl, fun i r' c' h1 h2 => ?_⟩
  by_cases hi : i < rows.length
  · rw [List.getElem?_append_left hi] at h1
    rw [List.getElem?_append_left (by rw [← h.1]; exact hi)] at h2
    rw [List.take_append_of_le_length (by have := h.1; omega)]
    exact h.2 i r' c' h1 h2
  · have e : i = rows.length := by
      have := (List.getElem?_eq_some_iff.mp h1).1
      rw [List.length_append, List.length_singleton] at this
      omega
    subst e
    rw [List.getElem?_append_right (Nat.le_refl _), Nat.sub_self] at h1
    rw [List.getElem?_append_right (by rw [h.1]; exact Nat.le_refl _), show rows.length - cls.length = 0 by rw [h.1]; exact Nat.sub_self _] at h2
    cases h1
    cases h2
    rw [h.1, List.take_append_of_le_length (Nat.le_refl _), List.take_length]
    exact hr
theorem Lad.take {css cls : List (List Int)} {rows : List Rw} (h : Lad css rows cls) (n : Nat) : Lad css (rows.take n) (cls.take n) := by
  refine ⟨by rw [List.length_take, List.length_take, h.1], fun i r c h1 h2 => ?_⟩
  rw [List.getElem?_take] at h1 h2
  by_cases l : i < n
  · rw [if_pos l] at h1 h2
    rw [List.take_take, Nat.min_eq_left (by omega)]
    exact h.2 i r c h1 h2
  · rw [if_neg l] at h1
    cases h1
/-- what any two tellings of a row's claim tell is one -/
theorem RowCl.one {css cls : List (List Int)} {r : Rw} {c d : List Int} (a : RowCl css cls r c) (b : RowCl css cls r d) : c = d := by
  cases r with
  | book n => exact Option.some.inj (a.symm.trans b)
  | cut i j k =>
    obtain ⟨x, y, h1, h2, h3⟩ := a
    obtain ⟨x', y', h1', h2', h3'⟩ := b
    cases h1.symm.trans h1'
    cases h2.symm.trans h2'
    exact h3.one h3'
theorem RowCl.parts {css cls : List (List Int)} {i j : Nat} {k : Int} {c : List Int} (a : RowCl css cls (.cut i j k) c) : i < cls.length ∧ j < cls.length := by
  obtain ⟨x, y, h1, h2, _⟩ := a
  exact ⟨(List.getElem?_eq_some_iff.mp h1).1, (List.getElem?_eq_some_iff.mp h2).1⟩
theorem len_sub : ∀ (l m : List Int), l.Nodup → (∀ x ∈ l, x ∈ m) → l.length ≤ m.length
  | [], _, _, _ => Nat.zero_le _
  | x :: r, m, nd, h => by
    obtain ⟨h1, h2⟩ := List.nodup_cons.mp nd
    have ih := len_sub r (m.erase x) h2 fun y hy => (List.mem_erase_of_ne (fun e => h1 (by rw [← e]; exact hy))).mpr (h y (List.mem_cons_of_mem _ hy))
    have e := List.length_erase_of_mem (h x List.mem_cons_self)
    have p := List.length_pos_of_mem (h x List.mem_cons_self)
    rw [List.length_cons]
    omega
/-- rising, from -8 to 8, not 0, none opposite: a claim -/
theorem cl_mk {ns : List Int} (up : ns.Pairwise (· < ·)) (says : ∀ k ∈ ns, k ≠ 0 ∧ -8 ≤ k ∧ k ≤ 8) (opp : ∀ k ∈ ns, -k ∉ ns) : IsCl ns := by
  refine ⟨up, says, opp, ?_⟩
  have nd : (ns.map fun s => (s.natAbs : Int)).Nodup := List.pairwise_map.mpr (up.imp_of_mem fun {a b} ha hb hab e => by
    have : a = b ∨ a = -b := by omega
    rcases this with z | z
    · omega
    · have e2 : -b = a := by omega
      exact opp b hb (by rw [e2]; exact ha))
  have := len_sub _ [1, 2, 3, 4, 5, 6, 7, 8] nd fun x hx => by
    obtain ⟨s, hs, rfl⟩ := List.mem_map.mp hx
    have := says s hs
    simp only [List.mem_cons, List.not_mem_nil, or_false]
    omega
  rw [List.length_map] at this
  exact this
theorem cl_comes {cs ds ns : List Int} {k : Int} (hc : IsCl cs) (hd : IsCl ds) (h : Comes cs ds k ns) : IsCl ns := by
  obtain ⟨_, _, _, no, up, me⟩ := h
  refine cl_mk up (fun j hj => ?_) fun j hj hn => no j ((me j).mp hj) ((me (-j)).mp hn)
  rcases ((me j).mp hj).1 with z | z
  · exact hc.says j z
  · exact hd.says j z
theorem RowCl.isCl {css cls : List (List Int)} {r : Rw} {c : List Int} (hb : ∀ c ∈ css, IsCl c) (hc : ∀ c ∈ cls, IsCl c) (h : RowCl css cls r c) : IsCl c := by
  cases r with
  | book n => exact hb c (List.mem_of_getElem? h)
  | cut i j k =>
    obtain ⟨x, y, h1, h2, h3⟩ := h
    exact cl_comes (hc x (List.mem_of_getElem? h1)) (hc y (List.mem_of_getElem? h2)) h3
theorem Lad.isCl {css cls : List (List Int)} {rows : List Rw} (hb : ∀ c ∈ css, IsCl c) (h : Lad css rows cls) : ∀ c ∈ cls, IsCl c := by
  have key : ∀ n, n ≤ cls.length → ∀ c ∈ cls.take n, IsCl c := by
    intro n
    induction n with
    | zero => exact fun _ c hc => by simp at hc
    | succ n ih =>
      intro hn c hc
      rw [List.take_add_one] at hc
      rcases List.mem_append.mp hc with hc | hc
      · exact ih (by omega) c hc
      · have ln : n < cls.length := by omega
        have lr : n < rows.length := by rw [h.1]; exact ln
        rw [List.getElem?_eq_getElem ln] at hc
        obtain rfl : c = cls[n] := List.mem_singleton.mp hc
        exact (h.2 n rows[n] cls[n] (List.getElem?_eq_getElem lr) (List.getElem?_eq_getElem ln)).isCl hb (ih (by omega))
  have := key cls.length (Nat.le_refl _)
  rwa [List.take_length] at this
/-! ### min, max of a tuple of two whole numbers -/
section
variable {X : Cx}
def rT2 (K : PySem.W.Frag) (f : Int → Int → Int) : List V → Hp → VK → Prop := fun vs H Q => ∃ (a : Addr) (i j : Int), vs = [V.ref a] ∧ SqT K H a [.int i, .int j] ∧ Q (.int (f i j)) H
theorem two_of {its : List Value} {i j : Int} (r : Vals [V.int i, V.int j] its) : IntsAre its [i, j] := by
  obtain ⟨t, u, rfl⟩ := Vals.int2 r
  exact .cons _ _ (.cons _ _ .nil)
theorem cr_minT (hc : X.calm = true) (hu : X.A.units + 70 < cLine) : CallR X (.builtin "min") (rT2 X.K fun i j => if j < i then j else i) := by
  intro pins s σ H vs us Q I r h
  obtain ⟨a, i, j, rfl, hs, q⟩ := h
  obtain ⟨its, rv, hl, _⟩ := I.tuple hs
  rw [Vals.ref1 r]
  refine PySem.W.min_tuple_datum (α := Int) (x := i) (xs := [j]) (I.ok.hd hc) hl (PySem.W.HoldAll.of_ints (two_of rv)) (by show X.A.units + 1 + 0 < cLine; omega) fun n v h' tk hv hh hk => ?_
  have e : PySem.W.minOf i [j] = if j < i then j else i := by
    show (if decide (j < i) = true then j else i) = _
    by_cases z : j < i
    · rw [if_pos z, if_pos (decide_eq_true z)]
    · rw [if_neg z, if_neg (by rw [decide_eq_false z]; exact Bool.false_ne_true)]
  rw [e] at hh
  obtain ⟨as, hh⟩ := hh
  cases hh
  exact ⟨.int _, H, I.kept hk, ⟨_, rfl⟩, q⟩
theorem cr_maxT (hc : X.calm = true) (hu : X.A.units + 70 < cLine) : CallR X (.builtin "max") (rT2 X.K fun i j => if i < j then j else i) := by
  intro pins s σ H vs us Q I r h
  obtain ⟨a, i, j, rfl, hs, q⟩ := h
  obtain ⟨its, rv, hl, _⟩ := I.tuple hs
  rw [Vals.ref1 r]
  refine PySem.W.max_tuple_datum (α := Int) (x := i) (xs := [j]) (I.ok.hd hc) hl (PySem.W.HoldAll.of_ints (two_of rv)) (by show X.A.units + 1 + 0 < cLine; omega) fun n v h' tk hv hh hk => ?_
  have e : PySem.W.maxOf i [j] = if i < j then j else i := by
    show (if decide (i < j) = true then j else i) = _
    by_cases z : i < j
    · rw [if_pos z, if_pos (decide_eq_true z)]
    · rw [if_neg z, if_neg (by rw [decide_eq_false z]; exact Bool.false_ne_true)]
  rw [e] at hh
  obtain ⟨as, hh⟩ := hh
  cases hh
  exact ⟨.int _, H, I.kept hk, ⟨_, rfl⟩, q⟩
end
end Lr
namespace Lp
open PySem PySem.Spec PyProof.Rows L2 GxR Nw Dr Kp Se Ct Lr
structure Zp (mg : Str → Option Value) : Prop where
  z_len : mg "len" = none
  z_isinstance : mg "isinstance" = none
  z_tuple : mg "tuple" = none
  z_list : mg "list" = none
  z_max : mg "max" = none
theorem TupI.wr {H : Hp} {D : Addr} {x : V} {ns : List Int} {ys : List V} {o : HO} (h : TupI H x ns) (hD : H D = some (.lst ys)) : TupI (upd H D o) x ns := by
  obtain ⟨a, e, h⟩ := h
  refine ⟨a, e, ?_⟩
  rw [upd_ne (fun z => by rw [z, hD] at h; cases h)]
  exact h
theorem RowAt.wr {H : Hp} {D : Addr} {x : V} {r : Rw} {ys : List V} {o : HO} (h : RowAt H x r) (hD : H D = some (.lst ys)) : RowAt (upd H D o) x r := by
  obtain ⟨a, e, h⟩ := h
  refine ⟨a, e, ?_⟩
  rw [upd_ne (fun z => by rw [z, hD] at h; cases h)]
  exact h
theorem cl_snoc {H : Hp} {D : Addr} {vs : List V} {cls : List (List Int)} {x : V} {c : List Int} (hD : H D = some (.lst vs)) (h : All2 (TupI H) vs cls) (hx : TupI H x c) : ClL (upd H D (.lst (vs ++ [x]))) D (cls ++ [c]) :=
  ⟨_, upd_same, (h.imp fun _ _ r => TupI.wr r hD).snoc (TupI.wr hx hD)⟩
theorem take_snoc {α : Type} {l : List α} {i : Nat} {x : α} (h : l[i]? = some x) : l.take (i + 1) = l.take i ++ [x] := by
  rw [List.take_add_one, h]
  rfl
theorem cut_all {xs : List V} {n : Nat} (h : xs.length ≤ n) : cutV xs none (some (n : Int)) = xs := by
  unfold cutV
  rw [HT.sIx_none, HT.sIx_nat, List.drop_zero, Nat.sub_zero, Nat.min_eq_right h, List.take_length]
section
variable {P : Program} {w : World} {K : PySem.W.Frag} {mg : Str → Option Value} {base : Heap}
abbrev sNum : Stmt := topS 20
theorem scNum : FnScope ["thing", "many"] ["thing", "many"] (defScope sNum) := ⟨rfl, rfl, rfl, by decide +kernel, rfl, by decide +kernel, by decide +kernel⟩
def spNum : Sp := fun vs H Q _ => ∃ n m : Int, vs = [.int n, .int m] ∧ Q (.bl (decide (0 ≤ n) && decide (n < m))) H
theorem ok_num {f fW : Addr} {fd fdW : FuncData} {k : Nat} (F : Fun K "is_number_of" "is_number_of" sNum f fd) (FW : Fun K "is_whole" "is_whole" sWho fW fdW) (bW : Binds K fdW ["thing"] []) (gW : mg "is_whole" = some (.ref fW)) (GW : FnOk P w K mg base CX0 1 fW fdW ["thing"] spWho) :
    FnOk P w K mg base CX0 (k + 2) f fd ["thing", "many"] spNum := by
  refine F.ok scNum (fun vs H Q E h => ?_) (fun cdv A outer s H vs Q E hr h => ?_)
  · obtain ⟨n, m, rfl, _⟩ := h
    rfl
  · obtain ⟨n, m, rfl, q⟩ := h
    have hr1 : Room 1 _ := hr.mono (by omega)
    refine ⟨_, (pss_one (ps_ret (pe_and (pe_call GW hr1 (by rfl) gW FW.kp bW .nil pass0 (pa_cons (pv 0) pa_nil)) (pe_one (pe_chain op_le op_lt pe_int (pv 0) (pv 1)))))), ?_⟩
    refine ⟨_, rfl, n, rfl, _, rfl, ?_⟩
    refine ⟨_, rfl, 0, _, rfl, rfl, decide (0 ≤ n), rfl, ?_⟩
    cases e1 : decide (0 ≤ n) with
    | false =>
      rw [e1] at q
      exact q
    | true =>
      rw [e1] at q
      exact ⟨_, rfl, _, _, rfl, rfl, q⟩
abbrev sRow : Stmt := topS 21
theorem scRow : FnScope ["book", "claims", "row"] ["book", "claims", "row"] (defScope sRow) := ⟨rfl, rfl, rfl, by decide +kernel, rfl, by decide +kernel, by decide +kernel⟩
def spRow (Po : Addr) : Sp := fun vs H Q _ => ∃ (b v : V) (L : Addr) (css cls : List (List Int)) (r : Rw), vs = [b, .ref L, v] ∧ Bk H b css ∧ ClL H L cls ∧ RowAt H v r ∧ (∀ c ∈ css, IsCl c) ∧ (∀ c ∈ cls, IsCl c) ∧ TabG H Po ∧
  (∀ H', Ke Nof H H' → (∀ c, ¬ RowCl css cls r c) → Q .non H') ∧ ∀ (c : List Int) (p : Addr) (H' : Hp), Ke Nof H H' → RowCl css cls r c → H' p = some (.tup (c.map V.int)) → Q (.ref p) H'
theorem num_at {α : Type} {l : List α} {n : Nat} (h : (decide ((0 : Int) ≤ (n : Int)) && decide ((n : Int) < (l.length : Int))) = true) : n < l.length := by
  rw [Bool.and_eq_true] at h
  have := of_decide_eq_true h.2
  omega
theorem num_no {α : Type} {l : List α} {n : Nat} (h : ¬ (decide ((0 : Int) ≤ (n : Int)) && decide ((n : Int) < (l.length : Int))) = true) : l.length ≤ n := by
  rw [Bool.and_eq_true] at h
  by_cases z : n < l.length
  · exact absurd ⟨decide_eq_true (by omega), decide_eq_true (by omega)⟩ h
  · omega
theorem ok_row {f fN fC Po : Addr} {fd fdN fdC : FuncData} {k : Nat} (F : Fun K "claim_of_row" "claim_of_row" sRow f fd) (T : Zp mg) (FN : Fun K "is_number_of" "is_number_of" sNum fN fdN) (bN : Binds K fdN ["thing", "many"] []) (gN : mg "is_number_of" = some (.ref fN)) (GN : FnOk P w K mg base CX0 2 fN fdN ["thing", "many"] spNum)
    (FC : Fun K "cut_or_none" "cut_or_none" sCon fC fdC) (bC : Binds K fdC ["one", "other", "k"] []) (gC : mg "cut_or_none" = some (.ref fC)) (GC : FnOk P w K mg base CX0 4 fC fdC ["one", "other", "k"] (spCon Po)) :
    FnOk P w K mg base CX0 (k + 5) f fd ["book", "claims", "row"] (spRow Po) := by
  refine F.ok scRow (fun vs H Q E h => ?_) (fun cdv A outer s H vs Q E hr h => ?_)
  · obtain ⟨b, v, L, css, cls, r, rfl, _⟩ := h
    rfl
  · obtain ⟨b, v, L, css, cls, r, rfl, hb, ⟨lvs, hL, aL⟩, ⟨a, rfl, ha⟩, ib, ic, tg, q1, q2⟩ := h
    have hr2 : Room 2 _ := hr.mono (by omega)
    have hr4 : Room 4 _ := hr.mono (by omega)
    refine ⟨_, (pss_cons (ps_if (pt_not (pt_val (pe_callB call_isi (by rfl) T.z_isinstance (by decide +kernel) (pa_cons (pv 2) (pa_cons (pe_bltn (v := .ty "tuple") (u := .type "tuple") (by rfl) T.z_tuple (by decide +kernel) rfl) pa_nil))))) pss_never pss_nil)
      (pss_cons (ps_if (PW.pt (pw_and (pt_cmpR op_eq (pe_callB call_len_seq (by rfl) T.z_len (by decide +kernel) (pa_cons (pv 2) pa_nil)) pe_int (nomark _)) (pw_and1 (pt_cmpR op_eq (pe_ix ix_tup (pv 2) pe_int (fun _ _ => rfl)) pe_str (nomark _))))) (pss_one (ps_ret (pe_ifExp (pt_val (pe_call GN hr2 (by rfl) gN FN.kp bN .nil pass0 (pa_cons (pe_ix ix_tup (pv 2) pe_int (fun _ _ => rfl)) (pa_cons (pe_callB call_len_seq (by rfl) T.z_len (by decide +kernel) (pa_cons (pv 0) pa_nil)) pa_nil)))) (pe_ix ix_tup (pv 0) (pe_ix ix_tup (pv 2) pe_int (fun _ _ => rfl)) (fun _ _ => rfl)) pe_non))) pss_nil)
      (pss_cons (ps_if (PW.pt (pw_and (pt_cmpR op_eq (pe_callB call_len_seq (by rfl) T.z_len (by decide +kernel) (pa_cons (pv 2) pa_nil)) pe_int (nomark _)) (pw_and1 (pt_cmpR op_eq (pe_ix ix_tup (pv 2) pe_int (fun _ _ => rfl)) pe_str (nomark _))))) (pss_one (ps_if (PW.pt (pw_and (pt_val (pe_call GN hr2 (by rfl) gN FN.kp bN .nil pass0 (pa_cons (pe_ix ix_tup (pv 2) pe_int (fun _ _ => rfl)) (pa_cons (pe_callB call_len_seq (by rfl) T.z_len (by decide +kernel) (pa_cons (pv 1) pa_nil)) pa_nil)))) (pw_and1 (pt_val (pe_call GN hr2 (by rfl) gN FN.kp bN .nil pass0 (pa_cons (pe_ix ix_tup (pv 2) pe_int (fun _ _ => rfl)) (pa_cons (pe_callB call_len_seq (by rfl) T.z_len (by decide +kernel) (pa_cons (pv 1) pa_nil)) pa_nil))))))) (pss_one (ps_ret (pe_call GC hr4 (by rfl) gC FC.kp bC .nil pass0 (pa_cons (pe_ix ix_list (pv 1) (pe_ix ix_tup (pv 2) pe_int (fun _ _ => rfl)) (fun _ _ => rfl)) (pa_cons (pe_ix ix_list (pv 1) (pe_ix ix_tup (pv 2) pe_int (fun _ _ => rfl)) (fun _ _ => rfl)) (pa_cons (pe_ix ix_tup (pv 2) pe_int (fun _ _ => rfl)) pa_nil)))))) pss_nil)) pss_nil)
      (pss_one (ps_ret pe_non))))), ?_⟩
    obtain ⟨b, bvs, rfl, hbt, aB⟩ := bk_all hb
    refine ⟨_, rfl, .ref a, .ty "tuple", .type "tuple", .type "tuple", true, rfl, .ty _, .base (.tup ha), kit_ty (by decide +kernel), _, rfl, ?_⟩
    cases r with
    | book n =>
      refine ⟨_, rfl, a, _, rfl, .inr (.of ha), rfl, true, rfl, ?_⟩
      refine ⟨_, rfl, a, _, 0, .str "book", rfl, rfl, .of ha, rfl, rfl, true, by simp, ?_⟩
      refine ⟨_, rfl, a, _, 1, .int (n : Nat), rfl, rfl, .of ha, rfl, _, rfl, b, _, rfl, .inr (.of hbt), _, _, rfl, _, rfl, ite2 (fun y => ?_) (fun y => ?_)⟩
      · have lt := num_at y
        obtain ⟨c, hc, p, e, hp⟩ := aB.at (List.getElem?_eq_getElem lt)
        refine ⟨_, rfl, _, rfl, a, _, 1, .int (n : Nat), rfl, rfl, .of ha, rfl, b, bvs, _, .ref p, rfl, rfl, .of hbt, at_of (j := n) rfl (by rw [List.getElem?_eq_getElem lt, e]), ?_⟩
        exact q2 c p H (.refl _ _) hc hp
      · have ge := num_no y
        refine q1 H (.refl _ _) fun c hc => ?_
        have := (List.getElem?_eq_some_iff.mp hc).1
        have := aB.1
        omega
    | cut i j k =>
      refine ⟨_, rfl, a, _, rfl, .inr (.of ha), rfl, false, rfl, ?_⟩
      refine ⟨_, rfl, a, _, rfl, .inr (.of ha), rfl, true, rfl, ?_⟩
      refine ⟨_, rfl, a, _, 0, .str "cut", rfl, rfl, .of ha, rfl, rfl, true, by simp, ?_⟩
      refine ⟨_, rfl, a, _, 1, .int (i : Nat), rfl, rfl, .of ha, rfl, _, rfl, L, _, rfl, .inl (.of hL), _, _, rfl, _, rfl, ite2 (fun y => ?_) (fun y => ?_)⟩
      · have li := num_at y
        refine ⟨_, rfl, a, _, 2, .int (j : Nat), rfl, rfl, .of ha, rfl, _, rfl, L, _, rfl, .inl (.of hL), _, _, rfl, _, rfl, ite2 (fun y => ?_) (fun y => ?_)⟩
        · have lj := num_at y
          obtain ⟨ci, hci, ti⟩ := aL.at (List.getElem?_eq_getElem li)
          obtain ⟨cj, hcj, tj⟩ := aL.at (List.getElem?_eq_getElem lj)
          have i1 := ic ci (List.mem_of_getElem? hci)
          have i2 := ic cj (List.mem_of_getElem? hcj)
          have z1 := i1.len
          have z2 := i2.len
          refine ⟨_, rfl, _, rfl, a, _, 1, .int (i : Nat), rfl, rfl, .of ha, rfl, L, lvs, _, lvs[i], rfl, rfl, .of hL, at_of (j := i) rfl (List.getElem?_eq_getElem li), ?_⟩
          refine ⟨_, rfl, _, rfl, a, _, 2, .int (j : Nat), rfl, rfl, .of ha, rfl, L, lvs, _, lvs[j], rfl, rfl, .of hL, at_of (j := j) rfl (List.getElem?_eq_getElem lj), ?_⟩
          refine ⟨_, rfl, a, _, 3, .int k, rfl, rfl, .of ha, rfl, lvs[i], lvs[j], k, ci, cj, rfl, ti, tj, by omega, by omega, tg, fun H' ke no => ?_, fun ns p H' ke m o up me hp => ?_⟩
          · refine q1 H' ke fun c hc => ?_
            obtain ⟨x, y', h1, h2, h3⟩ := hc
            cases hci.symm.trans h1
            cases hcj.symm.trans h2
            exact h3.no (nocome_of i1 i2 no)
          · exact q2 ns p H' ke ⟨ci, cj, hci, hcj, comes_of i1 i2 m o up me⟩ hp
        · have ge := num_no y
          exact q1 H (.refl _ _) fun c hc => by
            have := hc.parts
            have := aL.1
            omega
      · have ge := num_no y
        exact q1 H (.refl _ _) fun c hc => by
          have := hc.parts
          have := aL.1
          omega
/-! ### ladders -/
/-- a book and a ladder by it -/
structure BL (H : Hp) (b : V) (L : Addr) (css : List (List Int)) (rows : List Rw) (cls : List (List Int)) : Prop where
  bk : Bk H b css
  rw : RwL H L rows
  ld : Lad css rows cls
  ib : ∀ c ∈ css, IsCl c
  le : rows.length ≤ 200
theorem BL.ke {F : Addr → Prop} {H H' : Hp} {b : V} {L : Addr} {css cls : List (List Int)} {rows : List Rw} (x : BL H b L css rows cls) (k : Ke F H H') (n : ¬ F L) : BL H' b L css rows cls := ⟨x.bk.ke k, x.rw.ke k n, x.ld, x.ib, x.le⟩
theorem BL.ic {H : Hp} {b : V} {L : Addr} {css cls : List (List Int)} {rows : List Rw} (x : BL H b L css rows cls) : ∀ c ∈ cls, IsCl c := x.ld.isCl x.ib
abbrev sAhe : Stmt := topS 22
theorem scAhe : FnScope ["book", "thing", "claims", "row", "claim"] ["book", "thing"] (defScope sAhe) := ⟨rfl, rfl, rfl, by decide +kernel, rfl, by decide +kernel, by decide +kernel⟩
def spAhe (Po : Addr) : Sp := fun vs H Q _ => ∃ (b : V) (L : Addr) (css cls : List (List Int)) (rows : List Rw), vs = [b, .ref L] ∧ BL H b L css rows cls ∧ TabG H Po ∧ ∀ p H', H p = none → Ke Nof H H' → ClL H' p cls → Q (.ref p) H'
theorem ok_ahe {f fR Po : Addr} {fd fdR : FuncData} {k : Nat} {tk : Tok} (F : Fun K "claims_ahead_of_fault" "claims_ahead_of_fault" sAhe f fd) (T : Zp mg) (M2 : mg "MOST_ROWS" = some (.int 200 tk)) (FR : Fun K "claim_of_row" "claim_of_row" sRow fR fdR) (bR : Binds K fdR ["book", "claims", "row"] []) (gR : mg "claim_of_row" = some (.ref fR)) (GR : FnOk P w K mg base CX0 5 fR fdR ["book", "claims", "row"] (spRow Po)) :
    FnOk P w K mg base CX0 (k + 6) f fd ["book", "thing"] (spAhe Po) := by
  refine F.ok scAhe (fun vs H Q E h => ?_) (fun cdv A outer s H vs Q E hr h => ?_)
  · obtain ⟨b, L, css, cls, rows, rfl, _⟩ := h
    rfl
  · obtain ⟨b, L, css, cls, rows, rfl, x, tg, q⟩ := h
    have hr5 : Room 5 _ := hr.mono (by omega)
    refine ⟨_, (Evl.pss_cut (ps_set (i := 2) scAhe.nd rfl (.inl rfl) (pe_lstN pa_nil))
      (pss_cons (ps_if (pt_not (pt_val (pe_callB call_isi (by rfl) T.z_isinstance (by decide +kernel) (pa_cons (pv 1) (pa_cons (pe_bltn (v := .ty "list") (u := .type "list") (by rfl) T.z_list (by decide +kernel) rfl) pa_nil))))) pss_never pss_nil)
      (pss_cons (ps_for PassesOwn.never rfl (pi_list (pe_slice sl_listN (pv 1) po_none (po_some (pe_glob (v := .int 200) rfl M2 ⟨_, rfl⟩)))) (pg_name (i := 3) scAhe.nd rfl (.inl rfl)) (pss_cons (ps_set (i := 4) scAhe.nd rfl (.inl rfl) (pe_call GR hr5 (by rfl) gR FR.kp bR .nil pass0 (pa_cons (pv 0) (pa_cons (pv 2) (pa_cons (pv 3) pa_nil)))))
      (pss_cons (ps_if (pt_cmpR op_isN (pv 4) pe_non (nomark _)) pss_never pss_nil)
      (pss_one (ps_expr (pe_bm PySem.F.plainAttrs_list PySem.F.slot_list_append PySem.F.type_list_append mt_append (pv 2) (pa_cons (pv 4) pa_nil)))))))
      (pss_one (ps_ret (pv 2)))))), ?_⟩
    refine Evl.q_cut (M := fun σ' H' => ∃ D : Addr, σ' = [some b, some (.ref L), some (.ref D), none, none] ∧ H D = none ∧ Same H H' ∧ H' D = some (.lst [])) ?_ ?_
    · exact ⟨Nat.zero_le _, fun D H1 nD s1 hD _ => ⟨D, rfl, nD, s1, hD⟩⟩
    rintro σ' H1 ⟨D, rfl, nD, s1, hD⟩
    have x1 := x.ke (Ke.same (F := Nof) s1) (fun z => z)
    obtain ⟨rvs, hLr, aR⟩ := x1.rw
    have l2 := x.le
    have l3 := x.ld.1
    refine ⟨_, rfl, .ref L, .ty "list", .type "list", .type "list", true, rfl, .ty _, .base (.lst hLr), kit_ty (by decide +kernel), _, rfl, ?_⟩
    refine ⟨_, rfl, _, rfl, L, _, rfl, .of hLr, fun S H2 nS s2 hS _ => ?_⟩
    have ec : cutV rvs none (some 200) = rvs := cut_all (n := 200) (by rw [aR.1]; exact l2)
    rw [ec] at hS
    have nSD : S ≠ D := Ne.symm (ne_of_none hD nS)
    have k02 : Ke Nof H H2 := (Ke.same s1).trans (.same s2)
    refine ⟨S, rfl, ⟨_, .of hS⟩, for_list (K := K) (a := S) (xs := rvs) (Pv := fun i σ H' => ∃ y3 y4 : Option V, σ = [some b, some (.ref L), some (.ref D), y3, y4] ∧ Ke Nof H H' ∧ H' S = some (.lst rvs) ∧ ClL H' D (cls.take i)) ?_ (fun i σ H' _ p => ?_) ?_ ?_⟩
    · exact ⟨none, none, rfl, k02, hS, [], s2 _ _ hD, .nil⟩
    · obtain ⟨_, _, _, _, h, _⟩ := p
      exact .of h
    · rintro i v σ H3 hv ⟨y3, y4, rfl, k3, hS3, dvs, hD3, aD⟩
      obtain ⟨r, hr', -⟩ := aR.at hv
      have lr := (List.getElem?_eq_some_iff.mp hr').1
      have lc : i < cls.length := by omega
      have rc := x.ld.2 i r cls[i] hr' (List.getElem?_eq_getElem lc)
      have rowv : RowAt H3 v r := by
        obtain ⟨vs0, hL0, a0⟩ := x.rw
        have e0 := s1 _ _ hL0
        rw [hLr] at e0
        cases e0
        exact (a0.2 i v r hv hr').ke k3
      refine ⟨_, rfl, _, rfl, _, rfl, b, v, D, css, cls.take i, r, rfl, x.bk.ke k3, ⟨dvs, hD3, aD⟩, rowv, x.ib, fun c hc => x.ic c (List.mem_of_mem_take hc), k3.tabs _ tg, fun H4 k4 no => (no _ rc).elim, fun c p H4 k4 rc' hp => ?_⟩
      obtain rfl := rc.one rc'
      refine ⟨_, rfl, rfl, false, rfl, ?_⟩
      have hD4 := k4.lst hD3 fun z => z
      have hS4 := k4.lst hS3 fun z => z
      refine ⟨_, rfl, .inl ⟨rfl, _, .of hD4⟩, _, rfl, D, _, _, rfl, rfl, hD4, ?_, ?_⟩
      · rw [aD.1, List.length_take]
        exact small1000 (by omega)
      · refine ⟨_, _, rfl, (k3.trans k4).upd nD, by rw [upd_ne nSD]; exact hS4, ?_⟩
        rw [take_snoc (List.getElem?_eq_getElem lc)]
        exact cl_snoc hD4 (aD.imp fun _ _ t => t.ke k4) ⟨p, rfl, hp⟩
    · rintro σ H3 ⟨y3, y4, rfl, k3, _, hD3⟩
      refine ⟨_, rfl, ?_⟩
      rw [aR.1, l3, List.take_length] at hD3
      exact q D H3 nD k3 hD3
abbrev sClo : Stmt := topS 23
theorem scClo : FnScope ["book", "ladder", "claims"] ["book", "ladder"] (defScope sClo) := ⟨rfl, rfl, rfl, by decide +kernel, rfl, by decide +kernel, by decide +kernel⟩
/-- of a ladder with a row at least -/
def spClo (Po : Addr) : Sp := fun vs H Q _ => ∃ (b : V) (L : Addr) (css cls : List (List Int)) (rows : List Rw), vs = [b, .ref L] ∧ BL H b L css rows cls ∧ 0 < rows.length ∧ TabG H Po ∧ ∀ p H', H p = none → Ke Nof H H' → ClL H' p cls → Q (.ref p) H'
theorem ok_clo {f fA Po : Addr} {fd fdA : FuncData} {k : Nat} (F : Fun K "claims_of" "claims_of" sClo f fd) (T : Zp mg) (FA : Fun K "claims_ahead_of_fault" "claims_ahead_of_fault" sAhe fA fdA) (bA : Binds K fdA ["book", "thing"] []) (gA : mg "claims_ahead_of_fault" = some (.ref fA)) (GA : FnOk P w K mg base CX0 6 fA fdA ["book", "thing"] (spAhe Po)) :
    FnOk P w K mg base CX0 (k + 7) f fd ["book", "ladder"] (spClo Po) := by
  refine F.ok scClo (fun vs H Q E h => ?_) (fun cdv A outer s H vs Q E hr h => ?_)
  · obtain ⟨b, L, css, cls, rows, rfl, _⟩ := h
    rfl
  · obtain ⟨b, L, css, cls, rows, rfl, x, l0, tg, q⟩ := h
    have hr6 : Room 6 _ := hr.mono (by omega)
    refine ⟨_, (pss_cons (ps_set (i := 2) scClo.nd rfl (.inl rfl) (pe_call GA hr6 (by rfl) gA FA.kp bA .nil pass0 (pa_cons (pv 0) (pa_cons (pv 1) pa_nil))))
      (pss_cons (ps_if (PW.pt (pw_or (pt_cmpR op_eq (pe_callB call_len_seq (by rfl) T.z_len (by decide +kernel) (pa_cons (pv 2) pa_nil)) pe_int (nomark _)) (pw_or1 (pt_cmpR op_lt (pe_callB call_len_seq (by rfl) T.z_len (by decide +kernel) (pa_cons (pv 2) pa_nil)) (pe_callB call_len_seq (by rfl) T.z_len (by decide +kernel) (pa_cons (pv 1) pa_nil)) (nomark _))))) pss_never pss_nil)
      (pss_one (ps_ret (pv 2))))), ?_⟩
    refine ⟨_, rfl, _, rfl, b, L, css, cls, rows, rfl, x, tg, fun p H1 np k1 hp => ?_⟩
    obtain ⟨pvs, hp1, aP⟩ := id hp
    obtain ⟨rvs, hLr, aR⟩ := (x.ke k1 fun z => z).rw
    have l3 := x.ld.1
    have e1 : (pvs.length : Int) = (rvs.length : Int) := by
      have := aP.1
      have := aR.1
      omega
    refine ⟨_, rfl, p, _, rfl, .inl (.of hp1), rfl, false, ?_, ?_⟩
    · have := aP.1
      rw [decide_eq_false]
      intro z
      have := V.int.inj z
      omega
    refine ⟨_, rfl, p, _, rfl, .inl (.of hp1), _, rfl, L, _, rfl, .inl (.of hLr), _, _, rfl, rfl, false, ?_, ?_⟩
    · show V.bl (decide ((pvs.length : Int) < (rvs.length : Int))) = V.bl false
      rw [decide_eq_false (by omega)]
    exact ⟨_, rfl, q p H1 np k1 hp⟩
end
end Lp
namespace Ll
open PySem PySem.Spec PyProof.Rows L2 GxR Nw Dr Kp Se Cl Ct Lr Lp
structure Zy (mg : Str → Option Value) : Prop where
  z_len : mg "len" = none
  z_isinstance : mg "isinstance" = none
  z_tuple : mg "tuple" = none
  z_int : mg "int" = none
  z_bool : mg "bool" = none
  z_all : mg "all" = none
  z_min : mg "min" = none
  z_max : mg "max" = none
  z_range : mg "range" = none
/-- a row as data -/
def dat : Rw → PyData
  | .book n => .tuple [.str "book", .int (n : Nat)]
  | .cut i j k => .tuple [.str "cut", .int (i : Nat), .int (j : Nat), .int k]
theorem dp_row {K : PySem.W.Frag} {H : Hp} {v : V} {r : Rw} (h : RowAt H v r) : Dp K H v (dat r) := by
  obtain ⟨a, rfl, h⟩ := h
  cases r with
  | book n => exact .tup (.of h) (.cons (.str _) (.cons (.int _) .nil))
  | cut i j k => exact .tup (.of h) (.cons (.str _) (.cons (.int _) (.cons (.int _) (.cons (.int _) .nil))))
theorem dp_rows {K : PySem.W.Frag} {H : Hp} : ∀ {vs : List V} {rows : List Rw}, All2 (RowAt H) vs rows → DpAll K H vs (rows.map dat)
  | [], [], _ => .nil
  | [], r :: t, h => by cases h.1
  | v :: t, [], h => by cases h.1
  | v :: t, r :: u, h => .cons (dp_row (h.2 0 v r rfl rfl)) (dp_rows ⟨by have := h.1; simp only [List.length_cons] at this; omega, fun i x y h1 h2 => h.2 (i + 1) x y h1 h2⟩)
theorem lay_rows : ∀ rows : List Rw, PyData.canLayAll0 (rows.map dat) = true ∧ PyData.depthAll (rows.map dat) ≤ 3
  | [] => ⟨rfl, by decide⟩
  | r :: t => by
    obtain ⟨h1, h2⟩ := lay_rows t
    refine ⟨?_, ?_⟩
    · show (PyData.canLay0 (dat r) && PyData.canLayAll0 (t.map dat)) = true
      rw [h1]
      have b1 : PyData.strOk "book" = true := by decide +kernel
      have b2 : PyData.strOk "cut" = true := by decide +kernel
      cases r <;> simp [dat, PyData.canLay0, PyData.canLayAll0, b1, b2]
    · show Nat.max (PyData.depth (dat r)) (PyData.depthAll (t.map dat)) ≤ 3
      refine Nat.max_le.mpr ⟨?_, h2⟩
      cases r <;> simp [dat, PyData.depth, PyData.depthAll]
theorem shaped_rows (rows : List Rw) : SeqAt.shaped (.list (rows.map dat)) = true := by
  obtain ⟨h1, h2⟩ := lay_rows rows
  show (PyData.canLayAll0 (rows.map dat) && decide (PyData.depthAll (rows.map dat) + 1 ≤ 64)) = true
  rw [h1, decide_eq_true (by omega)]
  rfl
section
variable {P : Program} {w : World} {K : PySem.W.Frag} {mg : Str → Option Value} {base : Heap}
abbrev sSwh : Stmt := topS 34
theorem scSwh : FnScope ["thing"] ["thing"] (defScope sSwh) := ⟨rfl, rfl, rfl, by decide +kernel, rfl, by decide +kernel, by decide +kernel⟩
theorem ok_swh {f : Addr} {fd : FuncData} {k : Nat} (F : Fun K "_law_swhole" "_law_swhole" sSwh f fd) (T : Zy mg) : FnOk P w K mg base CX0 (k + 1) f fd ["thing"] spWho := by
  refine F.ok scSwh (fun vs H Q E h => ?_) (fun cdv A outer s H vs Q E hr h => ?_)
  · obtain ⟨k, rfl, _⟩ := h
    rfl
  · obtain ⟨k, rfl, q⟩ := h
    refine ⟨_, (pss_one (ps_ret (pe_and (pe_callB call_isi (by rfl) T.z_isinstance (by decide +kernel) (pa_cons (pv 0) (pa_cons (pe_bltn (v := .ty "int") (u := .type "int") (by rfl) T.z_int (by decide +kernel) rfl) pa_nil))) (pe_one (pe_not (pe_callB call_isi (by rfl) T.z_isinstance (by decide +kernel) (pa_cons (pv 0) (pa_cons (pe_bltn (v := .ty "bool") (u := .type "bool") (by rfl) T.z_bool (by decide +kernel) rfl) pa_nil)))))))), ?_⟩
    refine ⟨_, rfl, .int k, .ty "int", .type "int", .type "int", true, rfl, .ty _, .base (.int k), kit_ty (by decide +kernel), _, rfl, ?_⟩
    refine ⟨_, rfl, .int k, .ty "bool", .type "int", .type "bool", false, rfl, .ty _, .base (.int k), kit_ty (by decide +kernel), _, rfl, q⟩
abbrev sSrw : Stmt := topS 39
abbrev nSrw : List Str := ["book", "claims", "row", "part"]
theorem scSrw : FnScope nSrw ["book", "claims", "row"] (defScope sSrw) := ⟨rfl, rfl, rfl, by decide +kernel, rfl, by decide +kernel, by decide +kernel⟩
def spSrw : Sp := fun vs H Q _ => ∃ (b v : V) (L : Addr) (css cls : List (List Int)) (r : Rw), vs = [b, .ref L, v] ∧ Bk H b css ∧ ClL H L cls ∧ RowAt H v r ∧ (∀ c ∈ css, IsCl c) ∧ (∀ c ∈ cls, IsCl c) ∧
  (∀ H', Same H H' → (∀ c, ¬ RowCl css cls r c) → Q .non H') ∧ ∀ (c : List Int) (p : Addr) (H' : Hp), Same H H' → RowCl css cls r c → H' p = some (.tup (c.map V.int)) → Q (.ref p) H'
theorem Rw.tail (r : Rw) : ∃ ns : List Int, r.vs = r.vs.headD .non :: ns.map V.int ∧ ns.length ≤ 3 := by
  cases r with
  | book n => exact ⟨[(n : Nat)], rfl, by simp⟩
  | cut i j k => exact ⟨[(i : Nat), (j : Nat), k], rfl, by simp⟩
theorem cut_1 (x : V) (xs : List V) : cutV (x :: xs) (some 1) none = xs := by
  unfold cutV
  have e : (1 : Int) = ((1 : Nat) : Int) := rfl
  rw [HT.sIx_none, e, HT.sIx_nat]
  simp
theorem cut_13 (x : V) (a b c : V) : cutV [x, a, b, c] (some 1) (some 3) = [a, b] := by
  unfold cutV
  have e : (1 : Int) = ((1 : Nat) : Int) := rfl
  have e3 : (3 : Int) = ((3 : Nat) : Int) := rfl
  rw [e, e3, HT.sIx_nat, HT.sIx_nat]
  rfl
theorem ok_srw {f fW fC : Addr} {fd fdW fdC : FuncData} {k : Nat} (F : Fun K "_law_srow" "_law_srow" sSrw f fd) (T : Zy mg) (FW : Fun K "_law_swhole" "_law_swhole" sSwh fW fdW) (bW : Binds K fdW ["thing"] []) (gW : mg "_law_swhole" = some (.ref fW)) (GW : FnOk P w K mg base CX0 1 fW fdW ["thing"] spWho)
    (FC : Fun K "_law_scut" "_law_scut" sSct fC fdC) (bC : Binds K fdC ["one", "other", "k"] []) (gC : mg "_law_scut" = some (.ref fC)) (GC : FnOk P w K mg base CX0 1 fC fdC ["one", "other", "k"] spSct) :
    FnOk P w K mg base CX0 (k + 2) f fd ["book", "claims", "row"] spSrw := by
  refine F.ok scSrw (fun vs H Q E h => ?_) (fun cdv A outer s H vs Q E hr h => ?_)
  · obtain ⟨b, v, L, css, cls, r, rfl, _⟩ := h
    rfl
  · obtain ⟨b, v, L, css, cls, r, rfl, hb, ⟨lvs, hL, aL⟩, ⟨a, rfl, ha⟩, ib, ic, q1, q2⟩ := h
    have hr1 : Room 1 _ := hr.mono (by omega)
    have hu : (A.deeper (envOfC "_law_srow" (defScope sSrw) s.heap.objs.size f cdv)).units + 70 < cLine := by
      have := hr.un
      omega
    refine ⟨_, (pss_cons (ps_if (PW.pt (pw_or (pt_not (pt_val (pe_callB call_isi (by rfl) T.z_isinstance (by decide +kernel) (pa_cons (pv 2) (pa_cons (pe_bltn (v := .ty "tuple") (u := .type "tuple") (by rfl) T.z_tuple (by decide +kernel) rfl) pa_nil))))) (pw_or1 (pt_cmpR op_lt (pe_callB call_len_seq (by rfl) T.z_len (by decide +kernel) (pa_cons (pv 2) pa_nil)) pe_int (nomark _))))) pss_never pss_nil)
      (Evl.pss_cut (ps_if (pt_not (pt_val (pe_callB (cr_all rfl) (by rfl) T.z_all (by decide +kernel) (pa_cons (pe_lc (own := [("part", 3)]) (g := (gName 3)) (tt := tYes) rfl scSrw.nd (pi_tup (pe_slice sl_tupN (pv 2) (po_some pe_int) po_none)) (blkOk_by (N := nSrw) (sc := defScope sSrw) (by decide +kernel)) (fun _ _ _ _ _ => (pg_name (i := 3) scSrw.nd rfl (.inl rfl))) (fun _ _ _ _ _ => pts_nil) (fun _ _ _ _ _ => (pe_call GW hr1 (by rfl) gW FW.kp bW .nil pass0 (pa_cons (pv 3) pa_nil)))) pa_nil)))) pss_never pss_nil)
      (pss_cons (ps_if (PW.pt (pw_and (pt_cmpR op_eq (pe_ix ix_tup (pv 2) pe_int (fun _ _ => rfl)) pe_str (nomark _)) (pw_and (pt_cmpR op_eq (pe_callB call_len_seq (by rfl) T.z_len (by decide +kernel) (pa_cons (pv 2) pa_nil)) pe_int (nomark _)) (pw_and1 (pt_chain op_le op_lt pe_int (pe_ix ix_tup (pv 2) pe_int (fun _ _ => rfl)) (pe_callB call_len_seq (by rfl) T.z_len (by decide +kernel) (pa_cons (pv 0) pa_nil))))))) (pss_one (ps_ret (pe_ix ix_tup (pv 0) (pe_ix ix_tup (pv 2) pe_int (fun _ _ => rfl)) (fun _ _ => rfl)))) pss_nil)
      (pss_cons (ps_if (PW.pt (pw_or (pt_cmpR op_ne (pe_ix ix_tup (pv 2) pe_int (fun _ _ => rfl)) pe_str (nomark _)) (pw_or (pt_cmpR op_ne (pe_callB call_len_seq (by rfl) T.z_len (by decide +kernel) (pa_cons (pv 2) pa_nil)) pe_int (nomark _)) (pw_or (pt_cmpR op_lt (pe_callB (Lr.cr_minT rfl hu) (by rfl) T.z_min (by decide +kernel) (pa_cons (pe_slice sl_tupN (pv 2) (po_some pe_int) (po_some pe_int)) pa_nil)) pe_int (nomark _)) (pw_or1 (pt_cmpR op_ge (pe_callB (Lr.cr_maxT rfl hu) (by rfl) T.z_max (by decide +kernel) (pa_cons (pe_slice sl_tupN (pv 2) (po_some pe_int) (po_some pe_int)) pa_nil)) (pe_callB call_len_seq (by rfl) T.z_len (by decide +kernel) (pa_cons (pv 1) pa_nil)) (nomark _))))))) (pss_one (ps_ret pe_non)) pss_nil)
      (pss_one (ps_ret (pe_call GC hr1 (by rfl) gC FC.kp bC .nil pass0 (pa_cons (pe_ix ix_list (pv 1) (pe_ix ix_tup (pv 2) pe_int (fun _ _ => rfl)) (fun _ _ => rfl)) (pa_cons (pe_ix ix_list (pv 1) (pe_ix ix_tup (pv 2) pe_int (fun _ _ => rfl)) (fun _ _ => rfl)) (pa_cons (pe_ix ix_tup (pv 2) pe_int (fun _ _ => rfl)) pa_nil)))))))))), ?_⟩
    obtain ⟨b, bvs, rfl, hbt, aB⟩ := bk_all hb
    refine ⟨_, rfl, .ref a, .ty "tuple", .type "tuple", .type "tuple", true, rfl, .ty _, .base (.tup ha), kit_ty (by decide +kernel), _, rfl, ?_⟩
    refine ⟨_, rfl, a, _, rfl, .inr (.of ha), _, _, rfl, rfl, false, ?_, ?_⟩
    · cases r <;> rfl
    refine Evl.q_cut (M := fun σ' H' => σ' = [some (.ref b), some (.ref L), some (.ref a), none] ∧ Same H H') ?_ ?_
    · obtain ⟨ns, en, ln⟩ := Rw.tail r
      refine ⟨_, rfl, _, rfl, a, _, rfl, ha, fun p H1 s1 hp => ?_⟩
      rw [en, cut_1] at hp
      refine ⟨p, rfl, ⟨_, .of hp⟩, fun D nD => ?_⟩
      refine lc_tup (xs := ns.map V.int) (Pv := fun i H' => Same H1 H' ∧ H' D = some (.lst ((List.replicate i true).map V.bl))) ⟨same_new nD, upd_same⟩ (fun i H' _ z => .of (z.1 _ _ hp)) ?_ ?_
      · rintro i x H2 hx ⟨s2, hD⟩
        obtain ⟨z, hz, rfl⟩ := at_int hx
        have lz := (List.getElem?_eq_some_iff.mp hz).1
        refine ⟨rfl, _, rfl, z, rfl, _, hD, ?_, fun c o y => ?_, ?_⟩
        · rw [List.length_map, List.length_replicate]
          exact small1000 (by omega)
        · rw [upd_ne (ne_of_none y nD)]
          exact s2 _ _ y
        · rw [upd_same, List.replicate_succ', List.map_append]
          rfl
      · rintro H2 ⟨s2, hD⟩
        refine ⟨D, _, rfl, .of hD, _, rfl, ?_⟩
        have e : (List.replicate (ns.map V.int).length true).all id = true := by
          rw [List.all_eq_true]
          intro x hx
          rw [List.eq_of_mem_replicate hx]
          rfl
        rw [e]
        exact ⟨rfl, s1.trans s2⟩
    rintro σ' H1 ⟨rfl, s1⟩
    have ha1 := s1 _ _ ha
    have hb1 := s1 _ _ hbt
    have hL1 := s1 _ _ hL
    cases r with
    | book n =>
      refine ⟨_, rfl, a, _, 0, .str "book", rfl, rfl, .of ha1, rfl, rfl, true, by simp, ?_⟩
      refine ⟨_, rfl, a, _, rfl, .inr (.of ha1), rfl, true, rfl, ?_⟩
      refine ⟨_, rfl, a, _, 1, .int (n : Nat), rfl, rfl, .of ha1, rfl, 0, _, rfl, rfl, decide ((0 : Int) ≤ (n : Nat)), rfl, ?_⟩
      rw [decide_eq_true (by omega)]
      refine ⟨_, rfl, b, _, rfl, .inr (.of hb1), _, _, rfl, rfl, _, rfl, ite2 (fun y => ?_) (fun y => ?_)⟩
      · have lt : n < bvs.length := by
          have := of_decide_eq_true y
          omega
        obtain ⟨c, hc, p, e, hp⟩ := aB.at (List.getElem?_eq_getElem lt)
        refine ⟨_, rfl, _, rfl, a, _, 1, .int (n : Nat), rfl, rfl, .of ha1, rfl, b, bvs, _, .ref p, rfl, rfl, .of hb1, at_of (j := n) rfl (by rw [List.getElem?_eq_getElem lt, e]), ?_⟩
        exact q2 c p H1 s1 hc (s1 _ _ hp)
      · refine ⟨_, rfl, a, _, 0, .str "book", rfl, rfl, .of ha1, rfl, rfl, true, by simp; decide, ?_⟩
        refine q1 H1 s1 fun c hc => ?_
        have h1 := (List.getElem?_eq_some_iff.mp hc).1
        have h2 := aB.1
        exact y (decide_eq_true (by omega))
    | cut i j k =>
      refine ⟨_, rfl, a, _, 0, .str "cut", rfl, rfl, .of ha1, rfl, rfl, false, by simp; decide, ?_⟩
      refine ⟨_, rfl, a, _, 0, .str "cut", rfl, rfl, .of ha1, rfl, rfl, false, by simp, ?_⟩
      refine ⟨_, rfl, a, _, rfl, .inr (.of ha1), rfl, false, rfl, ?_⟩
      refine ⟨_, rfl, _, rfl, _, rfl, a, _, rfl, ha1, fun p1 H2 s2 hp1 => ?_⟩
      rw [show cutV (Rw.cut i j k).vs (some 1) (some 3) = [.int (i : Nat), .int (j : Nat)] from cut_13 _ _ _ _] at hp1
      refine ⟨p1, _, _, rfl, .of hp1, _, _, rfl, rfl, false, ?_, ?_⟩
      · show V.bl (decide ((if ((j : Nat) : Int) < ((i : Nat) : Int) then ((j : Nat) : Int) else ((i : Nat) : Int)) < 0)) = V.bl false
        rw [decide_eq_false]
        split <;> omega
      have ha2 := s2 _ _ ha1
      have hL2 := s2 _ _ hL1
      refine ⟨_, rfl, _, rfl, _, rfl, a, _, rfl, ha2, fun p2 H3 s3 hp2 => ?_⟩
      rw [show cutV (Rw.cut i j k).vs (some 1) (some 3) = [.int (i : Nat), .int (j : Nat)] from cut_13 _ _ _ _] at hp2
      have ha3 := s3 _ _ ha2
      have hL3 := s3 _ _ hL2
      have s13 := s1.trans (s2.trans s3)
      refine ⟨p2, _, _, rfl, .of hp2, _, rfl, L, _, rfl, .inl (.of hL3), _, _, rfl, rfl, _, rfl, ite2 (fun y => ?_) (fun y => ?_)⟩
      · refine q1 H3 s13 fun c hc => ?_
        have y : (lvs.length : Int) ≤ (if (i : Int) < (j : Int) then (j : Int) else (i : Int)) := of_decide_eq_true y
        have h1 := hc.parts
        have h2 := aL.1
        split at y <;> omega
      · have y : ¬ (lvs.length : Int) ≤ (if (i : Int) < (j : Int) then (j : Int) else (i : Int)) := of_decide_eq_false (Bool.eq_false_iff.mpr y)
        have li : i < lvs.length := by
          split at y <;> omega
        have lj : j < lvs.length := by
          split at y <;> omega
        obtain ⟨ci, hci, ti⟩ := aL.at (List.getElem?_eq_getElem li)
        obtain ⟨cj, hcj, tj⟩ := aL.at (List.getElem?_eq_getElem lj)
        have z1 := (ic ci (List.mem_of_getElem? hci)).len
        have z2 := (ic cj (List.mem_of_getElem? hcj)).len
        have k13 : Ke Nof H H3 := .same s13
        refine ⟨_, rfl, _, rfl, a, _, 1, .int (i : Nat), rfl, rfl, .of ha3, rfl, L, lvs, _, lvs[i], rfl, rfl, .of hL3, at_of (j := i) rfl (List.getElem?_eq_getElem li), ?_⟩
        refine ⟨_, rfl, _, rfl, a, _, 2, .int (j : Nat), rfl, rfl, .of ha3, rfl, L, lvs, _, lvs[j], rfl, rfl, .of hL3, at_of (j := j) rfl (List.getElem?_eq_getElem lj), ?_⟩
        refine ⟨_, rfl, a, _, 3, .int k, rfl, rfl, .of ha3, rfl, lvs[i], lvs[j], k, ci, cj, rfl, ti.ke k13, tj.ke k13, by omega, by omega, fun H' s' no => ?_, fun ns p H' s' a1 a2 a3 a4 up me hp => ?_⟩
        · refine q1 H' (s13.trans s') fun c hc => ?_
          obtain ⟨x, y', h1, h2, h3⟩ := hc
          cases hci.symm.trans h1
          cases hcj.symm.trans h2
          exact h3.no no
        · exact q2 ns p H' (s13.trans s') ⟨ci, cj, hci, hcj, a1, a2, a3, a4, up, me⟩ hp
end
end Ll
namespace Ll
open PySem PySem.Spec PyProof.Rows L2 GxR Nw Dr Kp Se Cl Ct Lr Lp
section
variable {P : Program} {w : World} {K : PySem.W.Frag} {mg : Str → Option Value} {base : Heap}
abbrev sSwy : Stmt := topS 46
abbrev nSwy : List Str := ["book", "claims", "i", "j", "some", "k", "row"]
theorem scSwy : FnScope nSwy ["book", "claims", "i", "j"] (defScope sSwy) := ⟨rfl, rfl, rfl, by decide +kernel, rfl, by decide +kernel, by decide +kernel⟩
/-- the ways to cut two rows -/
def spSwy : Sp := fun vs H Q _ => ∃ (b : V) (L : Addr) (i j : Nat) (css cls : List (List Int)), vs = [b, .ref L, .int (i : Nat), .int (j : Nat)] ∧ Bk H b css ∧ ClL H L cls ∧ (∀ c ∈ css, IsCl c) ∧ (∀ c ∈ cls, IsCl c) ∧
  ∀ (p : Addr) (rows : List Rw) (H' : Hp), Same H H' → RwL H' p rows → rows.length ≤ 16 → (∀ r ∈ rows, ∃ c, RowCl css cls r c) → Q (.ref p) H'
theorem RwL.same {H H' : Hp} {p : Addr} {rows : List Rw} (h : RwL H p rows) (s : Same H H') : RwL H' p rows := h.ke (Ke.same (F := Nof) s) fun z => z
theorem rw_snoc {H : Hp} {D : Addr} {vs : List V} {rows : List Rw} {x : V} {r : Rw} (hD : H D = some (.lst vs)) (h : All2 (RowAt H) vs rows) (hx : RowAt H x r) : RwL (upd H D (.lst (vs ++ [x]))) D (rows ++ [r]) :=
  ⟨_, upd_same, (h.imp fun _ _ r => RowAt.wr r hD).snoc (RowAt.wr hx hD)⟩
theorem ok_swy {f fR : Addr} {fd fdR : FuncData} {k : Nat} (F : Fun K "_law_sways" "_law_sways" sSwy f fd) (T : Zy mg) (FR : Fun K "_law_srow" "_law_srow" sSrw fR fdR) (bR : Binds K fdR ["book", "claims", "row"] []) (gR : mg "_law_srow" = some (.ref fR)) (GR : FnOk P w K mg base CX0 2 fR fdR ["book", "claims", "row"] spSrw) :
    FnOk P w K mg base CX0 (k + 3) f fd ["book", "claims", "i", "j"] spSwy := by
  refine F.ok scSwy (fun vs H Q E h => ?_) (fun cdv A outer s H vs Q E hr h => ?_)
  · obtain ⟨b, L, i, j, css, cls, rfl, _⟩ := h
    rfl
  · obtain ⟨b, L, i, j, css, cls, rfl, hb, hL, ib, ic, q⟩ := h
    have hr2 : Room 2 _ := hr.mono (by omega)
    refine ⟨_, (Evl.pss_cut (ps_setLc (i := 4) (own := [("k", 5)]) (g := (gName 5)) (tt := tYes) rfl scSwy.nd rfl rfl (sw_true rfl rfl rfl (by decide +kernel)) (pi_range2 (by rfl) T.z_range (pa_cons pe_int (pa_cons pe_int pa_nil))) (blkOk_by (N := nSwy) (sc := defScope sSwy) (by decide +kernel)) (fun _ _ _ _ _ => (pg_name (i := 5) scSwy.nd rfl (.inl rfl))) (fun _ _ _ _ _ => pts_nil) (fun _ _ _ _ _ => (pe_tupN (pa_cons pe_str (pa_cons (pv 2) (pa_cons (pv 3) (pa_cons (pv 5) pa_nil)))))))
      (Evl.pss_cut (ps_set (i := 4) scSwy.nd rfl (.inl rfl) (pe_op op_catN (pv 4) (pe_lc (own := [("k", 5)]) (g := (gName 5)) (tt := tYes) rfl scSwy.nd (pi_range2 (by rfl) T.z_range (pa_cons pe_int (pa_cons pe_int pa_nil))) (blkOk_by (N := nSwy) (sc := defScope sSwy) (by decide +kernel)) (fun _ _ _ _ _ => (pg_name (i := 5) scSwy.nd rfl (.inl rfl))) (fun _ _ _ _ _ => pts_nil) (fun _ _ _ _ _ => (pe_tupN (pa_cons pe_str (pa_cons (pv 3) (pa_cons (pv 2) (pa_cons (pv 5) pa_nil)))))))))
      (pss_one (ps_ret (pe_lc (own := [("row", 6)]) (g := (gName 6))  rfl scSwy.nd (pi_list (pv 4)) (blkOk_by (N := nSwy) (sc := defScope sSwy) (by decide +kernel)) (fun _ _ _ _ _ => (pg_name (i := 6) scSwy.nd rfl (.inl rfl))) (fun _ _ _ _ _ => (pts_one (pt_cmpR op_notN (pe_call GR hr2 (by rfl) gR FR.kp bR .nil pass0 (pa_cons (pv 0) (pa_cons (pv 1) (pa_cons (pv 6) pa_nil)))) pe_non (nomark _)))) (fun _ _ _ _ _ => (pv 6))))))), ?_⟩
    have step : ∀ (D : Addr) (H0 H2 : Hp) (rows : List Rw) (i j : Nat) (x : V) (k : Int) (vs : List V), H0 D = none → Same H0 H2 → H2 D = some (.lst vs) → All2 (RowAt H2) vs rows → rows.length ≤ 8 → ∀ (p : Addr) (H3 : Hp), Same H2 H3 → H3 p = some (.tup [.str "cut", .int (i : Nat), .int (j : Nat), .int k]) →
        H3 D = some (.lst vs) ∧ vs.length < sizeLine ∧ Same H0 (upd H3 D (.lst (vs ++ [.ref p]))) ∧ RwL (upd H3 D (.lst (vs ++ [.ref p]))) D (rows ++ [.cut i j k]) := fun D H0 H2 rows i j x k vs nD s2 hD aD l8 p H3 s3 hp => by
      have hD3 := s3 _ _ hD
      refine ⟨hD3, small1000 (by have := aD.1; omega), fun c o y => ?_, rw_snoc hD3 (aD.imp fun _ _ r => r.ke (Ke.same (F := Nof) s3)) ⟨p, rfl, hp⟩⟩
      rw [upd_ne (ne_of_none y nD)]
      exact (s2.trans s3) _ _ y
    refine Evl.q_cut (M := fun σ' H' => ∃ (D : Addr) (rows : List Rw), σ' = [some b, some (.ref L), some (.int (i : Nat)), some (.int (j : Nat)), some (.ref D), none, none] ∧ Same H H' ∧ RwL H' D rows ∧ rows.length ≤ 8) ?_ ?_
    · refine ⟨1, 9, rfl, ⟨by decide, by decide, by decide, by decide⟩, fun D nD => ?_⟩
      refine lc_range (Pv := fun t H' => Same H H' ∧ ∃ rows, RwL H' D rows ∧ rows.length = t) ⟨same_new nD, [], ⟨[], upd_same, .nil⟩, rfl⟩ ?_ ?_
      · rintro t H2 ht ⟨s2, rows, ⟨vs, hD, aD⟩, lr⟩
        have ht : t < 8 := ht
        refine ⟨rfl, _, rfl, _, rfl, _, rfl, by show 4 ≤ sizeLine; decide, fun p H3 np s3 hp _ => ?_⟩
        obtain ⟨h1, h2, h3, h4⟩ := step D H H2 rows i j .non _ vs nD s2 hD aD (by omega) p H3 s3 hp
        exact ⟨_, h1, h2, h3, _, h4, by rw [List.length_append, lr]; rfl⟩
      · rintro H2 ⟨s2, rows, hD, lr⟩
        exact ⟨D, rows, rfl, s2, hD, Nat.le_of_eq lr⟩
    rintro σ' H1 ⟨D1, rows1, rfl, s1, hD1, lr1⟩
    refine Evl.q_cut (M := fun σ' H' => ∃ (D : Addr) (rows : List Rw), σ' = [some b, some (.ref L), some (.int (i : Nat)), some (.int (j : Nat)), some (.ref D), none, none] ∧ Same H H' ∧ RwL H' D rows ∧ rows.length ≤ 16) ?_ ?_
    · refine ⟨_, rfl, 1, 9, rfl, ⟨by decide, by decide, by decide, by decide⟩, fun D nD => ?_⟩
      refine lc_range (Pv := fun t H' => Same H1 H' ∧ ∃ rows, RwL H' D rows ∧ rows.length = t) ⟨same_new nD, [], ⟨[], upd_same, .nil⟩, rfl⟩ ?_ ?_
      · rintro t H2 ht ⟨s2, rows, ⟨vs, hD, aD⟩, lr⟩
        have ht : t < 8 := ht
        refine ⟨rfl, _, rfl, _, rfl, _, rfl, by show 4 ≤ sizeLine; decide, fun p H3 np s3 hp _ => ?_⟩
        obtain ⟨h1, h2, h3, h4⟩ := step D H1 H2 rows j i .non _ vs nD s2 hD aD (by omega) p H3 s3 hp
        exact ⟨_, h1, h2, h3, _, h4, by rw [List.length_append, lr]; rfl⟩
      · rintro H2 ⟨s2, rows, ⟨vs, hD, aD⟩, lr⟩
        have lr : rows.length = 8 := lr
        obtain ⟨vs1, hd1, a1⟩ := RwL.same hD1 s2
        have l1 := a1.1
        have l2 := aD.1
        refine ⟨D1, D, _, _, rfl, rfl, hd1, hD, Nat.le_trans (by omega : _ ≤ 1000) (by decide), fun p H3 np s3 hp _ => ?_⟩
        refine ⟨p, rows1 ++ rows, rfl, s1.trans (s2.trans s3), ⟨_, hp, ?_⟩, by rw [List.length_append]; omega⟩
        exact (a1.imp fun _ _ r => r.ke (Ke.same (F := Nof) s3)).cat (aD.imp fun _ _ r => r.ke (Ke.same (F := Nof) s3))
    clear hD1 lr1
    rintro σ' H2 ⟨D2, rows2, rfl, s2, ⟨vs2, hD2, a2⟩, lr2⟩
    have hb2 := hb.ke (Ke.same (F := Nof) s2)
    have hL2 := hL.ke (Ke.same (F := Nof) s2) fun z => z
    refine ⟨_, rfl, D2, rfl, ⟨_, .of hD2⟩, fun D nD => ?_⟩
    refine lc_list (xs := vs2) (Pv := fun t H' => Same H2 H' ∧ ∃ rows, RwL H' D rows ∧ rows.length ≤ t ∧ ∀ r ∈ rows, ∃ c, RowCl css cls r c) ⟨same_new nD, [], ⟨[], upd_same, .nil⟩, Nat.le_refl _, fun r h => nomatch h⟩ (fun t H' _ z => .of (z.1 _ _ hD2)) ?_ ?_
    · rintro t v H3 hv ⟨s3, rows, ⟨vs, hD, aD⟩, lr, ok⟩
      obtain ⟨r, hr', rv⟩ := a2.at hv
      have lt := (List.getElem?_eq_some_iff.mp hr').1
      have k3 : Ke Nof H2 H3 := .same s3
      refine ⟨rfl, _, rfl, _, rfl, _, rfl, b, v, L, css, cls, r, rfl, hb2.ke k3, hL2.ke k3 fun z => z, rv.ke k3, ib, ic, fun H4 s4 no => ?_, fun c p H4 s4 rc hp => ?_⟩
      · refine ⟨rfl, false, rfl, ?_⟩
        exact ⟨s3.trans s4, rows, RwL.same ⟨vs, hD, aD⟩ s4, by omega, ok⟩
      · refine ⟨rfl, true, rfl, ?_⟩
        have hD4 := s4 _ _ hD
        refine ⟨_, rfl, _, hD4, small1000 (by have := aD.1; omega), fun c o y => ?_, rows ++ [r], ?_, by rw [List.length_append]; show rows.length + 1 ≤ t + 1; omega, fun r' hr2 => ?_⟩
        · rw [upd_ne (ne_of_none y nD)]
          exact (s3.trans s4) _ _ y
        · exact rw_snoc hD4 (aD.imp fun _ _ r => r.ke (Ke.same (F := Nof) s4)) ((rv.ke k3).ke (Ke.same (F := Nof) s4))
        · rcases List.mem_append.mp hr2 with z | z
          · exact ok r' z
          · rw [List.mem_singleton.mp z]
            exact ⟨c, rc⟩
    · rintro H3 ⟨s3, rows, hD, lr, ok⟩
      exact q D rows H3 (s2.trans s3) hD (by have := a2.1; omega) ok
end
end Ll
namespace Ll
open PySem PySem.Spec PyProof.Rows L2 GxR Nw Dr Kp Se Cl Ct Lr Lp
section
variable {P : Program} {w : World} {K : PySem.W.Frag} {mg : Str → Option Value} {base : Heap}
abbrev sSld : Stmt := topS 48
abbrev nSld : List Str := ["feed", "book", "many", "rows", "claims", "turn", "near", "i", "j", "ways", "row"]
theorem scSld : FnScope nSld ["feed", "book", "many"] (defScope sSld) := ⟨rfl, rfl, rfl, by decide +kernel, rfl, by decide +kernel, by decide +kernel⟩
/-- rows and claims as they grow -/
structure Sv (f c R C : Addr) (rows : List Rw) (cls : List (List Int)) (B : Nat) (H H' : Hp) : Prop where
  fe : Feed H' f c B
  ke : Ke (· = f) H H'
  rw : RwL H' R rows
  cl : ClL H' C cls
theorem Sv.step {f c R C : Addr} {rows : List Rw} {cls : List (List Int)} {B B' : Nat} {H H' H'' : Hp} (x : Sv f c R C rows cls B H H') (k : Ke (· = f) H' H'') (F : Feed H'' f c B') (nR : R ≠ f) (nC : C ≠ f) : Sv f c R C rows cls B' H H'' := ⟨F, x.ke.trans k, x.rw.ke k nR, x.cl.ke k nC⟩
theorem Sv.same {f c R C : Addr} {rows : List Rw} {cls : List (List Int)} {B : Nat} {H H' H'' : Hp} (x : Sv f c R C rows cls B H H') (s : Same H' H'') (nR : R ≠ f) (nC : C ≠ f) : Sv f c R C rows cls B H H'' := x.step (.same s) (x.fe.same s) nR nC
def spSld : Sp := fun vs H Q _ => ∃ (f c : Addr) (b : V) (m : Int) (B : Nat) (css : List (List Int)), vs = [.ref f, b, .int m] ∧ 1 ≤ m ∧ m ≤ 200 ∧ Bk H b css ∧ (∀ c ∈ css, IsCl c) ∧ 1 ≤ css.length ∧ css.length ≤ 16 ∧ Feed H f c B ∧ B ≤ 2 ^ 57 ∧
  ∀ (p : Addr) (rows : List Rw) (cls : List (List Int)) (H' : Hp), Feed H' f c (B + 2000) → Ke (· = f) H H' → Frs H p → RwL H' p rows → Lad css rows cls → (rows.length : Int) = m → Q (.ref p) H'
theorem one2 {α β : Type} {R : α → β → Prop} {x : α} {y : β} (r : R x y) : All2 R [x] [y] := All2.nil.snoc r
theorem ok_sld {f fD fY fR : Addr} {fd fdD fdY fdR : FuncData} {k : Nat} (F : Fun K "_law_sladder" "_law_sladder" sSld f fd) (T : Zy mg) (FD : Fun K "_law_sdraw" "_law_sdraw" sDrw fD fdD) (bD : Binds K fdD ["feed", "many"] []) (gD : mg "_law_sdraw" = some (.ref fD)) (GD : FnOk P w K mg base CX0 2 fD fdD ["feed", "many"] spDrw)
    (FY : Fun K "_law_sways" "_law_sways" sSwy fY fdY) (bY : Binds K fdY ["book", "claims", "i", "j"] []) (gY : mg "_law_sways" = some (.ref fY)) (GY : FnOk P w K mg base CX0 3 fY fdY ["book", "claims", "i", "j"] spSwy)
    (FR : Fun K "_law_srow" "_law_srow" sSrw fR fdR) (bR : Binds K fdR ["book", "claims", "row"] []) (gR : mg "_law_srow" = some (.ref fR)) (GR : FnOk P w K mg base CX0 2 fR fdR ["book", "claims", "row"] spSrw) :
    FnOk P w K mg base CX0 (k + 4) f fd ["feed", "book", "many"] spSld := by
  refine F.ok scSld (fun vs H Q E h => ?_) (fun cdv A outer s H vs Q E hr h => ?_)
  · obtain ⟨f, c, b, m, B, css, rfl, _⟩ := h
    rfl
  · obtain ⟨f, c, b, m, B, css, rfl, m1, m2, hb, ib, c1, c2, hF, hB, q⟩ := h
    have hr2 : Room 2 _ := hr.mono (by omega)
    have hr3 : Room 3 _ := hr.mono (by omega)
    refine ⟨_, (Evl.pss_cut (ps_set (i := 3) scSld.nd rfl (.inl rfl) (pe_lstN (pa_cons (pe_tupN (pa_cons pe_str (pa_cons (pe_call GD hr2 (by rfl) gD FD.kp bD .nil pass0 (pa_cons (pv 0) (pa_cons (pe_callB call_len_seq (by rfl) T.z_len (by decide +kernel) (pa_cons (pv 1) pa_nil)) pa_nil))) pa_nil))) pa_nil)))
      (Evl.pss_cut (ps_set (i := 4) scSld.nd rfl (.inl rfl) (pe_lstN (pa_cons (pe_ix ix_tup (pv 1) (pe_ix ix_tup (pe_ix ix_list (pv 3) pe_int (fun _ _ => rfl)) pe_int (fun _ _ => rfl)) (fun _ _ => rfl)) pa_nil)))
      (pss_cons (ps_for PassesOwn.never rfl (pi_range1 (by rfl) T.z_range (pa_cons (pe_op op_sub (pv 2) pe_int) pa_nil)) (pg_name (i := 5) scSld.nd rfl (.inl rfl)) (Evl.pss_cut (ps_set (i := 6) scSld.nd rfl (.inl rfl) (pe_callB (call_min2 rfl) (by rfl) T.z_min (by decide +kernel) (pa_cons (pe_callB call_len_seq (by rfl) T.z_len (by decide +kernel) (pa_cons (pv 3) pa_nil)) (pa_cons (pe_op op_add pe_int (pe_call GD hr2 (by rfl) gD FD.kp bD .nil pass0 (pa_cons (pv 0) (pa_cons pe_int pa_nil)))) pa_nil))))
      (Evl.pss_cut (ps_set (i := 7) scSld.nd rfl (.inl rfl) (pe_op op_sub (pe_op op_sub (pe_callB call_len_seq (by rfl) T.z_len (by decide +kernel) (pa_cons (pv 3) pa_nil)) pe_int) (pe_call GD hr2 (by rfl) gD FD.kp bD .nil pass0 (pa_cons (pv 0) (pa_cons (pv 6) pa_nil)))))
      (Evl.pss_cut (ps_set (i := 8) scSld.nd rfl (.inl rfl) (pe_call GD hr2 (by rfl) gD FD.kp bD .nil pass0 (pa_cons (pv 0) (pa_cons (pe_callB call_len_seq (by rfl) T.z_len (by decide +kernel) (pa_cons (pv 3) pa_nil)) pa_nil))))
      (Evl.pss_cut (ps_set (i := 9) scSld.nd rfl (.inl rfl) (pe_call GY hr3 (by rfl) gY FY.kp bY .nil pass0 (pa_cons (pv 1) (pa_cons (pv 4) (pa_cons (pv 7) (pa_cons (pv 8) pa_nil))))))
      (Evl.pss_cut (ps_set (i := 10) scSld.nd rfl (.inl rfl) (pe_tupN (pa_cons pe_str (pa_cons (pe_call GD hr2 (by rfl) gD FD.kp bD .nil pass0 (pa_cons (pv 0) (pa_cons (pe_callB call_len_seq (by rfl) T.z_len (by decide +kernel) (pa_cons (pv 1) pa_nil)) pa_nil))) pa_nil))))
      (Evl.pss_cut (ps_if (pt_cmpR (op_neD hr.units) (pv 9) (pe_lstN pa_nil) (nomark _)) (pss_one (ps_set (i := 10) scSld.nd rfl (.inl rfl) (pe_ix ix_list (pv 9) (pe_call GD hr2 (by rfl) gD FD.kp bD .nil pass0 (pa_cons (pv 0) (pa_cons (pe_callB call_len_seq (by rfl) T.z_len (by decide +kernel) (pa_cons (pv 9) pa_nil)) pa_nil))) (fun _ _ => rfl)))) pss_nil)
      (Evl.pss_cut (ps_expr (pe_bm PySem.F.plainAttrs_list PySem.F.slot_list_append PySem.F.type_list_append mt_append (pv 3) (pa_cons (pv 10) pa_nil)))
      (pss_one (ps_expr (pe_bm PySem.F.plainAttrs_list PySem.F.slot_list_append PySem.F.type_list_append mt_append (pv 4) (pa_cons (pe_call GR hr2 (by rfl) gR FR.kp bR .nil pass0 (pa_cons (pv 1) (pa_cons (pv 4) (pa_cons (pv 10) pa_nil)))) pa_nil))))))))))))
      (pss_one (ps_ret (pv 3)))))), ?_⟩
    obtain ⟨ba, bvs, rfl, hbt, aB⟩ := bk_all hb
    have lb := aB.1
    -- rows
    refine Evl.q_cut (M := fun σ' H' => ∃ (R : Addr) (n : Nat), σ' = [some (.ref f), some (.ref ba), some (.int m), some (.ref R), none, none, none, none, none, none, none] ∧ n < css.length ∧ Feed H' f c (B + 1) ∧ Ke (· = f) H H' ∧ RwL H' R [.book n] ∧ Frs H R ∧ R ≠ f ∧ R ≠ c) ?_ ?_
    · refine ⟨_, rfl, _, rfl, ba, _, rfl, .inr (.of hbt), f, c, _, B, rfl, by omega, by omega, hF, by omega, fun d H1 d0 d1 F1 b1 => ?_⟩
      refine ⟨by show 2 ≤ sizeLine; decide, fun p H2 np s2 hp _ => ?_⟩
      refine ⟨by show 1 ≤ sizeLine; decide, fun R H3 nR s3 hR _ => ?_⟩
      have k1 : Ke (· = f) H H1 := .but hF b1
      have k2 : Ke (· = f) H H2 := k1.trans (.same s2)
      have F2 := F1.same s2
      have hp3 := s3 _ _ hp
      have e : d = ((d.toNat : Nat) : Int) := (Int.toNat_of_nonneg d0).symm
      rw [e] at hp3
      exact ⟨R, d.toNat, rfl, by omega, F2.same s3, k2.trans (.same s3), ⟨_, hR, one2 ⟨p, rfl, hp3⟩⟩, .ke k2 F2 (.of nR), F2.nf nR, F2.nc nR⟩
    rintro σ' H1 ⟨R, n, rfl, ln, F1, k1, hR, frR, nRf, nRc⟩
    -- claims
    refine Evl.q_cut (M := fun σ' H' => ∃ (C : Addr) (c0 : List Int), σ' = [some (.ref f), some (.ref ba), some (.int m), some (.ref R), some (.ref C), none, none, none, none, none, none] ∧ css[n]? = some c0 ∧ Sv f c R C [.book n] [c0] (B + 1) H H' ∧ Frs H C ∧ C ≠ f ∧ C ≠ c ∧ C ≠ R) ?_ ?_
    · obtain ⟨rvs, hR1, aR⟩ := id hR
      have l1 := aR.1
      match rvs, l1 with
      | [v], _ =>
        obtain ⟨a, rfl, ha⟩ := aR.2 0 v _ rfl rfl
        have hb1 := k1.tups _ _ hbt
        have lbn : n < bvs.length := by omega
        obtain ⟨c0, hc0, p, ep, hp⟩ := aB.at (List.getElem?_eq_getElem lbn)
        refine ⟨_, rfl, _, rfl, R, _, 0, .ref a, rfl, rfl, .of hR1, rfl, a, _, 1, .int (n : Nat), rfl, rfl, .of ha, rfl, ba, bvs, _, .ref p, rfl, rfl, .of hb1, at_of (j := n) rfl (by rw [List.getElem?_eq_getElem lbn, ep]), ?_⟩
        refine ⟨by show 1 ≤ sizeLine; decide, fun C H2 nC s2 hC _ => ?_⟩
        have k2 : Ke (· = f) H1 H2 := .same s2
        refine ⟨C, c0, rfl, hc0, ⟨F1.same s2, k1.trans k2, hR.ke k2 nRf, ⟨_, hC, one2 ⟨p, rfl, (k1.trans k2).tups _ _ hp⟩⟩⟩, .ke k1 F1 (.of nC), F1.nf nC, F1.nc nC, fun z => ?_⟩
        rw [z, hR1] at nC
        cases nC
    clear hR
    rintro σ' H2 ⟨C, c0, rfl, hc0, x2, frC, nCf, nCc, nCR⟩
    have ld0 : Lad css [Rw.book n] [c0] := (Lad.nil css).snoc hc0
    refine ⟨_, rfl, _, _, rfl, rfl, m - 1, rfl, by omega, by omega, for_range (Pv := fun t σ H' => ∃ (rows : List Rw) (cls : List (List Int)) (y5 y6 y7 y8 y9 y10 : Option V), σ = [some (.ref f), some (.ref ba), some (.int m), some (.ref R), some (.ref C), y5, y6, y7, y8, y9, y10] ∧ Sv f c R C rows cls (B + 1 + 5 * t) H H' ∧ Lad css rows cls ∧ rows.length = t + 1) ?_ ?_ ?_⟩
    · exact ⟨_, _, none, none, none, none, none, none, rfl, x2, ld0, rfl⟩
    · rintro t σ H3 ht ⟨rows, cls, y5, y6, y7, y8, y9, y10, rfl, x3, ld, lr⟩
      have ht : t < (m - 1).toNat := ht
      have lcl := ld.1
      have icl := ld.isCl ib
      obtain ⟨rvs, hR3, aR⟩ := id x3.rw
      have lrv := aR.1
      -- near
      refine Evl.q_cut (M := fun σ' H' => ∃ z : Int, σ' = [some (.ref f), some (.ref ba), some (.int m), some (.ref R), some (.ref C), some (.int (0 + (t : Int))), some (.int z), y7, y8, y9, y10] ∧ Sv f c R C rows cls (B + 1 + 5 * t + 1) H H' ∧ 1 ≤ z ∧ z ≤ rows.length) ?_ ?_
      · refine ⟨_, rfl, R, _, rfl, .inl (.of hR3), _, rfl, f, c, 6, _, rfl, by decide, by decide, x3.fe, by omega, fun d H4 d0 d1 F4 b4 => ?_⟩
        refine ⟨_, _, rfl, rfl, _, _, rfl, ?_⟩
        refine ⟨_, rfl, x3.step (.but x3.fe b4) F4 nRf nCf, ?_, ?_⟩
        · split <;> omega
        · split <;> omega
      clear hR3 aR
      rintro σ' H4 ⟨z, rfl, x4, z1, z2⟩
      obtain ⟨rvs, hR4, aR⟩ := id x4.rw
      have lrv := aR.1
      -- i
      refine Evl.q_cut (M := fun σ' H' => ∃ i : Nat, σ' = [some (.ref f), some (.ref ba), some (.int m), some (.ref R), some (.ref C), some (.int (0 + (t : Int))), some (.int z), some (.int (i : Nat)), y8, y9, y10] ∧ Sv f c R C rows cls (B + 1 + 5 * t + 2) H H') ?_ ?_
      · refine ⟨_, rfl, R, _, rfl, .inl (.of hR4), _, _, rfl, rfl, _, rfl, _, rfl, f, c, _, _, rfl, by omega, by omega, x4.fe, by omega, fun d H5 d0 d1 F5 b5 => ?_⟩
        refine ⟨_, _, rfl, rfl, ?_⟩
        refine ⟨((rvs.length : Int) - 1 - d).toNat, ?_, x4.step (.but x4.fe b5) F5 nRf nCf⟩
        rw [Int.toNat_of_nonneg (by omega)]
        rfl
      clear hR4 aR
      rintro σ' H5 ⟨i, rfl, x5⟩
      obtain ⟨rvs, hR5, aR⟩ := id x5.rw
      have lrv := aR.1
      -- j
      refine Evl.q_cut (M := fun σ' H' => ∃ j : Nat, σ' = [some (.ref f), some (.ref ba), some (.int m), some (.ref R), some (.ref C), some (.int (0 + (t : Int))), some (.int z), some (.int (i : Nat)), some (.int (j : Nat)), y9, y10] ∧ Sv f c R C rows cls (B + 1 + 5 * t + 3) H H') ?_ ?_
      · refine ⟨_, rfl, _, rfl, R, _, rfl, .inl (.of hR5), f, c, _, _, rfl, by omega, by omega, x5.fe, by omega, fun d H6 d0 d1 F6 b6 => ?_⟩
        refine ⟨d.toNat, ?_, x5.step (.but x5.fe b6) F6 nRf nCf⟩
        rw [Int.toNat_of_nonneg d0]
        rfl
      clear hR5 aR
      rintro σ' H6 ⟨j, rfl, x6⟩
      -- ways
      refine Evl.q_cut (M := fun σ' H' => ∃ (W : Addr) (ws : List Rw), σ' = [some (.ref f), some (.ref ba), some (.int m), some (.ref R), some (.ref C), some (.int (0 + (t : Int))), some (.int z), some (.int (i : Nat)), some (.int (j : Nat)), some (.ref W), y10] ∧ Sv f c R C rows cls (B + 1 + 5 * t + 3) H H' ∧ RwL H' W ws ∧ ws.length ≤ 16 ∧ W ≠ f ∧ ∀ r ∈ ws, ∃ c, RowCl css cls r c) ?_ ?_
      · refine ⟨_, rfl, _, rfl, _, rfl, _, rfl, .ref ba, C, i, j, css, cls, rfl, hb.ke x6.ke, x6.cl, ib, icl, fun W ws H7 s7 hW lw ok => ?_⟩
        refine ⟨W, ws, rfl, x6.same s7 nRf nCf, hW, lw, fun z => ?_, ok⟩
        have := x6.fe.same s7
        obtain ⟨_, _, _, h1, _⟩ := this
        obtain ⟨wvs, h2, a2⟩ := hW
        rw [z, h1] at h2
        cases h2
        have h4 := a2.at (i := 1) rfl
        obtain ⟨y2, _, a', e', _⟩ := h4
        cases e'
      rintro σ' H7 ⟨W, ws, rfl, x7, hW, lw, nWf, ok⟩
      -- row
      refine Evl.q_cut (M := fun σ' H' => ∃ (v : V) (n : Nat), σ' = [some (.ref f), some (.ref ba), some (.int m), some (.ref R), some (.ref C), some (.int (0 + (t : Int))), some (.int z), some (.int (i : Nat)), some (.int (j : Nat)), some (.ref W), some v] ∧ Sv f c R C rows cls (B + 1 + 5 * t + 4) H H' ∧ RwL H' W ws ∧ n < css.length ∧ RowAt H' v (.book n)) ?_ ?_
      · refine ⟨_, rfl, _, rfl, ba, _, rfl, .inr (.of (x7.ke.tups _ _ hbt)), f, c, _, _, rfl, by omega, by omega, x7.fe, by omega, fun d H8 d0 d1 F8 b8 => ?_⟩
        refine ⟨by show 2 ≤ sizeLine; decide, fun p H9 np s9 hp _ => ?_⟩
        have k8 : Ke (· = f) H7 H8 := .but x7.fe b8
        have e : d = ((d.toNat : Nat) : Int) := (Int.toNat_of_nonneg d0).symm
        rw [e] at hp
        exact ⟨_, d.toNat, rfl, (x7.step k8 F8 nRf nCf).same s9 nRf nCf, (hW.ke k8 nWf).ke (Ke.same (F := (· = f)) s9) nWf, by omega, p, rfl, hp⟩
      clear hW
      rintro σ' H8 ⟨v, n', rfl, x8, hW, ln', rv⟩
      -- one of the ways
      refine Evl.q_cut (M := fun σ' H' => ∃ (v : V) (r : Rw) (cr : List Int), σ' = [some (.ref f), some (.ref ba), some (.int m), some (.ref R), some (.ref C), some (.int (0 + (t : Int))), some (.int z), some (.int (i : Nat)), some (.int (j : Nat)), some (.ref W), some v] ∧ Sv f c R C rows cls (B + 1 + 5 * t + 5) H H' ∧ RowAt H' v r ∧ RowCl css cls r cr) ?_ ?_
      · obtain ⟨wvs, hW8, aW⟩ := id hW
        refine ⟨_, rfl, Nat.zero_le _, fun p H9 np s9 hp _ => ?_⟩
        have x9 := x8.same s9 nRf nCf
        have hW9 := hW.ke (Ke.same (F := (· = f)) s9) nWf
        obtain ⟨wvs, hW9', aW9⟩ := id hW9
        match ws, wvs, aW9, hW9', ok, lw with
        | [], [], _, hW9', _, _ =>
          refine ⟨_, _, .lst (.of hW9') .nil, .lst (.of hp) .nil, rfl, rfl, false, rfl, ?_⟩
          refine ⟨v, .book n', css[n'], rfl, ⟨x9.fe.mono (by omega), x9.ke, x9.rw, x9.cl⟩, rv.ke (Ke.same (F := (· = f)) s9), List.getElem?_eq_getElem ln'⟩
        | [], _ :: _, aW9, _, _, _ => cases aW9.1
        | _ :: _, [], aW9, _, _, _ => cases aW9.1
        | r0 :: rt, v0 :: vt, aW9, hW9', ok, lw =>
          refine ⟨_, _, .lst (.of hW9') (dp_rows aW9), .lst (.of hp) .nil, shaped_rows (r0 :: rt), rfl, true, rfl, ?_⟩
          have lw2 := aW9.1
          refine ⟨_, rfl, _, rfl, _, rfl, W, _, rfl, .inl (.of hW9'), f, c, _, _, rfl, by rw [lw2, List.length_cons]; omega, by rw [lw2]; omega, x9.fe, by omega, fun d H10 d0 d1 F10 b10 => ?_⟩
          have k10 : Ke (· = f) H9 H10 := .but x9.fe b10
          have dl : d.toNat < (v0 :: vt).length := by omega
          obtain ⟨r, hr', rv'⟩ := aW9.at (List.getElem?_eq_getElem dl)
          obtain ⟨cr, hcr⟩ := ok r (List.mem_of_getElem? hr')
          refine ⟨W, _, d, _, rfl, rfl, .of (k10.lst hW9' nWf), at_of (j := d.toNat) (by omega) (List.getElem?_eq_getElem dl), ?_⟩
          exact ⟨_, r, cr, rfl, x9.step k10 F10 nRf nCf, rv'.ke k10, hcr⟩
      clear rv hW
      rintro σ' H9 ⟨v, r, cr, rfl, x9, rv, rc⟩
      -- rows.append(row)
      obtain ⟨rvs, hR9, aR⟩ := id x9.rw
      obtain ⟨cvs, hC9, aC⟩ := id x9.cl
      have l1 := aR.1
      have l2 := aC.1
      refine Evl.q_cut (M := fun σ' H' => σ' = [some (.ref f), some (.ref ba), some (.int m), some (.ref R), some (.ref C), some (.int (0 + (t : Int))), some (.int z), some (.int (i : Nat)), some (.int (j : Nat)), some (.ref W), some v] ∧ Sv f c R C (rows ++ [r]) cls (B + 1 + 5 * t + 5) H H' ∧ RowAt H' v r) ?_ ?_
      · refine ⟨_, rfl, .inl ⟨rfl, _, .of hR9⟩, _, rfl, R, _, _, rfl, rfl, hR9, small1000 (by omega), ?_⟩
        refine ⟨rfl, ⟨x9.fe.upd nRf nRc, x9.ke.write frR hR9, rw_snoc hR9 aR rv, ?_⟩, RowAt.wr rv hR9⟩
        exact ⟨cvs, by rw [upd_ne nCR]; exact hC9, aC.imp fun _ _ h => TupI.wr h hR9⟩
      clear hR9 hC9 aR aC l1 l2
      rintro σ' H10 ⟨rfl, x10, rv⟩
      -- claims.append(..)
      obtain ⟨cvs, hC10, aC⟩ := id x10.cl
      have l2 := aC.1
      refine ⟨_, rfl, .inl ⟨rfl, _, .of hC10⟩, _, rfl, _, rfl, _, rfl, .ref ba, v, C, css, cls, r, rfl, hb.ke x10.ke, x10.cl, rv, ib, icl, fun H11 s11 no => (no _ rc).elim, fun c' p H11 s11 rc' hp => ?_⟩
      obtain rfl := rc.one rc'
      have hC11 := s11 _ _ hC10
      have x11 := x10.same s11 nRf nCf
      refine ⟨C, _, _, rfl, rfl, hC11, small1000 (by omega), ?_⟩
      obtain ⟨rvs, hR11, aR⟩ := id x11.rw
      refine ⟨rows ++ [r], cls ++ [cr], _, _, _, _, _, _, rfl, ⟨(x11.fe.upd nCf nCc).mono (by omega), x11.ke.write frC hC11, ?_, ?_⟩, ld.snoc rc, by rw [List.length_append, lr]; rfl⟩
      · exact ⟨rvs, by rw [upd_ne (Ne.symm nCR)]; exact hR11, aR.imp fun _ _ h => RowAt.wr h hC11⟩
      · exact cl_snoc hC11 (aC.imp fun _ _ h => h.ke (Ke.same (F := Nof) s11)) ⟨p, rfl, hp⟩
    · rintro σ H3 ⟨rows, cls, y5, y6, y7, y8, y9, y10, rfl, x3, ld, lr⟩
      exact ⟨_, rfl, q R rows cls H3 (x3.fe.mono (by omega)) x3.ke frR x3.rw ld (by omega)⟩
abbrev sSca : Stmt := topS 41
theorem scSca : FnScope ["feed", "things", "book", "most"] ["feed"] (defScope sSca) := ⟨rfl, rfl, rfl, by decide +kernel, rfl, by decide +kernel, by decide +kernel⟩
/-- a book and a ladder by it, drawn -/
def spSca : Sp := fun vs H Q _ => ∃ (f c : Addr) (B : Nat), vs = [.ref f] ∧ Feed H f c B ∧ B ≤ 2 ^ 56 ∧
  ∀ (t L : Addr) (b : V) (css cls : List (List Int)) (rows : List Rw) (H' : Hp), Feed H' f c (B + 3000) → Ke (· = f) H H' → H' t = some (.tup [b, .ref L]) → L ≠ f → L ≠ c → Frs H L → BL H' b L css rows cls → 1 ≤ css.length → css.length ≤ 16 → 1 ≤ rows.length → rows.length ≤ 40 → Q (.ref t) H'
theorem not_f {H : Hp} {p f c : Addr} {B : Nat} (h : Frs H p) (F : Feed H f c B) : p ≠ f ∧ p ≠ c := by
  obtain ⟨_, _, _, h1, h2, _⟩ := F
  exact ⟨Ne.symm (h f _ h1 fun ps z => by cases z), Ne.symm (h c _ h2 fun ps z => by cases z)⟩
theorem pick {ns : List Int} {d : Int} (d0 : 0 ≤ d) (d1 : d < ns.length) : ∃ mo, mo ∈ ns ∧ atI (ns.map V.int) d = some (.int mo) := by
  have l : d.toNat < ns.length := by omega
  exact ⟨ns[d.toNat], List.getElem_mem l, at_of (j := d.toNat) (by omega) (by rw [List.getElem?_map, List.getElem?_eq_getElem l]; rfl)⟩
theorem ok_sca {f fD fT fB fL : Addr} {fd fdD fdT fdB fdL : FuncData} {k : Nat} (F : Fun K "_law_scase" "_law_scase" sSca f fd) (FD : Fun K "_law_sdraw" "_law_sdraw" sDrw fD fdD) (bD : Binds K fdD ["feed", "many"] []) (gD : mg "_law_sdraw" = some (.ref fD)) (GD : FnOk P w K mg base CX0 2 fD fdD ["feed", "many"] spDrw)
    (FT : Fun K "_law_sthings" "_law_sthings" sThg fT fdT) (bT : Binds K fdT ["feed", "least", "most"] []) (gT : mg "_law_sthings" = some (.ref fT)) (GT : FnOk P w K mg base CX0 3 fT fdT ["feed", "least", "most"] spThg)
    (FB : Fun K "_law_sbook" "_law_sbook" sBok fB fdB) (bB : Binds K fdB ["feed", "things", "most"] []) (gB : mg "_law_sbook" = some (.ref fB)) (GB : FnOk P w K mg base CX0 4 fB fdB ["feed", "things", "most"] spBok)
    (FL : Fun K "_law_sladder" "_law_sladder" sSld fL fdL) (bL : Binds K fdL ["feed", "book", "many"] []) (gL : mg "_law_sladder" = some (.ref fL)) (GL : FnOk P w K mg base CX0 4 fL fdL ["feed", "book", "many"] spSld) :
    FnOk P w K mg base CX0 (k + 5) f fd ["feed"] spSca := by
  refine F.ok scSca (fun vs H Q E h => ?_) (fun cdv A outer s H vs Q E hr h => ?_)
  · obtain ⟨f, c, B, rfl, _⟩ := h
    rfl
  · obtain ⟨f, c, B, rfl, hF, hB, q⟩ := h
    have hr2 : Room 2 _ := hr.mono (by omega)
    have hr3 : Room 3 _ := hr.mono (by omega)
    have hr4 : Room 4 _ := hr.mono (by omega)
    refine ⟨_, (Evl.pss_cut (ps_set (i := 1) scSca.nd rfl (.inl rfl) (pe_call GT hr3 (by rfl) gT FT.kp bT .nil pass0 (pa_cons (pv 0) (pa_cons pe_int (pa_cons (pe_ix ix_list (pe_lstN (pa_cons pe_int (pa_cons pe_int pa_nil))) (pe_call GD hr2 (by rfl) gD FD.kp bD .nil pass0 (pa_cons (pv 0) (pa_cons pe_int pa_nil))) (fun _ _ => rfl)) pa_nil)))))
      (Evl.pss_cut (ps_set (i := 2) scSca.nd rfl (.inl rfl) (pe_call GB hr4 (by rfl) gB FB.kp bB .nil pass0 (pa_cons (pv 0) (pa_cons (pv 1) (pa_cons (pe_ix ix_list (pe_lstN (pa_cons pe_int (pa_cons pe_int (pa_cons pe_int pa_nil)))) (pe_call GD hr2 (by rfl) gD FD.kp bD .nil pass0 (pa_cons (pv 0) (pa_cons pe_int pa_nil))) (fun _ _ => rfl)) pa_nil)))))
      (Evl.pss_cut (ps_set (i := 3) scSca.nd rfl (.inl rfl) (pe_ix ix_list (pe_lstN (pa_cons pe_int (pa_cons pe_int (pa_cons pe_int pa_nil)))) (pe_call GD hr2 (by rfl) gD FD.kp bD .nil pass0 (pa_cons (pv 0) (pa_cons pe_int pa_nil))) (fun _ _ => rfl)))
      (pss_one (ps_ret (pe_tupN (pa_cons (pv 2) (pa_cons (pe_call GL hr4 (by rfl) gL FL.kp bL .nil pass0 (pa_cons (pv 0) (pa_cons (pv 2) (pa_cons (pe_op op_add pe_int (pe_call GD hr2 (by rfl) gD FD.kp bD .nil pass0 (pa_cons (pv 0) (pa_cons (pv 3) pa_nil)))) pa_nil)))) pa_nil)))))))), ?_⟩
    -- things
    refine Evl.q_cut (M := fun σ' H' => ∃ (t : Addr) (ks : List Int), σ' = [some (.ref f), some (.ref t), none, none] ∧ Feed H' f c (B + 20) ∧ Ke (· = f) H H' ∧ H' t = some (.lst (ks.map V.int)) ∧ t ≠ f ∧ Thg ks ∧ 2 ≤ ks.length) ?_ ?_
    · refine ⟨_, rfl, by show 2 ≤ sizeLine; decide, fun p H1 np s1 hp _ => ?_⟩
      refine ⟨_, rfl, f, c, 2, B, rfl, by decide, by decide, hF.same s1, by omega, fun d H2 d0 d1 F2 b2 => ?_⟩
      have npf : p ≠ f := hF.nf np
      have hp2 := (b2 p npf).trans hp
      have k2 : Ke (· = f) H H2 := (Ke.same s1).trans (.but (hF.same s1) b2)
      obtain ⟨mo, hm, hat⟩ := pick (ns := [6, 8]) d0 d1
      have hm2 : mo = 6 ∨ mo = 8 := by simpa using hm
      refine ⟨p, _, d, .int mo, rfl, rfl, .of hp2, hat, f, c, 2, mo, _, rfl, by decide, by omega, by omega, F2, by omega, fun ks t H3 F3 k3 fr ht Tk l1 l2 => ?_⟩
      exact ⟨t, ks, rfl, F3.mono (by omega), k2.trans k3, ht, (not_f fr F2).1, Tk, by omega⟩
    rintro σ' H1 ⟨t, ks, rfl, F1, k1, ht, ntf, Tk, l2⟩
    -- book
    refine Evl.q_cut (M := fun σ' H' => ∃ (b : V) (css : List (List Int)), σ' = [some (.ref f), some (.ref t), some b, none] ∧ Feed H' f c (B + 600) ∧ Ke (· = f) H H' ∧ Bk H' b css ∧ (∀ c ∈ css, IsCl c) ∧ 1 ≤ css.length ∧ css.length ≤ 16) ?_ ?_
    · refine ⟨_, rfl, _, rfl, by show 3 ≤ sizeLine; decide, fun p H2 np s2 hp _ => ?_⟩
      refine ⟨_, rfl, f, c, 3, _, rfl, by decide, by decide, F1.same s2, by omega, fun d H3 d0 d1 F3 b3 => ?_⟩
      have npf : p ≠ f := F1.nf np
      have hp3 := (b3 p npf).trans hp
      have k3 : Ke (· = f) H1 H3 := (Ke.same s2).trans (.but (F1.same s2) b3)
      obtain ⟨mo, hm, hat⟩ := pick (ns := [9, 9, 16]) d0 d1
      have hm2 : mo = 9 ∨ mo = 16 := by simpa using hm
      refine ⟨p, _, d, .int mo, rfl, rfl, .of hp3, hat, f, c, t, mo, _, ks, rfl, by omega, by omega, k3.lst ht ntf, Tk, (fun z => by rw [z] at l2; cases l2), ntf, F3, by omega, fun css pb H4 F4 k4 _ hb hc m1 m2 => ?_⟩
      exact ⟨_, css, rfl, F4.mono (by omega), (k1.trans k3).trans k4, hb, fun c hc' => (hc c hc').1, m1, by omega⟩
    rintro σ' H2 ⟨b, css, rfl, F2, k2, hb, ib, m1, m2⟩
    -- most
    refine Evl.q_cut (M := fun σ' H' => ∃ mo : Int, σ' = [some (.ref f), some (.ref t), some b, some (.int mo)] ∧ Feed H' f c (B + 601) ∧ Ke (· = f) H2 H' ∧ 8 ≤ mo ∧ mo ≤ 40) ?_ ?_
    · refine ⟨by show 3 ≤ sizeLine; decide, fun p H3 np s3 hp _ => ?_⟩
      refine ⟨_, rfl, f, c, 3, _, rfl, by decide, by decide, F2.same s3, by omega, fun d H4 d0 d1 F4 b4 => ?_⟩
      have npf : p ≠ f := F2.nf np
      have hp4 := (b4 p npf).trans hp
      obtain ⟨mo, hm, hat⟩ := pick (ns := [8, 20, 40]) d0 d1
      have hm2 : mo = 8 ∨ mo = 20 ∨ mo = 40 := by simpa using hm
      refine ⟨p, _, d, .int mo, rfl, rfl, .of hp4, hat, mo, rfl, F4, (Ke.same s3).trans (.but (F2.same s3) b4), by omega, by omega⟩
    rintro σ' H3 ⟨mo, rfl, F3, k3, mo1, mo2⟩
    refine ⟨_, rfl, _, rfl, _, rfl, _, rfl, _, rfl, f, c, mo, _, rfl, by omega, by omega, F3, by omega, fun d H4 d0 d1 F4 b4 => ?_⟩
    have k4 : Ke (· = f) H2 H4 := k3.trans (.but F3 b4)
    refine ⟨_, _, rfl, rfl, f, c, b, _, _, css, rfl, by omega, by omega, hb.ke k4, ib, m1, m2, F4, by omega, fun L rows cls H5 F5 k5 fr hL ld lr => ?_⟩
    refine ⟨by show 2 ≤ sizeLine; decide, fun tt H6 nt s6 htt _ => ?_⟩
    have k6 : Ke (· = f) H2 H6 := (k4.trans k5).trans (.same s6)
    have nn := not_f fr F4
    exact q tt L b css cls rows H6 ((F5.same s6).mono (by omega)) (k2.trans k6) htt nn.1 nn.2 (.ke (k2.trans k4) F4 fr) ⟨hb.ke k6, hL.ke (Ke.same (F := (· = f)) s6) nn.1, ld, ib, by omega⟩ m1 m2 (by omega) (by omega)
end
end Ll
namespace Xb
open PySem PySem.Spec PyProof.Rows L2 Nw Kp Lr
/-! ### is (not) True; enumerate over a list; claims as data -/
def rNotB : R2 := fun x y H Q => ∃ b c : Bool, x = .bl b ∧ y = .bl c ∧ Q (.bl (b != c)) H
theorem op_notB {X : Cx} : OpR X (compareOp .IsNot) rNotB := by
  intro pins s σ H x y v u Q I rx ry h
  obtain ⟨b, c, rfl, rfl, q⟩ := h
  cases rx
  cases ry
  exact isnot_bool ⟨.bl _, H, I, rfl, q⟩
theorem for_enl {K : PySem.W.Frag} {a : Addr} {xs : List V} {g : TG} {tb : TS} {D : Ends} {σ : L2.St} {H : Hp} (Pv : Nat → L2.St → Hp → Prop) (h0 : Pv 0 σ H) (hl : ∀ i σ H, i ≤ xs.length → Pv i σ H → SqL K H a xs)
    (hs : ∀ i x σ H T, xs[i]? = some x → Pv i σ H → H T = none → g (.ref T) σ (upd H T (.tup [.int (i : Nat), x])) fun σ2 H2 => tb { D with nx := Pv (i + 1), ct := Pv (i + 1), bk := D.nx } σ2 H2) (hd : ∀ σ H, Pv xs.length σ H → D.nx σ H) :
    ∃ W : Nat → Nat → L2.St → Hp → Prop, (∃ m, W 0 m σ H) ∧ ∀ i m σ H, W i m σ H →
      ((Ite K a).stop i H ∧ D.nx σ H) ∨ ((Ite K a).go i H ∧ ∃ N : L2.St → Hp → Prop, (∀ σ' H', N σ' H' → ∃ m', m' < m ∧ W (i + 1) m' σ' H') ∧ ∀ x H', (Ite K a).yld i H x H' → g x σ H' fun σ2 H2 => tb { D with nx := N, ct := N, bk := D.nx } σ2 H2) := by
  refine ⟨fun i m σ H => i + m = xs.length ∧ Pv i σ H, ⟨xs.length, Nat.zero_add _, h0⟩, fun i m σ H ⟨e, p⟩ => ?_⟩
  have sq := hl i σ H (by omega) p
  cases m with
  | zero =>
    obtain rfl : i = xs.length := by omega
    exact .inl ⟨⟨xs, sq, Nat.le_refl _⟩, hd σ H p⟩
  | succ m =>
    have hx := List.getElem?_eq_getElem (show i < xs.length by omega)
    refine .inr ⟨⟨xs, _, sq, hx⟩, Pv (i + 1), fun σ' H' q => ⟨m, Nat.lt_succ_self m, by omega, q⟩, ?_⟩
    rintro y H' ⟨T, x, rfl, nT, rfl, hy⟩
    exact hs i x σ H T (hy xs sq) p nT
def cdat (c : List Int) : PyData := .tuple (c.map PyData.int)
theorem dp_cls {K : PySem.W.Frag} {H : Hp} : ∀ {vs : List V} {cls : List (List Int)}, All2 (TupI H) vs cls → DpAll K H vs (cls.map cdat)
  | [], [], _ => .nil
  | [], r :: t, h => by cases h.1
  | v :: t, [], h => by cases h.1
  | v :: t, c :: u, h => by
    obtain ⟨a, rfl, ha⟩ := h.2 0 v c rfl rfl
    exact .cons (.tup (.of ha) (dp_ints c)) (dp_cls ⟨by have := h.1; simp only [List.length_cons] at this; omega, fun i x y h1 h2 => h.2 (i + 1) x y h1 h2⟩)
theorem lay_cls : ∀ cls : List (List Int), PyData.canLayAll0 (cls.map cdat) = true ∧ PyData.depthAll (cls.map cdat) ≤ 3
  | [] => ⟨rfl, by decide⟩
  | c :: t => by
    obtain ⟨h1, h2⟩ := lay_cls t
    refine ⟨?_, ?_⟩
    · show (PyData.canLayAll0 (c.map PyData.int) && PyData.canLayAll0 (t.map cdat)) = true
      rw [h1, flat_lay _ (flat_ints c)]
      rfl
    · show Nat.max (PyData.depthAll (c.map PyData.int) + 1) (PyData.depthAll (t.map cdat)) ≤ 3
      have := flat_depth _ (flat_ints c)
      exact Nat.max_le.mpr ⟨by omega, h2⟩
theorem shaped_cls (cls : List (List Int)) : SeqAt.shaped (.list (cls.map cdat)) = true := by
  obtain ⟨h1, h2⟩ := lay_cls cls
  show (PyData.canLayAll0 (cls.map cdat) && decide (PyData.depthAll (cls.map cdat) + 1 ≤ 64)) = true
  rw [h1, decide_eq_true (by omega)]
  rfl
theorem cut_to (xs : List V) (n : Nat) : cutV xs none (some (n : Int)) = xs.take n := by
  unfold cutV
  rw [HT.sIx_none, HT.sIx_nat, List.drop_zero, Nat.sub_zero]
  by_cases h : n ≤ xs.length
  · rw [Nat.min_eq_left h]
  · rw [Nat.min_eq_right (by omega), List.take_length, List.take_of_length_le (by omega)]
end Xb
namespace Wg
open PySem PySem.Spec PyProof.Rows L2 GxR Nw Dr Kp Se Ct Lr Lp Ll Od
/-! ### rows and ladders: of anything -/
section
variable {P : Program} {w : World} {K : PySem.W.Frag} {mg : Str → Option Value} {base : Heap} {CX : CXT} {k : Nat} {f : Addr} {fd : FuncData} {ps : List Str}
def orS (a b : Sp) : Sp := fun vs H Q E => a vs H Q E ∨ b vs H Q E
theorem ok_or {a b : Sp} (F : FnOk P w K mg base CX k f fd ps a) (G : FnOk P w K mg base CX k f fd ps b) : FnOk P w K mg base CX k f fd ps (orS a b) :=
  ⟨fun us H Q E h => h.elim (F.len us H Q E) (G.len us H Q E), fun A outer s H args us vs Q E room env bind rel ask => ask.elim (F.run A outer s H args us vs Q E room env bind rel) (G.run A outer s H args us vs Q E room env bind rel)⟩
theorem ok_weak {a b : Sp} (F : FnOk P w K mg base CX k f fd ps a) (i : ∀ vs H Q E, b vs H Q E → a vs H Q E) : FnOk P w K mg base CX k f fd ps b :=
  ⟨fun us H Q E h => F.len us H Q E (i _ _ _ _ h), fun A outer s H args us vs Q E room env bind rel ask => F.run A outer s H args us vs Q E room env bind rel (i _ _ _ _ ask)⟩
end
/-! ### data -/
theorem eqv_str {d : PyData} {x : Str} : PyData.eqv d (.str x) = true ↔ d = .str x := by
  cases d <;> simp [PyData.eqv]
theorem two_of {f0 : Addr → Prop} {H : Hp} {xs : List V} {ds : List PyData} (h : OdAll f0 H xs ds) (l : xs.length = 2) : ∃ v0 v1 d0 d1, xs = [v0, v1] ∧ ds = [d0, d1] ∧ OdV f0 H v0 d0 ∧ OdV f0 H v1 d1 := by
  match xs, l, h with
  | [v0, v1], _, .cons h0 (.cons h1 .nil) => exact ⟨v0, v1, _, _, rfl, rfl, h0, h1⟩
theorem four_of {f0 : Addr → Prop} {H : Hp} {xs : List V} {ds : List PyData} (h : OdAll f0 H xs ds) (l : xs.length = 4) : ∃ v0 v1 v2 v3 d0 d1 d2 d3, xs = [v0, v1, v2, v3] ∧ ds = [d0, d1, d2, d3] ∧ OdV f0 H v0 d0 ∧ OdV f0 H v1 d1 ∧ OdV f0 H v2 d2 ∧ OdV f0 H v3 d3 := by
  match xs, l, h with
  | [v0, v1, v2, v3], _, .cons h0 (.cons h1 (.cons h2 (.cons h3 .nil))) => exact ⟨v0, v1, v2, v3, _, _, _, _, rfl, rfl, h0, h1, h2, h3⟩
theorem num_int {d : PyData} {m : Int} (h : numD d m = true) : ∃ n : Nat, d = .int (n : Nat) ∧ ((n : Nat) : Int) < m := by
  cases d with
  | int i =>
    have h : (decide (0 ≤ i) && decide (i < m)) = true := h
    rw [Bool.and_eq_true] at h
    have h1 := of_decide_eq_true h.1
    have h2 := of_decide_eq_true h.2
    exact ⟨i.toNat, by rw [Int.toNat_of_nonneg h1], by omega⟩
  | _ => cases h
theorem num_yes {n : Nat} {m : Int} (h : (n : Int) < m) : numD (.int (n : Nat)) m = true := by
  show (decide ((0 : Int) ≤ (n : Nat)) && decide (((n : Nat) : Int) < m)) = true
  rw [decide_eq_true (by omega), decide_eq_true h]
  rfl
theorem dat_two {d0 d1 : PyData} {r : Rw} (h : PyData.tuple [d0, d1] = dat r) : ∃ n : Nat, r = .book n ∧ d0 = .str "book" ∧ d1 = .int (n : Nat) := by
  cases r with
  | book n =>
    have e := PyData.tuple.inj h
    simp only [List.cons.injEq] at e
    exact ⟨n, rfl, e.1, e.2.1⟩
  | cut i j k =>
    have e := congrArg List.length (PyData.tuple.inj h)
    simp at e
theorem dat_four {d0 d1 d2 d3 : PyData} {r : Rw} (h : PyData.tuple [d0, d1, d2, d3] = dat r) : ∃ (i j : Nat) (k : Int), r = .cut i j k ∧ d0 = .str "cut" ∧ d1 = .int (i : Nat) ∧ d2 = .int (j : Nat) ∧ d3 = .int k := by
  cases r with
  | book n =>
    have e := congrArg List.length (PyData.tuple.inj h)
    simp at e
  | cut i j k =>
    have e := PyData.tuple.inj h
    simp only [List.cons.injEq] at e
    exact ⟨i, j, k, rfl, e.1, e.2.1, e.2.2.1, e.2.2.2.1⟩
theorem dat_len {ds : List PyData} {r : Rw} (h : PyData.tuple ds = dat r) : ds.length = 2 ∨ ds.length = 4 := by
  cases r with
  | book n => exact .inl (by rw [PyData.tuple.inj h]; rfl)
  | cut i j k => exact .inr (by rw [PyData.tuple.inj h]; rfl)
theorem dat_tup {d : PyData} {r : Rw} (h : d = dat r) : ∃ ds, d = .tuple ds := by
  cases r with
  | book n => exact ⟨_, h⟩
  | cut i j k => exact ⟨_, h⟩
theorem dat_inj {r q : Rw} (h : dat r = dat q) : r = q := by
  cases r with
  | book n =>
    obtain ⟨m, e, _, e2⟩ := dat_two h
    have : n = m := by
      have := PyData.int.inj e2
      omega
    rw [e, this]
  | cut i j k =>
    obtain ⟨i', j', k', e, _, e1, e2, e3⟩ := dat_four h
    have h1 := PyData.int.inj e1
    have h2 := PyData.int.inj e2
    have h3 := PyData.int.inj e3
    rw [e, h3, show i = i' by omega, show j = j' by omega]
theorem map_inj : ∀ {l m : List Rw}, l.map dat = m.map dat → l = m
  | [], [], _ => rfl
  | [], _ :: _, h => by cases h
  | _ :: _, [], h => by cases h
  | a :: l, b :: m, h => by
    obtain ⟨h1, h2⟩ := List.cons.inj h
    rw [dat_inj h1, map_inj h2]
theorem shaped_all : ∀ {ds : List PyData}, PyData.canLayAll0 ds = true → ∀ e ∈ ds, PyData.canLay0 e = true
  | [], _, e, he => nomatch he
  | d :: r, h, e, he => by
    have h : (PyData.canLay0 d && PyData.canLayAll0 r) = true := h
    rw [Bool.and_eq_true] at h
    rcases List.mem_cons.mp he with z | z
    · rw [z]
      exact h.1
    · exact shaped_all h.2 e z
theorem depth_all : ∀ {ds : List PyData} {e : PyData}, e ∈ ds → e.depth ≤ PyData.depthAll ds
  | d :: r, e, he => by
    have h : PyData.depthAll (d :: r) = Nat.max d.depth (PyData.depthAll r) := rfl
    rw [h]
    rcases List.mem_cons.mp he with z | z
    · rw [z]
      exact Nat.le_max_left _ _
    · exact Nat.le_trans (depth_all z) (Nat.le_max_right _ _)
theorem shaped_mk {d : PyData} (h : PyData.canLay0 d = true) (l : d.depth ≤ 64) : SeqAt.shaped d = true := by
  show (PyData.canLay0 d && decide (d.depth ≤ 64)) = true
  rw [h, decide_eq_true l]
  rfl
theorem shaped_ps {d : PyData} (h : SeqAt.shaped d = true) : PyData.canLay0 d = true ∧ d.depth ≤ 64 := by
  have h : (PyData.canLay0 d && decide (d.depth ≤ 64)) = true := h
  rw [Bool.and_eq_true] at h
  exact ⟨h.1, of_decide_eq_true h.2⟩
theorem shaped_tup {ds : List PyData} (h : SeqAt.shaped (.tuple ds) = true) : ∀ e ∈ ds, SeqAt.shaped e = true := fun e he => by
  obtain ⟨h1, h2⟩ := shaped_ps h
  refine shaped_mk (shaped_all h1 e he) ?_
  have := depth_all he
  have h2 : PyData.depthAll ds + 1 ≤ 64 := h2
  omega
theorem shaped_lst {ds : List PyData} (h : SeqAt.shaped (.list ds) = true) : ∀ e ∈ ds, SeqAt.shaped e = true := fun e he => by
  obtain ⟨h1, h2⟩ := shaped_ps h
  refine shaped_mk (shaped_all h1 e he) ?_
  have := depth_all he
  have h2 : PyData.depthAll ds + 1 ≤ 64 := h2
  omega
theorem shaped_book : SeqAt.shaped (.str "book") = true := by decide +kernel
theorem shaped_cut : SeqAt.shaped (.str "cut") = true := by decide +kernel
/-! ### ladders of anything -/
def NoRow (css cls : List (List Int)) (d : PyData) : Prop := ∀ r c, d = dat r → ¬ RowCl css cls r c
/-- the rows ahead of the first fault -/
structure Ahead (css : List (List Int)) (ds : List PyData) (rows : List Rw) (cls : List (List Int)) : Prop where
  ld : Lad css rows cls
  tk : ds.take rows.length = rows.map dat
  le : rows.length ≤ 200
  ln : rows.length ≤ ds.length
  st : rows.length = ds.length ∨ rows.length = 200 ∨ ∃ d, ds[rows.length]? = some d ∧ NoRow css cls d
def IsLad (css : List (List Int)) (d : PyData) : Prop := ∃ rows cls, d = .list (rows.map dat) ∧ Lad css rows cls ∧ 1 ≤ rows.length ∧ rows.length ≤ 200
theorem Lad.one {css : List (List Int)} {rows : List Rw} {c1 c2 : List (List Int)} (a : Lad css rows c1) (b : Lad css rows c2) : c1 = c2 := by
  have l1 := a.1
  have l2 := b.1
  have key : ∀ n, n ≤ rows.length → c1.take n = c2.take n := by
    intro n
    induction n with
    | zero => exact fun _ => rfl
    | succ n ih =>
      intro hn
      have i := ih (by omega)
      have h1 := List.getElem?_eq_getElem (show n < c1.length by omega)
      have h2 := List.getElem?_eq_getElem (show n < c2.length by omega)
      have hr := List.getElem?_eq_getElem (show n < rows.length by omega)
      have r1 := a.2 n _ _ hr h1
      have r2 := b.2 n _ _ hr h2
      rw [i] at r1
      rw [List.take_add_one, List.take_add_one, h1, h2, i, r1.one r2]
  have := key rows.length (Nat.le_refl _)
  rwa [List.take_of_length_le (by omega), List.take_of_length_le (by omega)] at this
theorem ahead_lad {css : List (List Int)} {ds : List PyData} {rows : List Rw} {cls : List (List Int)} (h : Ahead css ds rows cls) : (0 < rows.length ∧ rows.length = ds.length) ↔ IsLad css (.list ds) := by
  constructor
  · rintro ⟨l0, e⟩
    refine ⟨rows, cls, ?_, h.ld, l0, h.le⟩
    rw [← h.tk, e, List.take_length]
  · rintro ⟨rs, cs, e, ld, l1, l2⟩
    have e := PyData.list.inj e
    subst e
    have tk := h.tk
    rw [← List.map_take] at tk
    have er := map_inj tk
    have ll : (rs.map dat).length = rs.length := List.length_map ..
    have ln := h.ln
    rw [ll] at ln ⊢
    have full : rows.length = rs.length := by
      rcases h.st with z | z | ⟨d, hd, no⟩
      · rw [ll] at z
        exact z
      · omega
      · exfalso
        rw [List.getElem?_map] at hd
        have lt : rows.length < rs.length := by
          cases q : rs[rows.length]? with
          | none =>
            rw [q] at hd
            cases hd
          | some r => exact (List.getElem?_eq_some_iff.mp q).1
        have hr := List.getElem?_eq_getElem lt
        rw [hr] at hd
        have lc := ld.1
        have hc := List.getElem?_eq_getElem (show rows.length < cs.length by omega)
        have rc := ld.2 _ _ _ hr hc
        have lt2 := ld.take rows.length
        rw [er] at lt2
        have ec := Lad.one h.ld lt2
        rw [← ec] at rc
        exact no _ _ (Option.some.inj hd).symm rc
    exact ⟨by omega, full⟩
/-- two tellings of what stands ahead of the fault are one -/
theorem Ahead.one {css : List (List Int)} {ds : List PyData} {r1 r2 : List Rw} {c1 c2 : List (List Int)} (a : Ahead css ds r1 c1) (b : Ahead css ds r2 c2) : r1 = r2 ∧ c1 = c2 := by
  have key : ∀ {r1 r2 : List Rw} {c1 c2 : List (List Int)}, Ahead css ds r1 c1 → Ahead css ds r2 c2 → r2.length ≤ r1.length := fun {r1 r2 c1 c2} a b => by
    apply Classical.byContradiction
    intro n
    have lt : r1.length < r2.length := by omega
    have bl := b.le
    have bn := b.ln
    have pre : r2.take r1.length = r1 := map_inj (by rw [List.map_take, ← b.tk, List.take_take, Nat.min_eq_left (by omega), a.tk])
    rcases a.st with z | z | ⟨d, hd, no⟩
    · omega
    · omega
    · have hr := List.getElem?_eq_getElem lt
      have lc := b.ld.1
      have hc := List.getElem?_eq_getElem (show r1.length < c2.length by omega)
      have rc := b.ld.2 _ _ _ hr hc
      have lt2 := b.ld.take r1.length
      rw [pre] at lt2
      rw [← Lad.one a.ld lt2] at rc
      refine no _ _ ?_ rc
      have : (ds.take r2.length)[r1.length]? = some d := by rw [List.getElem?_take, if_pos lt]; exact hd
      rw [b.tk, List.getElem?_map, hr] at this
      exact (Option.some.inj this).symm
  have le1 := key a b
  have le2 := key b a
  have e : r1 = r2 := map_inj (by rw [← a.tk, ← b.tk, show r1.length = r2.length by omega])
  subst e
  exact ⟨rfl, Lad.one a.ld b.ld⟩
section
variable {P : Program} {w : World} {K : PySem.W.Frag} {mg : Str → Option Value} {base : Heap}
/-- whether it is a whole number, of anything -/
def spWhG : Sp := fun vs H Q _ => ∃ (f0 : Addr → Prop) (v : V) (d : PyData), vs = [v] ∧ OdV f0 H v d ∧ Q (.bl (whD d)) H
theorem ok_whp {f : Addr} {fd : FuncData} {k : Nat} (F : Fun K "is_whole" "is_whole" sWho f fd) (T : Zc mg) : FnOk P w K mg base CX0 (k + 1) f fd ["thing"] spWhG := by
  refine F.ok scWho (fun vs H Q E h => ?_) (fun cdv A outer s H vs Q E hr h => ?_)
  · obtain ⟨f0, v, d, rfl, _⟩ := h
    rfl
  · obtain ⟨f0, v, d, rfl, hv, q⟩ := h
    refine ⟨_, (pss_one (ps_ret (pe_and (pe_callB call_isi (by rfl) T.z_isinstance (by decide +kernel) (pa_cons (pv 0) (pa_cons (pe_bltn (v := .ty "int") (u := .type "int") (by rfl) T.z_int (by decide +kernel) rfl) pa_nil))) (pe_one (pe_not (pe_callB call_isi (by rfl) T.z_isinstance (by decide +kernel) (pa_cons (pv 0) (pa_cons (pe_bltn (v := .ty "bool") (u := .type "bool") (by rfl) T.z_bool (by decide +kernel) rfl) pa_nil)))))))), ?_⟩
    have t := hv.ty (K := K)
    cases d with
    | int n => exact ⟨_, rfl, v, .ty "int", .type "int", .type "int", true, rfl, .ty _, t, kit_ty (by decide +kernel), _, rfl, _, rfl, v, .ty "bool", .type "int", .type "bool", false, rfl, .ty _, t, kit_ty (by decide +kernel), _, rfl, q⟩
    | bool b => exact ⟨_, rfl, v, .ty "int", .type "bool", .type "int", true, rfl, .ty _, t, kit_ty (by decide +kernel), _, rfl, _, rfl, v, .ty "bool", .type "bool", .type "bool", true, rfl, .ty _, t, kit_ty (by decide +kernel), _, rfl, q⟩
    | none => exact ⟨_, rfl, v, .ty "int", .type "NoneType", .type "int", false, rfl, .ty _, t, kit_ty (by decide +kernel), _, rfl, q⟩
    | str x => exact ⟨_, rfl, v, .ty "int", .type "str", .type "int", false, rfl, .ty _, t, kit_ty (by decide +kernel), _, rfl, q⟩
    | list x => exact ⟨_, rfl, v, .ty "int", .type "list", .type "int", false, rfl, .ty _, t, kit_ty (by decide +kernel), _, rfl, q⟩
    | tuple x => exact ⟨_, rfl, v, .ty "int", .type "tuple", .type "int", false, rfl, .ty _, t, kit_ty (by decide +kernel), _, rfl, q⟩
    | dict x => cases hv
theorem wh_weak {f : Addr} {fd : FuncData} {k : Nat} (F : FnOk P w K mg base CX0 k f fd ["thing"] spWhG) : FnOk P w K mg base CX0 k f fd ["thing"] spWho := ok_weak F fun vs H Q E ⟨n, e, q⟩ => ⟨Nof, .int n, .int n, e, .int n, q⟩
def spNmG : Sp := fun vs H Q _ => ∃ (f0 : Addr → Prop) (v : V) (d : PyData) (m : Int), vs = [v, .int m] ∧ OdV f0 H v d ∧ Q (.bl (numD d m)) H
theorem ok_numG {f fW : Addr} {fd fdW : FuncData} {k : Nat} (F : Fun K "is_number_of" "is_number_of" sNum f fd) (FW : Fun K "is_whole" "is_whole" sWho fW fdW) (bW : Binds K fdW ["thing"] []) (gW : mg "is_whole" = some (.ref fW)) (GW : FnOk P w K mg base CX0 1 fW fdW ["thing"] spWhG) :
    FnOk P w K mg base CX0 (k + 2) f fd ["thing", "many"] spNmG := by
  refine F.ok scNum (fun vs H Q E h => ?_) (fun cdv A outer s H vs Q E hr h => ?_)
  · obtain ⟨f0, v, d, m, rfl, _⟩ := h
    rfl
  · obtain ⟨f0, v, d, m, rfl, hv, q⟩ := h
    have hr1 : Room 1 _ := hr.mono (by omega)
    refine ⟨_, (pss_one (ps_ret (pe_and (pe_call GW hr1 (by rfl) gW FW.kp bW .nil pass0 (pa_cons (pv 0) pa_nil)) (pe_one (pe_chain op_le op_lt pe_int (pv 0) (pv 1)))))), ?_⟩
    cases d with
    | int n =>
      cases hv
      refine ⟨_, rfl, f0, .int n, .int n, rfl, .int n, _, rfl, ?_⟩
      refine ⟨_, rfl, 0, _, rfl, rfl, decide (0 ≤ n), rfl, ?_⟩
      have q : Q (.bl (decide (0 ≤ n) && decide (n < m))) H := q
      cases e1 : decide (0 ≤ n) with
      | false =>
        rw [e1] at q
        exact q
      | true =>
        rw [e1] at q
        exact ⟨_, rfl, _, _, rfl, rfl, q⟩
    | bool b => exact ⟨_, rfl, f0, v, _, rfl, hv, _, rfl, q⟩
    | none => exact ⟨_, rfl, f0, v, _, rfl, hv, _, rfl, q⟩
    | str x => exact ⟨_, rfl, f0, v, _, rfl, hv, _, rfl, q⟩
    | list x => exact ⟨_, rfl, f0, v, _, rfl, hv, _, rfl, q⟩
    | tuple x => exact ⟨_, rfl, f0, v, _, rfl, hv, _, rfl, q⟩
    | dict x => cases hv
/-- by what is no whole number no two meet -/
def spCmN : Sp := fun vs H Q _ => ∃ (f0 : Addr → Prop) (v u kv : V) (d : PyData), vs = [v, u, kv] ∧ OdV f0 H kv d ∧ whD d = false ∧ Q (.bl false) H
theorem ok_cmN {f fW : Addr} {fd fdW : FuncData} {k : Nat} {tk : Tok} (F : Fun K "can_meet" "can_meet" sCme f fd) (T : Zc mg) (M8 : mg "MOST_THINGS" = some (.int 8 tk)) (FW : Fun K "is_whole" "is_whole" sWho fW fdW) (bW : Binds K fdW ["thing"] []) (gW : mg "is_whole" = some (.ref fW)) (GW : FnOk P w K mg base CX0 1 fW fdW ["thing"] spWhG) :
    FnOk P w K mg base CX0 (k + 2) f fd ["one", "other", "k"] spCmN := by
  refine F.ok scCme (fun vs H Q E h => ?_) (fun cdv A outer s H vs Q E hr h => ?_)
  · obtain ⟨f0, v, u, kv, d, rfl, _⟩ := h
    rfl
  · obtain ⟨f0, v, u, kv, d, rfl, hv, no, q⟩ := h
    have hr1 : Room 1 _ := hr.mono (by omega)
    refine ⟨_, (pss_one (ps_ret (pe_and (pe_call GW hr1 (by rfl) gW FW.kp bW .nil pass0 (pa_cons (pv 2) pa_nil)) (pe_and (pe_chain op_le op_le pe_int (pv 2) (pe_glob (v := .int 8) rfl M8 ⟨_, rfl⟩)) (pe_and (pe_cmpR op_in_seq (pv 2) (pv 0) (by rfl)) (pe_one (pe_cmpR op_in_seq (pe_un un_neg (pv 2)) (pv 1) (by rfl)))))))), ?_⟩
    refine ⟨_, rfl, f0, kv, d, rfl, hv, _, rfl, ?_⟩
    rw [no]
    exact q
def spCoN : Sp := fun vs H Q _ => ∃ (f0 : Addr → Prop) (v u kv : V) (d : PyData), vs = [v, u, kv] ∧ OdV f0 H kv d ∧ whD d = false ∧ Q .non H
theorem ok_coN {f fM fH Po : Addr} {fd fdM fdH : FuncData} {k : Nat} (F : Fun K "cut_or_none" "cut_or_none" sCon f fd) (T : Zc mg) (FM : Fun K "can_meet" "can_meet" sCme fM fdM) (bM : Binds K fdM ["one", "other", "k"] []) (gM : mg "can_meet" = some (.ref fM)) (GM : FnOk P w K mg base CX0 2 fM fdM ["one", "other", "k"] spCmN)
    (kpH : PySem.W.keepIn K (.ref fH) = true) (bH : Binds K fdH ["says"] []) (gH : mg "has_opposites" = some (.ref fH)) (GH : FnOk P w K mg base CX0 3 fH fdH ["says"] (spHop Po)) :
    FnOk P w K mg base CX0 (k + 4) f fd ["one", "other", "k"] spCoN := by
  refine F.ok scCon (fun vs H Q E h => ?_) (fun cdv A outer s H vs Q E hr h => ?_)
  · obtain ⟨f0, v, u, kv, d, rfl, _⟩ := h
    rfl
  · obtain ⟨f0, v, u, kv, d, rfl, hv, no, q⟩ := h
    have hr2 : Room 2 _ := hr.mono (by omega)
    have hr3 : Room 3 _ := hr.mono (by omega)
    refine ⟨_, (pss_cons (ps_if (pt_not (pt_val (pe_call GM hr2 (by rfl) gM FM.kp bM .nil pass0 (pa_cons (pv 0) (pa_cons (pv 1) (pa_cons (pv 2) pa_nil)))))) (pss_one (ps_ret pe_non)) pss_nil)
      (Evl.pss_cut (ps_set (i := 3) scCon.nd rfl (.inl rfl) (pe_op op_catN (pe_lc (own := [("say", 4)]) (g := (gName 4))  rfl scCon.nd (pi_tup (pv 0)) (blkOk_by (N := nCon) (sc := defScope sCon) (by decide +kernel)) (fun _ _ _ _ _ => (pg_name (i := 4) scCon.nd rfl (.inl rfl))) (fun _ _ _ _ _ => (pts_one (pt_cmpR op_ne (pv 4) (pv 2) (nomark _)))) (fun _ _ _ _ _ => (pv 4))) (pe_lc (own := [("say", 4)]) (g := (gName 4))  rfl scCon.nd (pi_tup (pv 1)) (blkOk_by (N := nCon) (sc := defScope sCon) (by decide +kernel)) (fun _ _ _ _ _ => (pg_name (i := 4) scCon.nd rfl (.inl rfl))) (fun _ _ _ _ _ => (pts_one (pt_cmpR op_ne (pv 4) (pe_un un_neg (pv 2)) (nomark _)))) (fun _ _ _ _ _ => (pv 4)))))
      (pss_cons (ps_if (pt_val (pe_call GH hr3 (by rfl) gH kpH bH .nil pass0 (pa_cons (pv 3) pa_nil))) (pss_one (ps_ret pe_non)) pss_nil)
      (pss_one (ps_ret (pe_callTy call_tuple_ofN (by rfl) T.z_tuple (by decide +kernel) (pa_cons (pe_callB (St.cr_sortedS rfl) (by rfl) T.z_sorted (by decide +kernel) (pa_cons (pe_callTy (St.cr_setL rfl) (by rfl) T.z_set (by decide +kernel) (pa_cons (pv 3) pa_nil)) pa_nil)) pa_nil))))))), ?_⟩
    exact ⟨_, rfl, _, rfl, _, rfl, f0, v, u, kv, d, rfl, hv, no, _, rfl, q⟩
/-- claim_of_row, of anything -/
def spRoG (Po : Addr) : Sp := fun vs H Q _ => ∃ (f0 : Addr → Prop) (b v : V) (L : Addr) (css cls : List (List Int)) (d : PyData), vs = [b, .ref L, v] ∧ Bk H b css ∧ ClL H L cls ∧ OdV f0 H v d ∧ SeqAt.shaped d = true ∧ (∀ c ∈ css, IsCl c) ∧ (∀ c ∈ cls, IsCl c) ∧ TabG H Po ∧
  (∀ H', Ke Nof H H' → NoRow css cls d → Q .non H') ∧ ∀ (r : Rw) (c : List Int) (p : Addr) (H' : Hp), Ke Nof H H' → d = dat r → RowCl css cls r c → H' p = some (.tup (c.map V.int)) → Q (.ref p) H'
theorem ok_roG {f fN fC Po : Addr} {fd fdN fdC : FuncData} {k : Nat} (F : Fun K "claim_of_row" "claim_of_row" sRow f fd) (T : Zp mg) (FN : Fun K "is_number_of" "is_number_of" sNum fN fdN) (bN : Binds K fdN ["thing", "many"] []) (gN : mg "is_number_of" = some (.ref fN)) (GN : FnOk P w K mg base CX0 2 fN fdN ["thing", "many"] spNmG)
    (FC : Fun K "cut_or_none" "cut_or_none" sCon fC fdC) (bC : Binds K fdC ["one", "other", "k"] []) (gC : mg "cut_or_none" = some (.ref fC)) (GC : FnOk P w K mg base CX0 4 fC fdC ["one", "other", "k"] (orS (spCon Po) spCoN)) :
    FnOk P w K mg base CX0 (k + 5) f fd ["book", "claims", "row"] (spRoG Po) := by
  refine F.ok scRow (fun vs H Q E h => ?_) (fun cdv A outer s H vs Q E hr h => ?_)
  · obtain ⟨f0, b, v, L, css, cls, d, rfl, _⟩ := h
    rfl
  · obtain ⟨f0, b, v, L, css, cls, d, rfl, hb, ⟨lvs, hL, aL⟩, hv, sh, ib, ic, tg, q1, q2⟩ := h
    have hr2 : Room 2 _ := hr.mono (by omega)
    have hr4 : Room 4 _ := hr.mono (by omega)
    refine ⟨_, (pss_cons (ps_if (pt_not (pt_val (pe_callB call_isi (by rfl) T.z_isinstance (by decide +kernel) (pa_cons (pv 2) (pa_cons (pe_bltn (v := .ty "tuple") (u := .type "tuple") (by rfl) T.z_tuple (by decide +kernel) rfl) pa_nil))))) (pss_one (ps_ret pe_non)) pss_nil)
      (pss_cons (ps_if (PW.pt (pw_and (pt_cmpR op_eq (pe_callB call_len_seq (by rfl) T.z_len (by decide +kernel) (pa_cons (pv 2) pa_nil)) pe_int (nomark _)) (pw_and1 (pt_cmpR (op_eqD hr.units) (pe_ix ix_tup (pv 2) pe_int (fun _ _ => rfl)) pe_str (nomark _))))) (pss_one (ps_ret (pe_ifExp (pt_val (pe_call GN hr2 (by rfl) gN FN.kp bN .nil pass0 (pa_cons (pe_ix ix_tup (pv 2) pe_int (fun _ _ => rfl)) (pa_cons (pe_callB call_len_seq (by rfl) T.z_len (by decide +kernel) (pa_cons (pv 0) pa_nil)) pa_nil)))) (pe_ix ix_tup (pv 0) (pe_ix ix_tup (pv 2) pe_int (fun _ _ => rfl)) (fun _ _ => rfl)) pe_non))) pss_nil)
      (pss_cons (ps_if (PW.pt (pw_and (pt_cmpR op_eq (pe_callB call_len_seq (by rfl) T.z_len (by decide +kernel) (pa_cons (pv 2) pa_nil)) pe_int (nomark _)) (pw_and1 (pt_cmpR (op_eqD hr.units) (pe_ix ix_tup (pv 2) pe_int (fun _ _ => rfl)) pe_str (nomark _))))) (pss_one (ps_if (PW.pt (pw_and (pt_val (pe_call GN hr2 (by rfl) gN FN.kp bN .nil pass0 (pa_cons (pe_ix ix_tup (pv 2) pe_int (fun _ _ => rfl)) (pa_cons (pe_callB call_len_seq (by rfl) T.z_len (by decide +kernel) (pa_cons (pv 1) pa_nil)) pa_nil)))) (pw_and1 (pt_val (pe_call GN hr2 (by rfl) gN FN.kp bN .nil pass0 (pa_cons (pe_ix ix_tup (pv 2) pe_int (fun _ _ => rfl)) (pa_cons (pe_callB call_len_seq (by rfl) T.z_len (by decide +kernel) (pa_cons (pv 1) pa_nil)) pa_nil))))))) (pss_one (ps_ret (pe_call GC hr4 (by rfl) gC FC.kp bC .nil pass0 (pa_cons (pe_ix ix_list (pv 1) (pe_ix ix_tup (pv 2) pe_int (fun _ _ => rfl)) (fun _ _ => rfl)) (pa_cons (pe_ix ix_list (pv 1) (pe_ix ix_tup (pv 2) pe_int (fun _ _ => rfl)) (fun _ _ => rfl)) (pa_cons (pe_ix ix_tup (pv 2) pe_int (fun _ _ => rfl)) pa_nil)))))) pss_nil)) pss_nil)
      (pss_one (ps_ret pe_non))))), ?_⟩
    obtain ⟨b, bvs, rfl, hbt, aB⟩ := bk_all hb
    have no : (∀ ds, d ≠ .tuple ds) → Q .non H := fun n => q1 H (.refl _ _) fun r c e => absurd (dat_tup e) fun ⟨ds, z⟩ => n ds z
    have t := hv.ty (K := K)
    cases d with
    | int n => exact ⟨_, rfl, v, .ty "tuple", .type "int", .type "tuple", false, rfl, .ty _, t, kit_ty (by decide +kernel), _, rfl, no fun _ => nofun⟩
    | bool n => exact ⟨_, rfl, v, .ty "tuple", .type "bool", .type "tuple", false, rfl, .ty _, t, kit_ty (by decide +kernel), _, rfl, no fun _ => nofun⟩
    | none => exact ⟨_, rfl, v, .ty "tuple", .type "NoneType", .type "tuple", false, rfl, .ty _, t, kit_ty (by decide +kernel), _, rfl, no fun _ => nofun⟩
    | str x => exact ⟨_, rfl, v, .ty "tuple", .type "str", .type "tuple", false, rfl, .ty _, t, kit_ty (by decide +kernel), _, rfl, no fun _ => nofun⟩
    | list x => exact ⟨_, rfl, v, .ty "tuple", .type "list", .type "tuple", false, rfl, .ty _, t, kit_ty (by decide +kernel), _, rfl, no fun _ => nofun⟩
    | dict x => cases hv
    | tuple ds =>
      cases id hv with
      | tup ha od =>
        rename_i a xs
        have lx := od.len
        have shp := shaped_tup sh
        refine ⟨_, rfl, .ref a, .ty "tuple", .type "tuple", .type "tuple", true, rfl, .ty _, t, kit_ty (by decide +kernel), _, rfl, ?_⟩
        by_cases h2 : xs.length = 2
        · obtain ⟨v0, v1, d0, d1, rfl, rfl, o0, o1⟩ := two_of od h2
          refine ⟨_, rfl, a, _, rfl, .inr (.of ha), rfl, true, rfl, ?_⟩
          refine ⟨_, rfl, a, _, 0, v0, rfl, rfl, .of ha, rfl, d0, .str "book", o0.dp, .str _, shp d0 (by simp), shaped_book, _, rfl, ite2 (fun e => ?_) (fun e => ?_)⟩
          · have e0 := eqv_str.mp e
            refine ⟨_, rfl, a, _, 1, v1, rfl, rfl, .of ha, rfl, _, rfl, b, _, rfl, .inr (.of hbt), f0, v1, d1, _, rfl, o1, _, rfl, ite2 (fun y => ?_) (fun y => ?_)⟩
            · obtain ⟨n, rfl, lt⟩ := num_int y
              cases o1
              have lt : n < bvs.length := by omega
              obtain ⟨c, hc, p, e, hp⟩ := aB.at (List.getElem?_eq_getElem lt)
              refine ⟨_, rfl, _, rfl, a, _, 1, .int (n : Nat), rfl, rfl, .of ha, rfl, b, bvs, _, .ref p, rfl, rfl, .of hbt, at_of (j := n) rfl (by rw [List.getElem?_eq_getElem lt, e]), ?_⟩
              exact q2 (.book n) c p H (.refl _ _) (by rw [e0]; rfl) hc hp
            · refine q1 H (.refl _ _) fun r c er rc => ?_
              obtain ⟨n, rfl, _, rfl⟩ := dat_two er
              have h1 := (List.getElem?_eq_some_iff.mp rc).1
              have h3 := aB.1
              exact y (num_yes (by omega))
          · refine ⟨_, rfl, a, _, rfl, .inr (.of ha), rfl, false, rfl, ?_⟩
            refine q1 H (.refl _ _) fun r c er rc => ?_
            obtain ⟨n, _, e0, _⟩ := dat_two er
            exact e (eqv_str.mpr e0)
        · refine ⟨_, rfl, a, _, rfl, .inr (.of ha), rfl, false, ?_, ?_⟩
          · rw [decide_eq_false]
            intro z
            have := V.int.inj z
            omega
          by_cases h4 : xs.length = 4
          · obtain ⟨v0, v1, v2, v3, d0, d1, d2, d3, rfl, rfl, o0, o1, o2, o3⟩ := four_of od h4
            refine ⟨_, rfl, a, _, rfl, .inr (.of ha), rfl, true, rfl, ?_⟩
            have nope : d0 ≠ .str "cut" ∨ numD d1 lvs.length = false ∨ numD d2 lvs.length = false → Q .non H := fun z => q1 H (.refl _ _) fun r c er rc => by
              obtain ⟨i, j, k, rfl, e0, rfl, rfl, _⟩ := dat_four er
              have h1 := rc.parts
              have h3 := aL.1
              rcases z with z | z | z
              · exact z e0
              · rw [num_yes (by omega)] at z
                cases z
              · rw [num_yes (by omega)] at z
                cases z
            refine ⟨_, rfl, a, _, 0, v0, rfl, rfl, .of ha, rfl, d0, .str "cut", o0.dp, .str _, shp d0 (by simp), shaped_cut, _, rfl, ite2 (fun e => ?_) (fun e => ?_)⟩
            · have e0 := eqv_str.mp e
              refine ⟨_, rfl, a, _, 1, v1, rfl, rfl, .of ha, rfl, _, rfl, L, _, rfl, .inl (.of hL), f0, v1, d1, _, rfl, o1, _, rfl, ite2 (fun y1 => ?_) (fun y1 => ?_)⟩
              · refine ⟨_, rfl, a, _, 2, v2, rfl, rfl, .of ha, rfl, _, rfl, L, _, rfl, .inl (.of hL), f0, v2, d2, _, rfl, o2, _, rfl, ite2 (fun y2 => ?_) (fun y2 => ?_)⟩
                · obtain ⟨i, rfl, li⟩ := num_int y1
                  obtain ⟨j, rfl, lj⟩ := num_int y2
                  cases o1
                  cases o2
                  have li : i < lvs.length := by omega
                  have lj : j < lvs.length := by omega
                  obtain ⟨ci, hci, ti⟩ := aL.at (List.getElem?_eq_getElem li)
                  obtain ⟨cj, hcj, tj⟩ := aL.at (List.getElem?_eq_getElem lj)
                  have i1 := ic ci (List.mem_of_getElem? hci)
                  have i2 := ic cj (List.mem_of_getElem? hcj)
                  have z1 := i1.len
                  have z2 := i2.len
                  refine ⟨_, rfl, _, rfl, a, _, 1, .int (i : Nat), rfl, rfl, .of ha, rfl, L, lvs, _, lvs[i], rfl, rfl, .of hL, at_of (j := i) rfl (List.getElem?_eq_getElem li), ?_⟩
                  refine ⟨_, rfl, _, rfl, a, _, 2, .int (j : Nat), rfl, rfl, .of ha, rfl, L, lvs, _, lvs[j], rfl, rfl, .of hL, at_of (j := j) rfl (List.getElem?_eq_getElem lj), ?_⟩
                  refine ⟨_, rfl, a, _, 3, v3, rfl, rfl, .of ha, rfl, ?_⟩
                  cases hw : whD d3 with
                  | false =>
                    refine .inr ⟨f0, lvs[i], lvs[j], v3, d3, rfl, o3, hw, q1 H (.refl _ _) fun r c er rc => ?_⟩
                    obtain ⟨_, _, k, _, _, _, _, rfl⟩ := dat_four er
                    cases hw
                  | true =>
                    obtain ⟨k, rfl⟩ : ∃ k : Int, d3 = .int k := by
                      cases d3 with
                      | int k => exact ⟨k, rfl⟩
                      | _ => cases hw
                    cases o3
                    refine .inl ⟨lvs[i], lvs[j], k, ci, cj, rfl, ti, tj, by omega, by omega, tg, fun H' ke no => ?_, fun ns p H' ke m o up me hp => ?_⟩
                    · refine q1 H' ke fun r c er rc => ?_
                      obtain ⟨i', j', k', rfl, _, e1, e2, e3⟩ := dat_four er
                      have h1 := PyData.int.inj e1
                      have h2 := PyData.int.inj e2
                      have h3 := PyData.int.inj e3
                      obtain ⟨x, y', g1, g2, g3⟩ := rc
                      rw [show i' = i by omega] at g1
                      rw [show j' = j by omega] at g2
                      cases hci.symm.trans g1
                      cases hcj.symm.trans g2
                      rw [← h3] at g3
                      exact g3.no (nocome_of i1 i2 no)
                    · exact q2 (.cut i j k) ns p H' ke (by rw [e0]; rfl) ⟨ci, cj, hci, hcj, comes_of i1 i2 m o up me⟩ hp
                · exact nope (.inr (.inr (Bool.eq_false_iff.mpr y2)))
              · exact nope (.inr (.inl (Bool.eq_false_iff.mpr y1)))
            · exact nope (.inl fun z => e (eqv_str.mpr z))
          · refine ⟨_, rfl, a, _, rfl, .inr (.of ha), rfl, false, ?_, ?_⟩
            · rw [decide_eq_false]
              intro z
              have := V.int.inj z
              omega
            refine q1 H (.refl _ _) fun r c er rc => ?_
            rcases dat_len er with z | z
            · exact h2 (by omega)
            · exact h4 (by omega)
theorem cut_200 (xs : List V) : cutV xs none (some 200) = xs.take 200 := by
  unfold cutV
  rw [show (200 : Int) = ((200 : Nat) : Int) from rfl, HT.sIx_none, HT.sIx_nat, List.drop_zero, Nat.sub_zero]
  by_cases h : 200 ≤ xs.length
  · rw [Nat.min_eq_left h]
  · rw [Nat.min_eq_right (by omega), List.take_length, List.take_of_length_le (by omega)]
/-- claims_ahead_of_fault, of anything -/
def spAhG (Po : Addr) : Sp := fun vs H Q _ => ∃ (f0 : Addr → Prop) (b v : V) (css : List (List Int)) (d : PyData), vs = [b, v] ∧ Bk H b css ∧ (∀ c ∈ css, IsCl c) ∧ OdV f0 H v d ∧ SeqAt.shaped d = true ∧ TabG H Po ∧
  (∀ p H', H p = none → Ke Nof H H' → (∀ ds, d ≠ .list ds) → H' p = some (.lst []) → Q (.ref p) H') ∧
  ∀ ds p rows cls H', H p = none → Ke Nof H H' → d = .list ds → Ahead css ds rows cls → ClL H' p cls → Q (.ref p) H'
theorem ok_ahG {f fR Po : Addr} {fd fdR : FuncData} {k : Nat} {tk : Tok} (F : Fun K "claims_ahead_of_fault" "claims_ahead_of_fault" sAhe f fd) (T : Zp mg) (M2 : mg "MOST_ROWS" = some (.int 200 tk)) (FR : Fun K "claim_of_row" "claim_of_row" sRow fR fdR) (bR : Binds K fdR ["book", "claims", "row"] []) (gR : mg "claim_of_row" = some (.ref fR)) (GR : FnOk P w K mg base CX0 5 fR fdR ["book", "claims", "row"] (spRoG Po)) :
    FnOk P w K mg base CX0 (k + 6) f fd ["book", "thing"] (spAhG Po) := by
  refine F.ok scAhe (fun vs H Q E h => ?_) (fun cdv A outer s H vs Q E hr h => ?_)
  · obtain ⟨f0, b, v, css, d, rfl, _⟩ := h
    rfl
  · obtain ⟨f0, b, v, css, d, rfl, hb, ib, hv, sh, tg, q1, q2⟩ := h
    have hr5 : Room 5 _ := hr.mono (by omega)
    refine ⟨_, (Evl.pss_cut (ps_set (i := 2) scAhe.nd rfl (.inl rfl) (pe_lstN pa_nil))
      (pss_cons (ps_if (pt_not (pt_val (pe_callB call_isi (by rfl) T.z_isinstance (by decide +kernel) (pa_cons (pv 1) (pa_cons (pe_bltn (v := .ty "list") (u := .type "list") (by rfl) T.z_list (by decide +kernel) rfl) pa_nil))))) (pss_one (ps_ret (pv 2))) pss_nil)
      (pss_cons (ps_for PassesOwn.never rfl (pi_list (pe_slice sl_listN (pv 1) po_none (po_some (pe_glob (v := .int 200) rfl M2 ⟨_, rfl⟩)))) (pg_name (i := 3) scAhe.nd rfl (.inl rfl)) (pss_cons (ps_set (i := 4) scAhe.nd rfl (.inl rfl) (pe_call GR hr5 (by rfl) gR FR.kp bR .nil pass0 (pa_cons (pv 0) (pa_cons (pv 2) (pa_cons (pv 3) pa_nil)))))
      (pss_cons (ps_if (pt_cmpR op_isN (pv 4) pe_non (nomark _)) (pss_one (ps_ret (pv 2))) pss_nil)
      (pss_one (ps_expr (pe_bm PySem.F.plainAttrs_list PySem.F.slot_list_append PySem.F.type_list_append mt_append (pv 2) (pa_cons (pv 4) pa_nil)))))))
      (pss_one (ps_ret (pv 2)))))), ?_⟩
    refine Evl.q_cut (M := fun σ' H' => ∃ D : Addr, σ' = [some b, some v, some (.ref D), none, none] ∧ H D = none ∧ Same H H' ∧ H' D = some (.lst [])) ?_ ?_
    · exact ⟨Nat.zero_le _, fun D H1 nD s1 hD _ => ⟨D, rfl, nD, s1, hD⟩⟩
    rintro σ' H1 ⟨D, rfl, nD, s1, hD⟩
    have hv1 : OdV f0 H1 v d := hv.ke (.same s1)
    have t := hv1.ty (K := K)
    have no : (∀ ds, d ≠ .list ds) → Q (.ref D) H1 := fun n => q1 D H1 nD (.same s1) n hD
    cases d with
    | int n => exact ⟨_, rfl, v, .ty "list", .type "int", .type "list", false, rfl, .ty _, t, kit_ty (by decide +kernel), _, rfl, _, rfl, no fun _ => nofun⟩
    | bool n => exact ⟨_, rfl, v, .ty "list", .type "bool", .type "list", false, rfl, .ty _, t, kit_ty (by decide +kernel), _, rfl, _, rfl, no fun _ => nofun⟩
    | none => exact ⟨_, rfl, v, .ty "list", .type "NoneType", .type "list", false, rfl, .ty _, t, kit_ty (by decide +kernel), _, rfl, _, rfl, no fun _ => nofun⟩
    | str x => exact ⟨_, rfl, v, .ty "list", .type "str", .type "list", false, rfl, .ty _, t, kit_ty (by decide +kernel), _, rfl, _, rfl, no fun _ => nofun⟩
    | tuple x => exact ⟨_, rfl, v, .ty "list", .type "tuple", .type "list", false, rfl, .ty _, t, kit_ty (by decide +kernel), _, rfl, _, rfl, no fun _ => nofun⟩
    | dict x => cases hv
    | list ds =>
      cases id hv with
      | lst hL nf od =>
        rename_i L xs
        have lx := od.len
        have shp := shaped_lst sh
        refine ⟨_, rfl, .ref L, .ty "list", .type "list", .type "list", true, rfl, .ty _, t, kit_ty (by decide +kernel), _, rfl, ?_⟩
        refine ⟨_, rfl, _, rfl, L, _, rfl, .of (s1 _ _ hL), fun S H2 nS s2 hS _ => ?_⟩
        rw [cut_200] at hS
        have nSD : S ≠ D := Ne.symm (ne_of_none hD nS)
        have k02 : Ke Nof H H2 := (Ke.same s1).trans (.same s2)
        have lt200 : (xs.take 200).length = min 200 xs.length := List.length_take
        refine ⟨S, rfl, ⟨_, .of hS⟩, for_list (K := K) (a := S) (xs := xs.take 200) (Pv := fun i σ H' => ∃ (y3 y4 : Option V) (rows : List Rw) (cls : List (List Int)), σ = [some b, some (.ref L), some (.ref D), y3, y4] ∧ Ke Nof H H' ∧ H' S = some (.lst (xs.take 200)) ∧ rows.length = i ∧ Lad css rows cls ∧ ds.take i = rows.map dat ∧ ClL H' D cls) ?_ (fun i σ H' _ p => ?_) ?_ ?_⟩
        · exact ⟨none, none, [], [], rfl, k02, hS, rfl, .nil css, rfl, [], s2 _ _ hD, .nil⟩
        · obtain ⟨_, _, _, _, _, _, h, _⟩ := p
          exact .of h
        · rintro i x σ H3 hx ⟨y3, y4, rows, cls, rfl, k3, hS3, lr, ld, tk, hD3⟩
          have li : i < min 200 xs.length := by rw [← lt200]; exact (List.getElem?_eq_some_iff.mp hx).1
          rw [List.getElem?_take, if_pos (by omega)] at hx
          obtain ⟨d, hd, ox⟩ := od.at hx
          obtain ⟨dvs, hD3', aD⟩ := id hD3
          have lcl := ld.1
          have lad := aD.1
          refine ⟨_, rfl, _, rfl, _, rfl, f0, b, x, D, css, cls, d, rfl, hb.ke k3, hD3, ox.ke k3.all, shp d (List.mem_of_getElem? hd), ib, ld.isCl ib, k3.tabs _ tg, fun H4 k4 no => ?_, fun r c p H4 k4 er rc hp => ?_⟩
          · refine ⟨_, rfl, rfl, true, rfl, ?_⟩
            exact ⟨_, rfl, q2 ds D rows cls H4 nD (k3.trans k4) rfl ⟨ld, by rw [lr]; exact tk, by omega, by omega, .inr (.inr ⟨d, by rw [lr]; exact hd, no⟩)⟩ (hD3.ke k4 fun z => z)⟩
          · refine ⟨_, rfl, rfl, false, rfl, ?_⟩
            have hD4 := k4.lst hD3' fun z => z
            have hS4 := k4.lst hS3 fun z => z
            refine ⟨_, rfl, .inl ⟨rfl, _, .of hD4⟩, _, rfl, D, _, _, rfl, rfl, hD4, small1000 (by omega), ?_⟩
            refine ⟨_, _, rows ++ [r], cls ++ [c], rfl, (k3.trans k4).upd nD, by rw [upd_ne nSD]; exact hS4, by rw [List.length_append, lr]; rfl, ld.snoc rc, ?_, cl_snoc hD4 (aD.imp fun _ _ t => t.ke k4) ⟨p, rfl, hp⟩⟩
            rw [take_snoc hd, tk, List.map_append, er]
            rfl
        · rintro σ H3 ⟨y3, y4, rows, cls, rfl, k3, _, lr, ld, tk, hD3⟩
          rw [lt200] at lr tk
          refine ⟨_, rfl, q2 ds D rows cls H3 nD k3 rfl ⟨ld, by rw [lr]; exact tk, by omega, by omega, ?_⟩ hD3⟩
          by_cases z : xs.length ≤ 200
          · exact .inl (by omega)
          · exact .inr (.inl (by omega))
/-- is_ladder, of anything -/
def spIsG (Po : Addr) : Sp := fun vs H Q _ => ∃ (f0 : Addr → Prop) (b v : V) (css : List (List Int)) (d : PyData), vs = [b, v] ∧ Bk H b css ∧ (∀ c ∈ css, IsCl c) ∧ OdV f0 H v d ∧ SeqAt.shaped d = true ∧ TabG H Po ∧
  ∀ t H', (t = true ↔ IsLad css d) → Ke Nof H H' → Q (.bl t) H'
end
end Wg
namespace Wl
open PySem PySem.Spec PyProof.Rows L2 GxR Nw Dr Kp Se Cl Ct Lr Lp Ll Od Wg
theorem od_is {f : Addr → Prop} {H : Hp} : ∀ {vs : List V} {ns : List Int}, OdAll f H vs (ns.map PyData.int) → vs = ns.map V.int
  | [], [], _ => rfl
  | [], _ :: _, h => by cases h
  | _ :: _, [], h => by cases h
  | v :: vs, n :: ns, h => by
    cases h with
    | cons h1 h2 =>
      cases h1
      rw [od_is h2]
      rfl
theorem ints_of : ∀ {ds : List PyData}, (∀ d ∈ ds, whD d = true) → ∃ ns : List Int, ds = ns.map PyData.int
  | [], _ => ⟨[], rfl⟩
  | d :: r, h => by
    obtain ⟨ns, e⟩ := ints_of (ds := r) fun x hx => h x (List.mem_cons_of_mem _ hx)
    have hd := h d List.mem_cons_self
    cases d with
    | int n => exact ⟨n :: ns, by rw [e]; rfl⟩
    | _ => cases hd
theorem dat_tail {d0 : PyData} {dr : List PyData} {r : Rw} (h : PyData.tuple (d0 :: dr) = dat r) : ∀ d ∈ dr, whD d = true := by
  cases r with
  | book n =>
    obtain ⟨_, e⟩ := List.cons.inj (PyData.tuple.inj h)
    intro d hd
    rw [e] at hd
    rw [List.mem_singleton.mp hd]
    rfl
  | cut i j k =>
    obtain ⟨_, e⟩ := List.cons.inj (PyData.tuple.inj h)
    intro d hd
    rw [e] at hd
    simp only [List.mem_cons, List.not_mem_nil, or_false] at hd
    rcases hd with rfl | rfl | rfl <;> rfl
section
variable {P : Program} {w : World} {K : PySem.W.Frag} {mg : Str → Option Value} {base : Heap}
theorem ok_swG {f : Addr} {fd : FuncData} {k : Nat} (F : Fun K "_law_swhole" "_law_swhole" sSwh f fd) (T : Zy mg) : FnOk P w K mg base CX0 (k + 1) f fd ["thing"] spWhG := by
  refine F.ok scSwh (fun vs H Q E h => ?_) (fun cdv A outer s H vs Q E hr h => ?_)
  · obtain ⟨f0, v, d, rfl, _⟩ := h
    rfl
  · obtain ⟨f0, v, d, rfl, hv, q⟩ := h
    refine ⟨_, (pss_one (ps_ret (pe_and (pe_callB call_isi (by rfl) T.z_isinstance (by decide +kernel) (pa_cons (pv 0) (pa_cons (pe_bltn (v := .ty "int") (u := .type "int") (by rfl) T.z_int (by decide +kernel) rfl) pa_nil))) (pe_one (pe_not (pe_callB call_isi (by rfl) T.z_isinstance (by decide +kernel) (pa_cons (pv 0) (pa_cons (pe_bltn (v := .ty "bool") (u := .type "bool") (by rfl) T.z_bool (by decide +kernel) rfl) pa_nil)))))))), ?_⟩
    have t := hv.ty (K := K)
    cases d with
    | int n => exact ⟨_, rfl, v, .ty "int", .type "int", .type "int", true, rfl, .ty _, t, kit_ty (by decide +kernel), _, rfl, _, rfl, v, .ty "bool", .type "int", .type "bool", false, rfl, .ty _, t, kit_ty (by decide +kernel), _, rfl, q⟩
    | bool b => exact ⟨_, rfl, v, .ty "int", .type "bool", .type "int", true, rfl, .ty _, t, kit_ty (by decide +kernel), _, rfl, _, rfl, v, .ty "bool", .type "bool", .type "bool", true, rfl, .ty _, t, kit_ty (by decide +kernel), _, rfl, q⟩
    | none => exact ⟨_, rfl, v, .ty "int", .type "NoneType", .type "int", false, rfl, .ty _, t, kit_ty (by decide +kernel), _, rfl, q⟩
    | str x => exact ⟨_, rfl, v, .ty "int", .type "str", .type "int", false, rfl, .ty _, t, kit_ty (by decide +kernel), _, rfl, q⟩
    | list x => exact ⟨_, rfl, v, .ty "int", .type "list", .type "int", false, rfl, .ty _, t, kit_ty (by decide +kernel), _, rfl, q⟩
    | tuple x => exact ⟨_, rfl, v, .ty "int", .type "tuple", .type "int", false, rfl, .ty _, t, kit_ty (by decide +kernel), _, rfl, q⟩
    | dict x => cases hv
/-- srow, of anything -/
def spSrG : Sp := fun vs H Q _ => ∃ (f0 : Addr → Prop) (b v : V) (L : Addr) (css cls : List (List Int)) (d : PyData), vs = [b, .ref L, v] ∧ Bk H b css ∧ ClL H L cls ∧ OdV f0 H v d ∧ SeqAt.shaped d = true ∧ (∀ ds, d = .tuple ds → ds.length ≤ 60) ∧ (∀ c ∈ css, IsCl c) ∧ (∀ c ∈ cls, IsCl c) ∧
  (∀ H', Same H H' → NoRow css cls d → Q .non H') ∧ ∀ (r : Rw) (c : List Int) (p : Addr) (H' : Hp), Same H H' → d = dat r → RowCl css cls r c → H' p = some (.tup (c.map V.int)) → Q (.ref p) H'
theorem ok_srG {f fW fC : Addr} {fd fdW fdC : FuncData} {k : Nat} (F : Fun K "_law_srow" "_law_srow" sSrw f fd) (T : Zy mg) (FW : Fun K "_law_swhole" "_law_swhole" sSwh fW fdW) (bW : Binds K fdW ["thing"] []) (gW : mg "_law_swhole" = some (.ref fW)) (GW : FnOk P w K mg base CX0 1 fW fdW ["thing"] spWhG)
    (FC : Fun K "_law_scut" "_law_scut" sSct fC fdC) (bC : Binds K fdC ["one", "other", "k"] []) (gC : mg "_law_scut" = some (.ref fC)) (GC : FnOk P w K mg base CX0 1 fC fdC ["one", "other", "k"] spSct) :
    FnOk P w K mg base CX0 (k + 2) f fd ["book", "claims", "row"] spSrG := by
  refine F.ok scSrw (fun vs H Q E h => ?_) (fun cdv A outer s H vs Q E hr h => ?_)
  · obtain ⟨f0, b, v, L, css, cls, d, rfl, _⟩ := h
    rfl
  · obtain ⟨f0, b, v, L, css, cls, d, rfl, hb, ⟨lvs, hL, aL⟩, hv, sh, l60, ib, ic, q1, q2⟩ := h
    have hr1 : Room 1 _ := hr.mono (by omega)
    have hu : (A.deeper (envOfC "_law_srow" (defScope sSrw) s.heap.objs.size f cdv)).units + 70 < cLine := by
      have := hr.un
      omega
    refine ⟨_, (Evl.pss_cut (ps_if (PW.pt (pw_or (pt_not (pt_val (pe_callB call_isi (by rfl) T.z_isinstance (by decide +kernel) (pa_cons (pv 2) (pa_cons (pe_bltn (v := .ty "tuple") (u := .type "tuple") (by rfl) T.z_tuple (by decide +kernel) rfl) pa_nil))))) (pw_or1 (pt_cmpR op_lt (pe_callB call_len_seq (by rfl) T.z_len (by decide +kernel) (pa_cons (pv 2) pa_nil)) pe_int (nomark _))))) (pss_one (ps_ret pe_non)) pss_nil)
      (Evl.pss_cut (ps_if (pt_not (pt_val (pe_callB (cr_all rfl) (by rfl) T.z_all (by decide +kernel) (pa_cons (pe_lc (own := [("part", 3)]) (g := (gName 3)) (tt := tYes) rfl scSrw.nd (pi_tup (pe_slice sl_tupN (pv 2) (po_some pe_int) po_none)) (blkOk_by (N := nSrw) (sc := defScope sSrw) (by decide +kernel)) (fun _ _ _ _ _ => (pg_name (i := 3) scSrw.nd rfl (.inl rfl))) (fun _ _ _ _ _ => pts_nil) (fun _ _ _ _ _ => (pe_call GW hr1 (by rfl) gW FW.kp bW .nil pass0 (pa_cons (pv 3) pa_nil)))) pa_nil)))) (pss_one (ps_ret pe_non)) pss_nil)
      (Evl.pss_cut (ps_if (PW.pt (pw_and (pt_cmpR (op_eqD hr.units) (pe_ix ix_tup (pv 2) pe_int (fun _ _ => rfl)) pe_str (nomark _)) (pw_and (pt_cmpR op_eq (pe_callB call_len_seq (by rfl) T.z_len (by decide +kernel) (pa_cons (pv 2) pa_nil)) pe_int (nomark _)) (pw_and1 (pt_chain op_le op_lt pe_int (pe_ix ix_tup (pv 2) pe_int (fun _ _ => rfl)) (pe_callB call_len_seq (by rfl) T.z_len (by decide +kernel) (pa_cons (pv 0) pa_nil))))))) (pss_one (ps_ret (pe_ix ix_tup (pv 0) (pe_ix ix_tup (pv 2) pe_int (fun _ _ => rfl)) (fun _ _ => rfl)))) pss_nil)
      (Evl.pss_cut (ps_if (PW.pt (pw_or (pt_cmpR (op_neD hr.units) (pe_ix ix_tup (pv 2) pe_int (fun _ _ => rfl)) pe_str (nomark _)) (pw_or (pt_cmpR op_ne (pe_callB call_len_seq (by rfl) T.z_len (by decide +kernel) (pa_cons (pv 2) pa_nil)) pe_int (nomark _)) (pw_or (pt_cmpR op_lt (pe_callB (Lr.cr_minT rfl hu) (by rfl) T.z_min (by decide +kernel) (pa_cons (pe_slice sl_tupN (pv 2) (po_some pe_int) (po_some pe_int)) pa_nil)) pe_int (nomark _)) (pw_or1 (pt_cmpR op_ge (pe_callB (Lr.cr_maxT rfl hu) (by rfl) T.z_max (by decide +kernel) (pa_cons (pe_slice sl_tupN (pv 2) (po_some pe_int) (po_some pe_int)) pa_nil)) (pe_callB call_len_seq (by rfl) T.z_len (by decide +kernel) (pa_cons (pv 1) pa_nil)) (nomark _))))))) (pss_one (ps_ret pe_non)) pss_nil)
      (pss_one (ps_ret (pe_call GC hr1 (by rfl) gC FC.kp bC .nil pass0 (pa_cons (pe_ix ix_list (pv 1) (pe_ix ix_tup (pv 2) pe_int (fun _ _ => rfl)) (fun _ _ => rfl)) (pa_cons (pe_ix ix_list (pv 1) (pe_ix ix_tup (pv 2) pe_int (fun _ _ => rfl)) (fun _ _ => rfl)) (pa_cons (pe_ix ix_tup (pv 2) pe_int (fun _ _ => rfl)) pa_nil)))))))))), ?_⟩
    obtain ⟨b, bvs, rfl, hbt, aB⟩ := bk_all hb
    have no : (∀ ds, d ≠ .tuple ds) → Q .non H := fun n => q1 H (Same.refl H) fun r c e => absurd (dat_tup e) fun ⟨ds, z⟩ => n ds z
    have t := hv.ty (K := K)
    -- a tuple of two at least
    refine Evl.q_cut (M := fun σ' H' => ∃ (a : Addr) (v0 : V) (xr : List V) (d0 : PyData) (dr : List PyData), v = .ref a ∧ σ' = [some (.ref b), some (.ref L), some (.ref a), none] ∧ H' = H ∧ d = .tuple (d0 :: dr) ∧ H a = some (.tup (v0 :: xr)) ∧ OdV f0 H v0 d0 ∧ OdAll f0 H xr dr) ?_ ?_
    · cases d with
      | int n => exact ⟨_, rfl, v, .ty "tuple", .type "int", .type "tuple", false, rfl, .ty _, t, kit_ty (by decide +kernel), _, rfl, no fun _ => nofun⟩
      | bool n => exact ⟨_, rfl, v, .ty "tuple", .type "bool", .type "tuple", false, rfl, .ty _, t, kit_ty (by decide +kernel), _, rfl, no fun _ => nofun⟩
      | none => exact ⟨_, rfl, v, .ty "tuple", .type "NoneType", .type "tuple", false, rfl, .ty _, t, kit_ty (by decide +kernel), _, rfl, no fun _ => nofun⟩
      | str x => exact ⟨_, rfl, v, .ty "tuple", .type "str", .type "tuple", false, rfl, .ty _, t, kit_ty (by decide +kernel), _, rfl, no fun _ => nofun⟩
      | list x => exact ⟨_, rfl, v, .ty "tuple", .type "list", .type "tuple", false, rfl, .ty _, t, kit_ty (by decide +kernel), _, rfl, no fun _ => nofun⟩
      | dict x => cases hv
      | tuple ds =>
        cases id hv with
        | tup ha od =>
          rename_i a xs
          have lx := od.len
          refine ⟨_, rfl, .ref a, .ty "tuple", .type "tuple", .type "tuple", true, rfl, .ty _, t, kit_ty (by decide +kernel), _, rfl, ?_⟩
          refine ⟨_, rfl, a, _, rfl, .inr (.of ha), _, _, rfl, rfl, _, rfl, ite2 (fun e => ?_) (fun e => ?_)⟩
          · have e : (xs.length : Int) < 2 := of_decide_eq_true e
            refine q1 H (Same.refl H) fun r c er rc => ?_
            rcases dat_len er with z | z <;> omega
          · have e : ¬ (xs.length : Int) < 2 := of_decide_eq_false (Bool.eq_false_iff.mpr e)
            match xs, ds, od, ha with
            | [], _, _, _ => exact absurd (show (0 : Int) < 2 by decide) e
            | v0 :: xr, _ :: _, .cons o1 o2, ha => exact ⟨a, v0, xr, _, _, rfl, rfl, rfl, rfl, ha, o1, o2⟩
    rintro σ' H0 ⟨a, v0, xr, d0, dr, rfl, rfl, rfl, rfl, ha, o0, od⟩
    have lx := od.len
    have l6 := l60 _ rfl
    rw [List.length_cons] at l6
    -- whole numbers
    refine Evl.q_cut (M := fun σ' H' => ∃ ns : List Int, σ' = [some (.ref b), some (.ref L), some (.ref a), none] ∧ Same H0 H' ∧ dr = ns.map PyData.int ∧ xr = ns.map V.int) ?_ ?_
    · refine ⟨_, rfl, _, rfl, a, _, rfl, ha, fun p H1 s1 hp => ?_⟩
      rw [cut_1] at hp
      refine ⟨p, rfl, ⟨_, .of hp⟩, fun D nD => ?_⟩
      refine lc_tup (xs := xr) (Pv := fun i H' => Same H1 H' ∧ H' D = some (.lst (((dr.take i).map whD).map V.bl))) ⟨same_new nD, upd_same⟩ (fun i H' _ z => .of (z.1 _ _ hp)) ?_ ?_
      · rintro i x H2 hx ⟨s2, hD⟩
        obtain ⟨d, hd, ox⟩ := od.at hx
        have lz := (List.getElem?_eq_some_iff.mp hd).1
        refine ⟨rfl, _, rfl, f0, x, d, rfl, ox.ke (.same (s1.trans s2)), _, hD, ?_, fun c o y => ?_, ?_⟩
        · rw [List.length_map, List.length_map, List.length_take]
          exact small1000 (by omega)
        · rw [upd_ne (ne_of_none y nD)]
          exact s2 _ _ y
        · rw [upd_same, take_snoc hd, List.map_append, List.map_append]
          rfl
      · rintro H2 ⟨s2, hD⟩
        refine ⟨D, _, rfl, .of hD, _, rfl, ?_⟩
        rw [lx, List.take_length]
        cases e : (dr.map whD).all id with
        | false =>
          refine q1 H2 (s1.trans s2) fun r c er rc => ?_
          rw [List.all_eq_true.mpr fun x hx => ?_] at e
          · cases e
          · obtain ⟨y, hy, rfl⟩ := List.mem_map.mp hx
            exact dat_tail er y hy
        | true =>
          rw [List.all_eq_true] at e
          obtain ⟨ns, en⟩ := ints_of (ds := dr) fun d hd => e _ (List.mem_map.mpr ⟨d, hd, rfl⟩)
          refine ⟨ns, rfl, s1.trans s2, en, ?_⟩
          rw [en] at od
          exact od_is od
    rintro σ' H1 ⟨ns, rfl, s1, rfl, rfl⟩
    have ha1 := s1 _ _ ha
    have hb1 := s1 _ _ hbt
    have hL1 := s1 _ _ hL
    have o1 := o0.ke (Ke.same s1)
    have sh0 := shaped_tup sh d0 (by simp)
    -- a row of the book
    refine Evl.q_cut (M := fun σ' H' => σ' = [some (.ref b), some (.ref L), some (.ref a), none] ∧ H' = H1 ∧ ∀ n : Nat, d0 = .str "book" → ns = [(n : Int)] → css.length ≤ n) ?_ ?_
    · refine ⟨_, rfl, a, _, 0, v0, rfl, rfl, .of ha1, at_of (j := 0) rfl rfl, d0, .str "book", o1.dp, .str _, sh0, shaped_book, _, rfl, ite2 (fun e => ?_) (fun e => ?_)⟩
      · have e0 := eqv_str.mp e
        refine ⟨_, rfl, a, _, rfl, .inr (.of ha1), rfl, _, rfl, ite2 (fun e2 => ?_) (fun e2 => ?_)⟩
        · have l2 : ns.length = 1 := by
            have := V.int.inj (of_decide_eq_true e2)
            rw [List.length_cons, List.length_map] at this
            omega
          obtain ⟨m, rfl⟩ := List.length_eq_one_iff.mp l2
          refine ⟨_, rfl, a, _, 1, .int m, rfl, rfl, .of ha1, rfl, 0, _, rfl, rfl, decide ((0 : Int) ≤ m), rfl, ?_⟩
          by_cases m0 : 0 ≤ m
          · rw [decide_eq_true m0]
            refine ⟨_, rfl, b, _, rfl, .inr (.of hb1), _, _, rfl, rfl, _, rfl, ite2 (fun y => ?_) (fun y => ?_)⟩
            · have lt : m < (bvs.length : Int) := of_decide_eq_true y
              obtain ⟨n, rfl⟩ : ∃ n : Nat, m = (n : Int) := ⟨m.toNat, (Int.toNat_of_nonneg m0).symm⟩
              have lt : n < bvs.length := by omega
              obtain ⟨c, hc, p, e, hp⟩ := aB.at (List.getElem?_eq_getElem lt)
              refine ⟨_, rfl, _, rfl, a, _, 1, .int (n : Nat), rfl, rfl, .of ha1, rfl, b, bvs, _, .ref p, rfl, rfl, .of hb1, at_of (j := n) rfl (by rw [List.getElem?_eq_getElem lt, e]), ?_⟩
              exact q2 (.book n) c p H1 s1 (by rw [e0]; rfl) hc (s1 _ _ hp)
            · have nlt : ¬ m < (bvs.length : Int) := of_decide_eq_false (Bool.eq_false_iff.mpr y)
              refine ⟨rfl, rfl, fun n _ en => ?_⟩
              have := (List.cons.inj en).1
              have := aB.1
              omega
          · rw [decide_eq_false m0]
            refine ⟨false, rfl, rfl, rfl, fun n _ en => ?_⟩
            have := (List.cons.inj en).1
            omega
        · refine ⟨rfl, rfl, fun n _ en => ?_⟩
          subst en
          exact absurd (decide_eq_true rfl) e2
      · exact ⟨rfl, rfl, fun n z _ => absurd (eqv_str.mpr z) e⟩
    rintro σ' H2 ⟨rfl, rfl, nob⟩
    -- no cut of two rows ahead
    refine Evl.q_cut (M := fun σ' H' => ∃ (i j : Nat) (k : Int), σ' = [some (.ref b), some (.ref L), some (.ref a), none] ∧ Same H2 H' ∧ d0 = .str "cut" ∧ ns = [(i : Int), (j : Int), k] ∧ i < lvs.length ∧ j < lvs.length) ?_ ?_
    · have nope : ∀ {H' : Hp}, Same H2 H' → (∀ (i j : Nat) (k : Int), d0 = .str "cut" → ns = [(i : Int), (j : Int), k] → i < lvs.length → j < lvs.length → False) → Q .non H' := fun {H'} s' z => q1 H' (s1.trans s') fun r c er rc => by
        cases r with
        | book n =>
          have er := PyData.tuple.inj er
          obtain ⟨e0, e1⟩ := List.cons.inj er
          have en : ns = [(n : Int)] := by
            cases ns with
            | nil => cases e1
            | cons x r =>
              obtain ⟨z1, z2⟩ := List.cons.inj e1
              cases r with
              | nil => rw [PyData.int.inj z1]
              | cons _ _ => cases z2
          have := nob n e0 en
          have := (List.getElem?_eq_some_iff.mp rc).1
          omega
        | cut i j k =>
          have er := PyData.tuple.inj er
          obtain ⟨e0, e1⟩ := List.cons.inj er
          have en : ns = [(i : Int), (j : Int), k] := by
            have e1 : ns.map PyData.int = [(i : Int), (j : Int), k].map PyData.int := e1
            have inj : ∀ {l m : List Int}, l.map PyData.int = m.map PyData.int → l = m := fun {l} => by
              induction l with
              | nil => intro m h; cases m with | nil => rfl | cons _ _ => cases h
              | cons x r ih =>
                intro m h
                cases m with
                | nil => cases h
                | cons y t =>
                  obtain ⟨z1, z2⟩ := List.cons.inj h
                  rw [PyData.int.inj z1, ih z2]
            exact inj e1
          have h1 := rc.parts
          have h2 := aL.1
          exact z i j k e0 en (by omega) (by omega)
      refine ⟨_, rfl, a, _, 0, v0, rfl, rfl, .of ha1, at_of (j := 0) rfl rfl, d0, .str "cut", o1.dp, .str _, sh0, shaped_cut, _, rfl, ite2 (fun e => ?_) (fun e => ?_)⟩
      · have e : (!PyData.eqv d0 (.str "cut")) = true := e
        refine nope (Same.refl _) fun i j k z _ _ _ => ?_
        rw [eqv_str.mpr z] at e
        cases e
      · have e0 : d0 = .str "cut" := by
          have e : ¬ (!PyData.eqv d0 (.str "cut")) = true := e
          refine eqv_str.mp ?_
          cases q : PyData.eqv d0 (.str "cut") with
          | true => rfl
          | false => exact absurd (by rw [q]; rfl) e
        refine ⟨_, rfl, a, _, rfl, .inr (.of ha1), rfl, _, rfl, ite2 (fun e2 => ?_) (fun e2 => ?_)⟩
        · refine nope (Same.refl _) fun i j k _ en _ _ => ?_
          subst en
          have e2 : (!decide (V.int ((4 : Nat) : Int) = V.int 4)) = true := e2
          exact absurd e2 (by decide)
        · have l3 : ns.length = 3 := by
            have e2 : ¬ (!decide (V.int ((v0 :: ns.map V.int).length : Int) = V.int 4)) = true := e2
            have : V.int ((v0 :: ns.map V.int).length : Int) = V.int 4 := by
              apply Classical.byContradiction
              intro z
              exact e2 (by rw [decide_eq_false z]; rfl)
            have := V.int.inj this
            rw [List.length_cons, List.length_map] at this
            omega
          match ns, l3 with
          | [i, j, k], _ =>
            refine ⟨_, rfl, _, rfl, _, rfl, a, _, rfl, ha1, fun p1 H3 s3 hp1 => ?_⟩
            rw [show cutV (v0 :: [i, j, k].map V.int) (some 1) (some 3) = [.int i, .int j] from cut_13 _ _ _ _] at hp1
            refine ⟨p1, _, _, rfl, .of hp1, _, _, rfl, rfl, _, rfl, ite2 (fun y1 => ?_) (fun y1 => ?_)⟩
            · have y1 : (if j < i then j else i) < 0 := of_decide_eq_true y1
              refine nope s3 fun i' j' k' _ en _ _ => ?_
              simp only [List.cons.injEq] at en
              split at y1 <;> omega
            · have y1 : ¬ (if j < i then j else i) < 0 := of_decide_eq_false (Bool.eq_false_iff.mpr y1)
              have ij : 0 ≤ i ∧ 0 ≤ j := by split at y1 <;> omega
              have ha3 := s3 _ _ ha1
              refine ⟨_, rfl, _, rfl, _, rfl, a, _, rfl, ha3, fun p2 H4 s4 hp2 => ?_⟩
              rw [show cutV (v0 :: [i, j, k].map V.int) (some 1) (some 3) = [.int i, .int j] from cut_13 _ _ _ _] at hp2
              refine ⟨p2, _, _, rfl, .of hp2, _, rfl, L, _, rfl, .inl (.of (s4 _ _ (s3 _ _ hL1))), _, _, rfl, rfl, _, rfl, ite2 (fun y => ?_) (fun y => ?_)⟩
              · have y : (lvs.length : Int) ≤ (if i < j then j else i) := of_decide_eq_true y
                refine nope (s3.trans s4) fun i' j' k' _ en h1 h2 => ?_
                simp only [List.cons.injEq] at en
                split at y <;> omega
              · have y : ¬ (lvs.length : Int) ≤ (if i < j then j else i) := of_decide_eq_false (Bool.eq_false_iff.mpr y)
                refine ⟨i.toNat, j.toNat, k, rfl, s3.trans s4, e0, ?_, ?_, ?_⟩
                · rw [Int.toNat_of_nonneg ij.1, Int.toNat_of_nonneg ij.2]
                · split at y <;> omega
                · split at y <;> omega
    rintro σ' H3 ⟨i, j, k, rfl, s3, e0, rfl, li, lj⟩
    have ha3 := s3 _ _ ha1
    have hL3 := s3 _ _ hL1
    have s13 := s1.trans s3
    obtain ⟨ci, hci, ti⟩ := aL.at (List.getElem?_eq_getElem li)
    obtain ⟨cj, hcj, tj⟩ := aL.at (List.getElem?_eq_getElem lj)
    have z1 := (ic ci (List.mem_of_getElem? hci)).len
    have z2 := (ic cj (List.mem_of_getElem? hcj)).len
    have k13 : Ke Nof H0 H3 := .same s13
    refine ⟨_, rfl, _, rfl, a, _, 1, .int (i : Nat), rfl, rfl, .of ha3, rfl, L, lvs, _, lvs[i], rfl, rfl, .of hL3, at_of (j := i) rfl (List.getElem?_eq_getElem li), ?_⟩
    refine ⟨_, rfl, _, rfl, a, _, 2, .int (j : Nat), rfl, rfl, .of ha3, rfl, L, lvs, _, lvs[j], rfl, rfl, .of hL3, at_of (j := j) rfl (List.getElem?_eq_getElem lj), ?_⟩
    refine ⟨_, rfl, a, _, 3, .int k, rfl, rfl, .of ha3, rfl, lvs[i], lvs[j], k, ci, cj, rfl, ti.ke k13, tj.ke k13, by omega, by omega, fun H' s' no => ?_, fun ns p H' s' a1 a2 a3 a4 up me hp => ?_⟩
    · refine q1 H' (s13.trans s') fun r c er rc => ?_
      obtain ⟨i', j', k', rfl, _, e1, e2, e3⟩ := dat_four er
      have h1 := PyData.int.inj e1
      have h2 := PyData.int.inj e2
      have h3 := PyData.int.inj e3
      obtain ⟨x, y', g1, g2, g3⟩ := rc
      rw [show i' = i by omega] at g1
      rw [show j' = j by omega] at g2
      cases hci.symm.trans g1
      cases hcj.symm.trans g2
      rw [← h3] at g3
      exact g3.no no
    · exact q2 (.cut i j k) ns p H' (s13.trans s') (by rw [e0]; rfl) ⟨ci, cj, hci, hcj, a1, a2, a3, a4, up, me⟩ hp
theorem RowAt.od {f : Addr → Prop} {H : Hp} {v : V} {r : Rw} (h : RowAt H v r) : OdV f H v (dat r) := by
  obtain ⟨a, rfl, ha⟩ := h
  cases r with
  | book n => exact .tup ha (.cons (.str _) (.cons (.int _) .nil))
  | cut i j k => exact .tup ha (.cons (.str _) (.cons (.int _) (.cons (.int _) (.cons (.int _) .nil))))
theorem shaped_dat (r : Rw) : SeqAt.shaped (dat r) = true := by
  have b1 : PyData.strOk "book" = true := by decide +kernel
  have b2 : PyData.strOk "cut" = true := by decide +kernel
  cases r <;> simp [dat, SeqAt.shaped, PyData.canLay0, PyData.canLayAll0, b1, b2, PyData.depth, PyData.depthAll]
theorem sr_weak {f : Addr} {fd : FuncData} {k : Nat} (F : FnOk P w K mg base CX0 k f fd ["book", "claims", "row"] spSrG) : FnOk P w K mg base CX0 k f fd ["book", "claims", "row"] spSrw :=
  ok_weak F fun vs H Q E ⟨b, v, L, css, cls, r, e, hb, hL, hv, ib, ic, q1, q2⟩ => ⟨Nof, b, v, L, css, cls, dat r, e, hb, hL, RowAt.od hv, shaped_dat r, fun ds e => by rcases dat_len e.symm with z | z <;> omega, ib, ic, fun H' s no => q1 H' s fun c => no r c rfl, fun r' c p H' s er rc hp => by
    have := dat_inj er
    subst this
    exact q2 c p H' s rc hp⟩
abbrev sSto : Stmt := topS 40
abbrev nSto : List Str := ["book", "rows", "claims", "number", "row", "claim"]
theorem scSto : FnScope nSto ["book", "rows"] (defScope sSto) := ⟨rfl, rfl, rfl, by decide +kernel, rfl, by decide +kernel, by decide +kernel⟩
/-- what is told of a list of anything -/
structure Told (css : List (List Int)) (ds : List PyData) (av : V) (rows : List Rw) (cls : List (List Int)) : Prop where
  ah : Ahead css ds rows cls
  at_ : (av = .non ∧ IsLad css (.list ds)) ∨ (av = .int rows.length ∧ ¬ IsLad css (.list ds))
def spSto : Sp := fun vs H Q _ => ∃ (f0 : Addr → Prop) (b v : V) (css : List (List Int)) (ds : List PyData), vs = [b, v] ∧ Bk H b css ∧ (∀ c ∈ css, IsCl c) ∧ OdV f0 H v (.list ds) ∧ SeqAt.shaped (.list ds) = true ∧ (∀ d ∈ ds, ∀ es, d = .tuple es → es.length ≤ 60) ∧
  ∀ (t p : Addr) (av : V) (rows : List Rw) (cls : List (List Int)) (H' : Hp), Ke Nof H H' → H p = none → H' t = some (.tup [.ref p, av]) → ClL H' p cls → Told css ds av rows cls → Q (.ref t) H'
theorem list_nil {ds : List PyData} : PyData.eqv (.list ds) (.list []) = true ↔ ds = [] := by
  cases ds with
  | nil => exact ⟨fun _ => rfl, fun _ => rfl⟩
  | cons a r => exact ⟨fun h => absurd h (by simp [PyData.eqv, PyData.eqvAll]), fun h => nomatch h⟩
structure Ze (mg : Str → Option Value) : Prop where
  z_enumerate : mg "enumerate" = none
  z_int : mg "int" = none
theorem ok_sto {f fR : Addr} {fd fdR : FuncData} {k : Nat} (F : Fun K "_law_stold" "_law_stold" sSto f fd) (T : Ze mg) (FR : Fun K "_law_srow" "_law_srow" sSrw fR fdR) (bR : Binds K fdR ["book", "claims", "row"] []) (gR : mg "_law_srow" = some (.ref fR)) (GR : FnOk P w K mg base CX0 2 fR fdR ["book", "claims", "row"] spSrG) :
    FnOk P w K mg base CX0 (k + 3) f fd ["book", "rows"] spSto := by
  refine F.ok scSto (fun vs H Q E h => ?_) (fun cdv A outer s H vs Q E hr h => ?_)
  · obtain ⟨f0, b, v, css, ds, rfl, _⟩ := h
    rfl
  · obtain ⟨f0, b, v, css, ds, rfl, hb, ib, hv, sh, l60, q⟩ := h
    have hr2 : Room 2 _ := hr.mono (by omega)
    refine ⟨_, (Evl.pss_cut (ps_set (i := 2) scSto.nd rfl (.inl rfl) (pe_lstN pa_nil))
      (Evl.pss_cut (ps_for PassesOwn.never rfl (pi_enum (by rfl) T.z_enumerate (pa_cons (pv 1) pa_nil)) (pg_tup rfl (pgs_cons (pg_name (i := 3) scSto.nd rfl (.inl rfl)) (pgs_cons (pg_name (i := 4) scSto.nd rfl (.inl rfl)) pgs_nil))) (Evl.pss_cut (ps_set (i := 5) scSto.nd rfl (.inl rfl) (pe_call GR hr2 (by rfl) gR FR.kp bR .nil pass0 (pa_cons (pv 0) (pa_cons (pv 2) (pa_cons (pv 4) pa_nil)))))
      (Evl.pss_cut (ps_if (PW.pt (pw_or (pt_cmpR op_isN (pv 5) pe_non (nomark _)) (pw_or1 (pt_cmpR op_gt (pv 3) pe_int (nomark _))))) (pss_one (ps_ret (pe_tupN (pa_cons (pv 2) (pa_cons (pv 3) pa_nil))))) pss_nil)
      (pss_one (ps_expr (pe_bm PySem.F.plainAttrs_list PySem.F.slot_list_append PySem.F.type_list_append mt_append (pv 2) (pa_cons (pv 5) pa_nil)))))))
      (pss_one (ps_ret (pe_tupN (pa_cons (pv 2) (pa_cons (pe_ix ix_list (pe_lstN (pa_cons pe_non (pa_cons pe_int pa_nil))) (pe_callTy call_int1 (by rfl) T.z_int (by decide +kernel) (pa_cons (pe_cmpR (op_eqD hr.units) (pv 1) (pe_lstN pa_nil) (nomark _)) pa_nil)) (fun _ _ => rfl)) pa_nil))))))), ?_⟩
    cases id hv with
    | lst hL nf od =>
      rename_i L xs
      have lx := od.len
      have shp := shaped_lst sh
      refine Evl.q_cut (M := fun σ' H' => ∃ D : Addr, σ' = [some b, some (.ref L), some (.ref D), none, none, none] ∧ H D = none ∧ Same H H' ∧ H' D = some (.lst [])) ?_ ?_
      · exact ⟨Nat.zero_le _, fun D H1 nD s1 hD _ => ⟨D, rfl, nD, s1, hD⟩⟩
      rintro σ' H1 ⟨D, rfl, nD, s1, hD⟩
      refine Evl.q_cut (M := fun σ' H' => ∃ (y3 y4 y5 : Option V) (rows : List Rw) (cls : List (List Int)), σ' = [some b, some (.ref L), some (.ref D), y3, y4, y5] ∧ Ke Nof H H' ∧ ds = rows.map dat ∧ Lad css rows cls ∧ rows.length ≤ 200 ∧ ClL H' D cls) ?_ ?_
      · refine ⟨_, rfl, L, xs, rfl, .of (s1 _ _ hL), Xb.for_enl (K := K) (a := L) (xs := xs) (Pv := fun i σ H' => ∃ (y3 y4 y5 : Option V) (rows : List Rw) (cls : List (List Int)), σ = [some b, some (.ref L), some (.ref D), y3, y4, y5] ∧ Ke Nof H H' ∧ rows.length = i ∧ ds.take i = rows.map dat ∧ Lad css rows cls ∧ rows.length ≤ 200 ∧ ClL H' D cls) ?_ (fun i σ H' _ p => ?_) ?_ ?_⟩
        · exact ⟨none, none, none, [], [], rfl, .same s1, rfl, rfl, .nil css, Nat.zero_le _, [], hD, .nil⟩
        · obtain ⟨_, _, _, _, _, _, k, _⟩ := p
          exact .of (k.lst hL fun z => z)
        · rintro i x σ H3 T' hx ⟨y3, y4, y5, rows, cls, rfl, k3, lr, tk, ld, l2, hD3⟩ nT
          obtain ⟨d, hd, ox⟩ := od.at hx
          have li := (List.getElem?_eq_some_iff.mp hd).1
          have md := List.mem_of_getElem? hd
          have sT : Same H3 (upd H3 T' (.tup [.int (i : Nat), x])) := same_new nT
          have k4 : Ke Nof H (upd H3 T' (.tup [.int (i : Nat), x])) := k3.trans (.same sT)
          have hD4 := hD3.ke (Ke.same (F := Nof) sT) fun z => z
          refine ⟨T', _, rfl, .of upd_same, rfl, _, _, rfl, _, _, rfl, rfl, ?_⟩
          generalize upd H3 T' (.tup [.int (i : Nat), x]) = H4 at k4 hD4
          -- claim
          refine Evl.q_cut (M := fun σ' H' => ∃ cv : V, σ' = [some b, some (.ref L), some (.ref D), some (.int (i : Nat)), some x, some cv] ∧ Ke Nof H H' ∧ ClL H' D cls ∧ ((cv = .non ∧ NoRow css cls d) ∨ ∃ r c p, cv = .ref p ∧ d = dat r ∧ RowCl css cls r c ∧ H' p = some (.tup (c.map V.int)))) ?_ ?_
          · refine ⟨_, rfl, _, rfl, _, rfl, f0, b, x, D, css, cls, d, rfl, hb.ke k4, hD4, ox.ke k4.all, shp d md, l60 d md, ib, ld.isCl ib, fun H5 s5 no => ?_, fun r c p H5 s5 er rc hp => ?_⟩
            · exact ⟨_, rfl, k4.trans (.same s5), hD4.ke (Ke.same (F := Nof) s5) fun z => z, .inl ⟨rfl, no⟩⟩
            · exact ⟨_, rfl, k4.trans (.same s5), hD4.ke (Ke.same (F := Nof) s5) fun z => z, .inr ⟨r, c, p, rfl, er, rc, hp⟩⟩
          clear hD4 k4 sT nT hD3 k3
          rintro σ' H5 ⟨cv, rfl, k5, hD5, w⟩
          have stop : ¬ IsLad css (.list ds) → Ahead css ds rows cls → ∀ H', Same H5 H' → ∀ t, H' t = some (.tup [.ref D, .int (i : Nat)]) → Q (.ref t) H' := fun nl ah H' s' t ht =>
            q t D (.int (i : Nat)) rows cls H' (k5.trans (.same s')) nD ht (hD5.ke (Ke.same (F := Nof) s') fun z => z) ⟨ah, .inr ⟨by rw [lr], nl⟩⟩
          refine Evl.q_cut (M := fun σ' H' => ∃ r c p, σ' = [some b, some (.ref L), some (.ref D), some (.int (i : Nat)), some x, some (.ref p)] ∧ H' = H5 ∧ d = dat r ∧ RowCl css cls r c ∧ H5 p = some (.tup (c.map V.int)) ∧ i < 200) ?_ ?_
          · rcases w with ⟨rfl, no⟩ | ⟨r, c, p, rfl, er, rc, hp⟩
            · refine ⟨_, rfl, rfl, true, rfl, ?_⟩
              refine ⟨_, rfl, _, rfl, by show 2 ≤ sizeLine; decide, fun t H6 nt s6 ht _ => ?_⟩
              have ah : Ahead css ds rows cls := ⟨ld, by rw [lr]; exact tk, l2, by omega, .inr (.inr ⟨d, by rw [lr]; exact hd, no⟩)⟩
              refine stop (fun z => ?_) ah H6 s6 t ht
              have := (ahead_lad ah).mpr z
              omega
            · refine ⟨_, rfl, rfl, false, rfl, ?_⟩
              refine ⟨_, rfl, _, _, rfl, rfl, _, rfl, ite2 (fun e => ?_) (fun e => ?_)⟩
              · have e : (199 : Int) < (i : Nat) := of_decide_eq_true e
                refine ⟨_, rfl, _, rfl, by show 2 ≤ sizeLine; decide, fun t H6 nt s6 ht _ => ?_⟩
                have ah : Ahead css ds rows cls := ⟨ld, by rw [lr]; exact tk, l2, by omega, .inr (.inl (by omega))⟩
                refine stop (fun z => ?_) ah H6 s6 t ht
                have := (ahead_lad ah).mpr z
                omega
              · have e : ¬ (199 : Int) < (i : Nat) := of_decide_eq_false (Bool.eq_false_iff.mpr e)
                exact ⟨r, c, p, rfl, rfl, er, rc, hp, by omega⟩
          rintro σ' H5' ⟨r, c, p, rfl, rfl, er, rc, hp, l200⟩
          obtain ⟨dvs, hD5', aD⟩ := id hD5
          have lcl := ld.1
          have lad := aD.1
          refine ⟨_, rfl, .inl ⟨rfl, _, .of hD5'⟩, _, rfl, D, _, _, rfl, rfl, hD5', small1000 (by omega), ?_⟩
          refine ⟨_, _, _, rows ++ [r], cls ++ [c], rfl, k5.upd nD, by rw [List.length_append, lr]; rfl, ?_, ld.snoc rc, by rw [List.length_append]; show rows.length + 1 ≤ 200; omega, cl_snoc hD5' aD ⟨p, rfl, hp⟩⟩
          rw [take_snoc hd, tk, List.map_append, er]
          rfl
        · rintro σ H3 ⟨y3, y4, y5, rows, cls, rfl, k3, lr, tk, ld, l2, hD3⟩
          exact ⟨y3, y4, y5, rows, cls, rfl, k3, by rw [← tk, lx, List.take_length], ld, l2, hD3⟩
      rintro σ' H3 ⟨y3, y4, y5, rows, cls, rfl, k3, eds, ld, l2, hD3⟩
      have lds : ds.length = rows.length := by rw [eds, List.length_map]
      have ah : Ahead css ds rows cls := ⟨ld, by rw [← lds, List.take_length]; exact eds, l2, by omega, .inl (by omega)⟩
      have al := ahead_lad ah
      refine ⟨_, rfl, by show 2 ≤ sizeLine; decide, fun Z H4 nZ s4 hZ _ => ?_⟩
      refine ⟨_, rfl, Nat.zero_le _, fun N H5 nN s5 hN _ => ?_⟩
      have k5 : Ke Nof H H5 := k3.trans (.same (s4.trans s5))
      refine ⟨.list ds, .list [], (hv.ke k5.all).dp, .lst (.of hN) .nil, sh, rfl, .inr ⟨_, rfl, ?_⟩⟩
      cases e : PyData.eqv (.list ds) (.list []) with
      | true =>
        have e0 := list_nil.mp e
        refine ⟨Z, _, 1, .int 0, rfl, rfl, .of (s5 _ _ hZ), rfl, by show 2 ≤ sizeLine; decide, fun t H6 nt s6 ht _ => ?_⟩
        refine q t D (.int 0) rows cls H6 (k5.trans (.same s6)) nD ht (hD3.ke (Ke.same (F := Nof) (s4.trans (s5.trans s6))) fun z => z) ⟨ah, .inr ⟨?_, fun z => ?_⟩⟩
        · rw [show rows.length = 0 by rw [← lds, e0]; rfl]
          rfl
        · have := (al.mpr z).1
          rw [← lds, e0] at this
          exact absurd this (by decide)
      | false =>
        have e0 : ds ≠ [] := fun z => by
          rw [list_nil.mpr z] at e
          cases e
        refine ⟨Z, _, 0, .non, rfl, rfl, .of (s5 _ _ hZ), rfl, by show 2 ≤ sizeLine; decide, fun t H6 nt s6 ht _ => ?_⟩
        refine q t D .non rows cls H6 (k5.trans (.same s6)) nD ht (hD3.ke (Ke.same (F := Nof) (s4.trans (s5.trans s6))) fun z => z) ⟨ah, .inl ⟨rfl, al.mp ⟨?_, lds.symm⟩⟩⟩
        have := List.length_pos_iff.mpr e0
        omega
end
end Wl
namespace Wo
open PySem PySem.Spec PyProof.Rows L2 GxR Nw Dr Kp Se Cl Ct Lr Lp Ll Od Wg Wl
/-! ### odd rows -/
/-- a list that is known -/
def Kn (H : Hp) : Addr → Prop := fun a => ∃ xs, H a = some (.lst xs)
theorem kn_of {H G : Hp} {p : Addr} (s : Same H G) (n : G p = none) : ¬ Kn H p := fun ⟨xs, e⟩ => ne_of_none (s _ _ e) n rfl
inductive AllD (P : PyData → Prop) : List PyData → Prop
  | nil : AllD P []
  | cons {d : PyData} {ds : List PyData} : P d → AllD P ds → AllD P (d :: ds)
theorem AllD.mem {P : PyData → Prop} : ∀ {ds : List PyData}, AllD P ds → ∀ d ∈ ds, P d
  | _, .cons h t, d, hd => by
    rcases List.mem_cons.mp hd with z | z
    · rw [z]
      exact h
    · exact t.mem d z
/-- a part of a row -/
structure Im (d : PyData) : Prop where
  sm : Sm 45 d
  dp : d.depth ≤ 2
  sh : PyData.canLay0 d = true
/-- a row, odd or not -/
structure Or (d : PyData) : Prop where
  sm : Sm 400 d
  dp : d.depth ≤ 3
  sh : PyData.canLay0 d = true
  ln : ∀ es, d = .tuple es → es.length ≤ 60
theorem im_of {d : PyData} (h : (d.showable && !d.hasDict && decide (d.depth ≤ 2) && decide (d.shown.length ≤ 45) && PyData.canLay0 d) = true) : Im d := by
  simp only [Bool.and_eq_true, decide_eq_true_eq, Bool.not_eq_true'] at h
  obtain ⟨⟨⟨⟨h1, h2⟩, h3⟩, h4⟩, h5⟩ := h
  exact ⟨⟨h1, h2, by omega, h4⟩, h3, h5⟩
def tlen : PyData → Nat
  | .tuple es => es.length
  | _ => 0
theorem or_of {d : PyData} (h : (d.showable && !d.hasDict && decide (d.depth ≤ 3) && decide (d.shown.length ≤ 400) && PyData.canLay0 d && decide (tlen d ≤ 60)) = true) : Or d := by
  simp only [Bool.and_eq_true, decide_eq_true_eq, Bool.not_eq_true'] at h
  obtain ⟨⟨⟨⟨⟨h1, h2⟩, h3⟩, h4⟩, h5⟩, h6⟩ := h
  exact ⟨⟨h1, h2, by omega, h4⟩, h3, h5, fun es e => by rw [e] at h6; exact h6⟩
theorem mid_ints : ∀ n : Fin 601, PyData.showable (.int ((n.val : Int) - 300)) = true ∧ (PyData.shown (.int ((n.val : Int) - 300))).length ≤ 4 := by decide +kernel
theorem sm_mid {n : Int} (h0 : -300 ≤ n) (h1 : n ≤ 300) : Sm 4 (.int n) := by
  have := mid_ints ⟨(n + 300).toNat, by omega⟩
  rw [show (((n + 300).toNat : Nat) : Int) - 300 = n by omega] at this
  exact ⟨this.1, rfl, by show 0 ≤ 6; decide, this.2⟩
theorem im_int {n : Int} (h0 : -300 ≤ n) (h1 : n ≤ 300) : Im (.int n) := ⟨(sm_mid h0 h1).mono (by decide), by show 0 ≤ 2; decide, rfl⟩
theorem im_bool (b : Bool) : Im (.bool b) := by cases b <;> exact im_of (by decide +kernel)
theorem mid_txts : ∀ n : Fin 301, (PyData.shown (.str (toString ((n.val : Nat) : Int)))).length ≤ 10 ∧ PyData.canLay0 (.str (toString ((n.val : Nat) : Int))) = true := by decide +kernel
theorem im_txt {n : Int} (h0 : 0 ≤ n) (h1 : n ≤ 300) : Im (.str (toString n)) := by
  have := mid_txts ⟨n.toNat, by omega⟩
  rw [show (((n.toNat : Nat)) : Int) = n by omega] at this
  exact ⟨⟨rfl, rfl, by show 0 ≤ 6; decide, Nat.le_trans this.1 (by decide)⟩, by show 0 ≤ 2; decide, this.2⟩
theorem log_lt {n : Int} (h : -300 ≤ n ∧ n ≤ 300) : n.natAbs.log2 < 1920 := by
  have : n.natAbs < 2 ^ 1920 := Nat.lt_of_lt_of_le (show n.natAbs < 2 ^ 9 by omega) (Nat.pow_le_pow_right (by decide) (by decide))
  by_cases z : n.natAbs = 0
  · rw [z]
    decide
  · exact (Nat.log2_lt z).mpr this
theorem im_l1 {n : Int} (h0 : -300 ≤ n) (h1 : n ≤ 300) : Im (.list [.int n]) :=
  ⟨(SmAll.cons (sm_mid h0 h1) (Nat.zero_le _) .nil).list (n := 1) (Nat.le_refl _) (by decide), by show Nat.max 0 0 + 1 ≤ 2; decide, rfl⟩
theorem AllD.sm : ∀ {ds : List PyData}, AllD Im ds → SmAll 45 ds ∧ PyData.depthAll ds ≤ 2 ∧ PyData.canLayAll0 ds = true
  | [], _ => ⟨.nil, Nat.zero_le _, rfl⟩
  | _ :: _, .cons h t => by
    obtain ⟨t1, t2, t3⟩ := t.sm
    refine ⟨.cons h.sm (Nat.le_trans h.dp (by decide)) t1, Nat.max_le.mpr ⟨h.dp, t2⟩, ?_⟩
    show (PyData.canLay0 _ && PyData.canLayAll0 _) = true
    rw [h.sh, t3]
    rfl
theorem or_t {ds : List PyData} (h : AllD Im ds) (l : ds.length ≤ 6) : Or (.tuple ds) := by
  obtain ⟨h1, h2, h3⟩ := h.sm
  exact ⟨h1.tuple l (by decide), by show PyData.depthAll ds + 1 ≤ 3; omega, h3, fun es e => by rw [← PyData.tuple.inj e]; omega⟩
theorem or_l {ds : List PyData} (h : AllD Im ds) (l : ds.length ≤ 6) : Or (.list ds) := by
  obtain ⟨h1, h2, h3⟩ := h.sm
  exact ⟨h1.list l (by decide), by show PyData.depthAll ds + 1 ≤ 3; omega, h3, fun es e => nomatch e⟩
theorem ke_any {H : Hp} {p : Addr} {xs : List V} {o : HO} (hp : H p = some (.lst xs)) : Ke (fun _ => True) H (upd H p o) := by
  refine ⟨fun b x e _ m => absurd trivial m, fun Q hQ => ?_, fun b ys e => ?_⟩
  · obtain ⟨qs, e, t⟩ := hQ
    exact ⟨qs, by rw [upd_ne fun z => by rw [z, hp] at e; cases e]; exact e, t⟩
  · rw [upd_ne fun z => by rw [z, hp] at e; cases e]
    exact e
theorem ke_wrG {G : Addr → Prop} {H : Hp} {p : Addr} {xs : List V} {o : HO} (g : G p) (hp : H p = some (.lst xs)) : Ke G H (upd H p o) := by
  refine ⟨fun b x e _ m => ?_, (ke_any hp).tabs, (ke_any hp).tups⟩
  rw [upd_ne (show b ≠ p from fun z => m (by rw [z]; exact g))]
  exact e
mutual
theorem OdV.fresh {F : Addr → Prop} {G : Hp} {Z : Addr} (n : G Z = none) : ∀ {d : PyData} {v : V}, OdV F G v d → OdV (fun b => F b ∨ b = Z) G v d
  | .none, _, h => by cases h; exact .non
  | .bool _, _, h => by cases h; exact .bl _
  | .int _, _, h => by cases h; exact .int _
  | .str _, _, h => by cases h; exact .str _
  | .list ds, _, h => by cases h with | lst h1 m h2 => exact .lst h1 (fun z => z.elim m (ne_of_none h1 n)) (OdAll.fresh n h2)
  | .tuple ds, _, h => by cases h with | tup h1 h2 => exact .tup h1 (OdAll.fresh n h2)
  | .dict _, _, h => by cases h
theorem OdAll.fresh {F : Addr → Prop} {G : Hp} {Z : Addr} (n : G Z = none) : ∀ {ds : List PyData} {vs : List V}, OdAll F G vs ds → OdAll (fun b => F b ∨ b = Z) G vs ds
  | [], _, h => by cases h; exact .nil
  | d :: ds, _, h => by cases h with | cons h1 h2 => exact .cons (OdV.fresh n h1) (OdAll.fresh n h2)
end
/-- the odd ones so far, at D -/
structure Ob (F : Addr → Prop) (H G : Hp) (D : Addr) (us : List V) (N : Nat) : Prop where
  s : Same H G
  n : H D = none
  h : G D = some (.lst us)
  od : ∃ ds, OdAll F G us ds ∧ AllD Or ds
  l : us.length = N
theorem AllD.cat {P : PyData → Prop} : ∀ {as bs : List PyData}, AllD P as → AllD P bs → AllD P (as ++ bs)
  | [], _, _, h => h
  | _ :: _, _, .cons h t, g => .cons h (t.cat g)
section
variable {F F' : Addr → Prop} {H G G1 G2 : Hp} {D D' : Addr} {us us2 : List V} {ds2 : List PyData} {N M : Nat}
theorem Ob.cat (o : Ob F H G D us N) (w : Same G G1) (od2 : OdAll F G2 us2 ds2) (a2 : AllD Or ds2) (t : Same G1 G2) (hD : G2 D' = some (.lst (us ++ us2))) (n' : G1 D' = none) (l2 : us2.length = M) : Ob F H G2 D' (us ++ us2) (N + M) := by
  obtain ⟨ds, od, a⟩ := o.od
  exact ⟨o.s.trans (w.trans t), o.s.free (w.free n'), hD, ⟨ds ++ ds2, (od.ke (.same (w.trans t))).cat od2, a.cat a2⟩, by rw [List.length_append, o.l, l2]⟩
theorem Ob.app (o : Ob (fun _ => True) H G D us N) (w : Same G G1) {v : V} {d : PyData} (ov : OdV (fun _ => True) G1 v d) (a : Or d) : Ob (fun _ => True) H (upd G1 D (.lst (us ++ [v]))) D (us ++ [v]) (N + 1) := by
  obtain ⟨ds, od, al⟩ := o.od
  have hD := w _ _ o.h
  refine ⟨fun b x e => ?_, o.n, upd_same, ⟨ds ++ [d], ((od.ke (.same w)).cat (.one ov)).ke (ke_any hD), al.cat (.cons a .nil)⟩, by rw [List.length_append, o.l]; rfl⟩
  rw [upd_ne (ne_of_none e o.n)]
  exact w _ _ (o.s _ _ e)
theorem Ob.same (o : Ob F H G D us N) (w : Same G G1) : Ob F H G1 D us N := by
  obtain ⟨ds, od, al⟩ := o.od
  exact ⟨o.s.trans w, o.n, w _ _ o.h, ⟨ds, od.ke (.same w), al⟩, o.l⟩
theorem Ob.un (o : Ob F' H G D us N) (h : ∀ a, F a → F' a) : Ob F H G D us N := by
  obtain ⟨ds, od, al⟩ := o.od
  exact ⟨o.s, o.n, o.h, ⟨ds, od.un h, al⟩, o.l⟩
end
theorem cutA (x a b c : V) : cutV [x, a, b, c] none (some 3) = [x, a, b] := by
  unfold cutV
  rw [show (3 : Int) = ((3 : Nat) : Int) from rfl, HT.sIx_none, HT.sIx_nat]
  rfl
theorem cutB (x a b c : V) : cutV [x, a, b, c] none (some 2) = [x, a] := by
  unfold cutV
  rw [show (2 : Int) = ((2 : Nat) : Int) from rfl, HT.sIx_none, HT.sIx_nat]
  rfl
theorem cutC (x a b c : V) : cutV [x, a, b, c] (some 1) none = [a, b, c] := by
  unfold cutV
  rw [show (1 : Int) = ((1 : Nat) : Int) from rfl, HT.sIx_none, HT.sIx_nat]
  rfl
theorem small1000' {n : Nat} (h : n ≤ 1000) : n ≤ sizeLine := Nat.le_trans h (by decide)
structure Zo (mg : Str → Option Value) : Prop where
  z_list : mg "list" = none
  z_str : mg "str" = none
  z_range : mg "range" = none
section
variable {P : Program} {w : World} {K : PySem.W.Frag} {mg : Str → Option Value} {base : Heap}
abbrev sSoc : Stmt := topS 47
abbrev nSoc : List Str := ["row", "number", "i", "j", "k", "odd", "words", "word"]
theorem scSoc : FnScope nSoc ["row", "number"] (defScope sSoc) := ⟨rfl, rfl, rfl, by decide +kernel, rfl, by decide +kernel, by decide +kernel⟩
def spSoc : Sp := fun vs H Q _ => ∃ (a : Addr) (m i j : Nat) (k : Int), vs = [.ref a, .int (m : Int)] ∧ H a = some (.tup [.str "cut", .int (i : Int), .int (j : Int), .int k]) ∧ m ≤ 200 ∧ i ≤ 200 ∧ j ≤ 200 ∧ 1 ≤ k ∧ k ≤ 8 ∧
  ∀ (D : Addr) (us : List V) (H' : Hp), Ob (Kn H) H H' D us 27 → Q (.ref D) H'
theorem ok_soc {f : Addr} {fd : FuncData} {k : Nat} (F : Fun K "_law_sodd_cuts" "_law_sodd_cuts" sSoc f fd) (T : Zo mg) : FnOk P w K mg base CX0 (k + 1) f fd ["row", "number"] spSoc := by
  refine F.ok scSoc (fun vs H Q E h => ?_) (fun cdv A outer s H vs Q E hr h => ?_)
  · obtain ⟨a, m, i, j, k, rfl, _⟩ := h
    rfl
  · obtain ⟨a, m, i, j, k, rfl, hA, hm, hi, hj, k1, k8, q⟩ := h
    refine ⟨_, (Evl.pss_cut (ps_asg (pe_slice sl_tupN (pv 0) (po_some pe_int) po_none) (pg_tup rfl (pgs_cons (pg_name (i := 2) scSoc.nd rfl (.inl rfl)) (pgs_cons (pg_name (i := 3) scSoc.nd rfl (.inl rfl)) (pgs_cons (pg_name (i := 4) scSoc.nd rfl (.inl rfl)) pgs_nil)))))
      (Evl.pss_cut (ps_set (i := 5) scSoc.nd rfl (.inl rfl) (pe_lstN (pa_cons (pe_tupN (pa_cons pe_str (pa_cons (pv 3) (pa_cons (pv 2) (pa_cons (pv 4) pa_nil))))) (pa_cons (pe_tupN (pa_cons pe_str (pa_cons (pv 2) (pa_cons (pv 3) (pa_cons (pe_op op_sub pe_int (pv 4)) pa_nil))))) pa_nil))))
      (Evl.pss_cut (ps_set (i := 5) scSoc.nd rfl (.inl rfl) (pe_op op_catN (pv 5) (pe_lstN (pa_cons (pe_tupN (pa_cons pe_str (pa_cons (pv 2) (pa_cons (pv 3) (pa_cons (pe_op op_add (pe_op op_mod (pv 4) pe_int) pe_int) pa_nil))))) (pa_cons (pe_tupN (pa_cons pe_str (pa_cons (pv 2) (pa_cons (pv 2) (pa_cons (pv 4) pa_nil))))) pa_nil)))))
      (Evl.pss_cut (ps_set (i := 5) scSoc.nd rfl (.inl rfl) (pe_op op_catN (pv 5) (pe_lstN (pa_cons (pe_tupN (pa_cons pe_str (pa_cons (pe_op op_sub (pv 2) (pv 1)) (pa_cons (pv 3) (pa_cons (pv 4) pa_nil))))) (pa_cons (pe_tupN (pa_cons pe_str (pa_cons (pv 2) (pa_cons (pe_op op_sub (pv 3) (pv 1)) (pa_cons (pv 4) pa_nil))))) pa_nil)))))
      (Evl.pss_cut (ps_expr (pe_bm PySem.F.plainAttrs_list PySem.F.slot_list_append PySem.F.type_list_append mt_append (pv 5) (pa_cons (pe_tupN (pa_cons pe_str (pa_cons (pe_op op_sub (pv 2) (pv 1)) (pa_cons (pe_op op_sub (pv 3) (pv 1)) (pa_cons (pv 4) pa_nil))))) pa_nil)))
      (Evl.pss_cut (ps_expr (pe_bm PySem.F.plainAttrs_list PySem.F.slot_list_append PySem.F.type_list_append mt_append (pv 5) (pa_cons (pe_tupN (pa_cons pe_str (pa_cons (pv 3) (pa_cons (pv 2) (pa_cons (pe_op op_sub pe_int (pv 4)) pa_nil))))) pa_nil)))
      (Evl.pss_cut (ps_set (i := 5) scSoc.nd rfl (.inl rfl) (pe_op op_catN (pv 5) (pe_lstN (pa_cons (pe_callTy call_list_ofN (by rfl) T.z_list (by decide +kernel) (pa_cons (pv 0) pa_nil)) (pa_cons (pe_slice sl_tupN (pv 0) po_none (po_some pe_int)) (pa_cons (pe_slice sl_tupN (pv 0) po_none (po_some pe_int)) (pa_cons (pe_op op_catTN (pv 0) (pe_tupN (pa_cons (pv 4) pa_nil))) (pa_cons (pe_op op_catTN (pe_tupN (pa_cons pe_str pa_nil)) (pe_slice sl_tupN (pv 0) (po_some pe_int) po_none)) pa_nil))))))))
      (Evl.pss_cut (ps_set (i := 5) scSoc.nd rfl (.inl rfl) (pe_op op_catN (pv 5) (pe_lstN (pa_cons (pe_tupN (pa_cons pe_str (pa_cons (pe_cmpR op_eq (pv 2) pe_int (nomark _)) (pa_cons (pv 3) (pa_cons (pv 4) pa_nil))))) (pa_cons (pe_tupN (pa_cons pe_str (pa_cons (pv 2) (pa_cons (pe_cmpR op_gt (pv 3) pe_int (nomark _)) (pa_cons (pv 4) pa_nil))))) pa_nil)))))
      (Evl.pss_cut (ps_set (i := 5) scSoc.nd rfl (.inl rfl) (pe_op op_catN (pv 5) (pe_lstN (pa_cons (pe_op op_catTN (pe_slice sl_tupN (pv 0) po_none (po_some pe_int)) (pe_tupN (pa_cons (pe_cmpR op_eq (pv 4) pe_int (nomark _)) pa_nil))) (pa_cons (pe_tupN (pa_cons pe_str (pa_cons (pe_callTy call_str_int (by rfl) T.z_str (by decide +kernel) (pa_cons (pv 2) pa_nil)) (pa_cons (pv 3) (pa_cons (pv 4) pa_nil))))) pa_nil)))))
      (Evl.pss_cut (ps_set (i := 6) scSoc.nd rfl (.inl rfl) (pe_lstN (pa_cons pe_str (pa_cons pe_str (pa_cons pe_str (pa_cons pe_int (pa_cons pe_non (pa_cons (pe_lstN (pa_cons pe_str pa_nil)) (pa_cons (pe_tupN (pa_cons pe_str pa_nil)) pa_nil)))))))))
      (Evl.pss_cut (ps_set (i := 5) scSoc.nd rfl (.inl rfl) (pe_op op_catN (pv 5) (pe_lc (own := [("word", 7)]) (g := (gName 7)) (tt := tYes) rfl scSoc.nd (pi_list (pv 6)) (blkOk_by (N := nSoc) (sc := defScope sSoc) (by decide +kernel)) (fun _ _ _ _ _ => (pg_name (i := 7) scSoc.nd rfl (.inl rfl))) (fun _ _ _ _ _ => pts_nil) (fun _ _ _ _ _ => (pe_op op_catTN (pe_tupN (pa_cons (pv 7) pa_nil)) (pe_slice sl_tupN (pv 0) (po_some pe_int) po_none))))))
      (pss_one (ps_ret (pe_op op_catN (pv 5) (pe_lstN (pa_cons (pe_op op_catTN (pe_slice sl_tupN (pv 0) po_none (po_some pe_int)) (pe_tupN (pa_cons pe_non pa_nil))) (pa_cons (pe_op op_catTN (pe_slice sl_tupN (pv 0) po_none (po_some pe_int)) (pe_tupN (pa_cons (pe_callTy call_str_int (by rfl) T.z_str (by decide +kernel) (pa_cons (pv 4) pa_nil)) pa_nil))) (pa_cons (pe_tupN (pa_cons pe_str (pa_cons (pv 2) (pa_cons (pe_lstN (pa_cons (pv 3) pa_nil)) (pa_cons (pv 4) pa_nil))))) pa_nil)))))))))))))))))), ?_⟩
    refine Evl.q_cut (M := fun σ' H' => σ' = [some (.ref a), some (.int (m : Int)), some (.int (i : Int)), some (.int (j : Int)), some (.int k), none, none, none] ∧ Same H H') ?_ ?_
    · refine ⟨_, rfl, 1, rfl, a, _, rfl, hA, fun p G t h => ?_⟩
      rw [cutC] at h
      exact ⟨p, _, rfl, .of h, rfl, _, _, rfl, _, _, rfl, _, _, rfl, rfl, rfl, t⟩
    rintro σ' G ⟨rfl, s0⟩
    have ha := s0 _ _ hA
    refine Evl.q_cut (M := fun σ' H' => ∃ (D : Addr) (us : List V), σ' = [some (.ref a), some (.int (m : Int)), some (.int (i : Int)), some (.int (j : Int)), some (.int k), some (.ref D), none, none] ∧ Ob (fun _ => True) H H' D us 2) ?_ ?_
    · skip
      have xw0 : Same G G := Same.refl _
      refine ⟨_, rfl, _, rfl, _, rfl, by show 4 ≤ sizeLine; decide, fun xp1 xG1 xn1 xt1 xh1 _ => ?_⟩
      have xw1 := xw0.trans xt1
      refine ⟨_, rfl, _, rfl, _, rfl, _, _, rfl, rfl, by show 4 ≤ sizeLine; decide, fun xp2 xG2 xn2 xt2 xh2 _ => ?_⟩
      have xw2 := xw1.trans xt2
      refine ⟨by show 2 ≤ sizeLine; decide, fun xp3 xG3 xn3 xt3 xh3 _ => ?_⟩
      have xw3 := xw2.trans xt3
      have xu3 := (Same.refl xG3)
      have xu2 := xt3.trans xu3
      have xu1 := xt2.trans xu2
      have xu0 := xt1.trans xu1
      exact ⟨xp3, _, rfl, s0.trans xw3, s0.free (xw2.free xn3), xh3, ⟨[.tuple [.str "cut", .int (j : Int), .int (i : Int), .int k], .tuple [.str "cut", .int (i : Int), .int (j : Int), .int ((0 : Int) - k)]], (.cons (.tup (xu1 _ _ xh1) (.cons (.str _) (.cons (.int _) (.cons (.int _) (.cons (.int _) .nil))))) (.cons (.tup (xu2 _ _ xh2) (.cons (.str _) (.cons (.int _) (.cons (.int _) (.cons (.int _) .nil))))) .nil)), (.cons (or_t (.cons (im_of (by decide +kernel)) (.cons (im_int (by omega) (by omega)) (.cons (im_int (by omega) (by omega)) (.cons (im_int (by omega) (by omega)) .nil)))) (by show 4 ≤ 6; decide)) (.cons (or_t (.cons (im_of (by decide +kernel)) (.cons (im_int (by omega) (by omega)) (.cons (im_int (by omega) (by omega)) (.cons (im_int (by omega) (by omega)) .nil)))) (by show 4 ≤ 6; decide)) .nil))⟩, rfl⟩
    clear s0
    rintro σ' G ⟨D, us, rfl, ob⟩
    have s0 := ob.s
    have ha := s0 _ _ hA
    refine Evl.q_cut (M := fun σ' H' => ∃ (D : Addr) (us : List V), σ' = [some (.ref a), some (.int (m : Int)), some (.int (i : Int)), some (.int (j : Int)), some (.int k), some (.ref D), none, none] ∧ Ob (fun _ => True) H H' D us 4) ?_ ?_
    · skip
      have xw0 : Same G G := Same.refl _
      refine ⟨_, rfl, _, rfl, _, rfl, _, rfl, _, _, rfl, rfl, by show (0 : Int) < 8; decide, _, _, rfl, rfl, by show 4 ≤ sizeLine; decide, fun xp1 xG1 xn1 xt1 xh1 _ => ?_⟩
      have xw1 := xw0.trans xt1
      refine ⟨_, rfl, _, rfl, _, rfl, by show 4 ≤ sizeLine; decide, fun xp2 xG2 xn2 xt2 xh2 _ => ?_⟩
      have xw2 := xw1.trans xt2
      refine ⟨by show 2 ≤ sizeLine; decide, fun xp3 xG3 xn3 xt3 xh3 _ => ?_⟩
      have xw3 := xw2.trans xt3
      refine ⟨D, xp3, us, _, rfl, rfl, xw3 _ _ ob.h, xh3, small1000' (by rw [ob.l]; show 2 + 2 ≤ 1000; decide), fun D' G' nD tD hD _ => ?_⟩
      have xu3 := tD
      have xu2 := xt3.trans xu3
      have xu1 := xt2.trans xu2
      have xu0 := xt1.trans xu1
      exact ⟨D', _, rfl, ob.cat xw3 (.cons (.tup (xu1 _ _ xh1) (.cons (.str _) (.cons (.int _) (.cons (.int _) (.cons (.int _) .nil))))) (.cons (.tup (xu2 _ _ xh2) (.cons (.str _) (.cons (.int _) (.cons (.int _) (.cons (.int _) .nil))))) .nil)) (.cons (or_t (.cons (im_of (by decide +kernel)) (.cons (im_int (by omega) (by omega)) (.cons (im_int (by omega) (by omega)) (.cons (im_int (by omega) (by omega)) .nil)))) (by show 4 ≤ 6; decide)) (.cons (or_t (.cons (im_of (by decide +kernel)) (.cons (im_int (by omega) (by omega)) (.cons (im_int (by omega) (by omega)) (.cons (im_int (by omega) (by omega)) .nil)))) (by show 4 ≤ 6; decide)) .nil)) tD hD nD rfl⟩
    clear ob
    rintro σ' G ⟨D, us, rfl, ob⟩
    have s0 := ob.s
    have ha := s0 _ _ hA
    refine Evl.q_cut (M := fun σ' H' => ∃ (D : Addr) (us : List V), σ' = [some (.ref a), some (.int (m : Int)), some (.int (i : Int)), some (.int (j : Int)), some (.int k), some (.ref D), none, none] ∧ Ob (fun _ => True) H H' D us 6) ?_ ?_
    · skip
      have xw0 : Same G G := Same.refl _
      refine ⟨_, rfl, _, rfl, _, rfl, _, _, rfl, rfl, _, rfl, _, rfl, by show 4 ≤ sizeLine; decide, fun xp1 xG1 xn1 xt1 xh1 _ => ?_⟩
      have xw1 := xw0.trans xt1
      refine ⟨_, rfl, _, rfl, _, rfl, _, _, rfl, rfl, _, rfl, by show 4 ≤ sizeLine; decide, fun xp2 xG2 xn2 xt2 xh2 _ => ?_⟩
      have xw2 := xw1.trans xt2
      refine ⟨by show 2 ≤ sizeLine; decide, fun xp3 xG3 xn3 xt3 xh3 _ => ?_⟩
      have xw3 := xw2.trans xt3
      refine ⟨D, xp3, us, _, rfl, rfl, xw3 _ _ ob.h, xh3, small1000' (by rw [ob.l]; show 4 + 2 ≤ 1000; decide), fun D' G' nD tD hD _ => ?_⟩
      have xu3 := tD
      have xu2 := xt3.trans xu3
      have xu1 := xt2.trans xu2
      have xu0 := xt1.trans xu1
      exact ⟨D', _, rfl, ob.cat xw3 (.cons (.tup (xu1 _ _ xh1) (.cons (.str _) (.cons (.int _) (.cons (.int _) (.cons (.int _) .nil))))) (.cons (.tup (xu2 _ _ xh2) (.cons (.str _) (.cons (.int _) (.cons (.int _) (.cons (.int _) .nil))))) .nil)) (.cons (or_t (.cons (im_of (by decide +kernel)) (.cons (im_int (by omega) (by omega)) (.cons (im_int (by omega) (by omega)) (.cons (im_int (by omega) (by omega)) .nil)))) (by show 4 ≤ 6; decide)) (.cons (or_t (.cons (im_of (by decide +kernel)) (.cons (im_int (by omega) (by omega)) (.cons (im_int (by omega) (by omega)) (.cons (im_int (by omega) (by omega)) .nil)))) (by show 4 ≤ 6; decide)) .nil)) tD hD nD rfl⟩
    clear ob
    rintro σ' G ⟨D, us, rfl, ob⟩
    have s0 := ob.s
    have ha := s0 _ _ hA
    refine Evl.q_cut (M := fun σ' H' => ∃ (us : List V), σ' = [some (.ref a), some (.int (m : Int)), some (.int (i : Int)), some (.int (j : Int)), some (.int k), some (.ref D), none, none] ∧ Ob (fun _ => True) H H' D us 7) ?_ ?_
    · skip
      have xw0 : Same G G := Same.refl _
      refine ⟨_, rfl, .inl ⟨rfl, _, .of ob.h⟩, _, rfl, _, rfl, _, _, rfl, rfl, _, rfl, _, rfl, _, _, rfl, rfl, _, rfl, by show 4 ≤ sizeLine; decide, fun xp1 xG1 xn1 xt1 xh1 _ => ?_⟩
      have xw1 := xw0.trans xt1
      refine ⟨D, _, _, rfl, rfl, xw1 _ _ ob.h, small1000 (by rw [ob.l]; decide), ?_⟩
      have xu1 := (Same.refl xG1)
      have xu0 := xt1.trans xu1
      exact ⟨_, rfl, ob.app xw1 (.tup (xu1 _ _ xh1) (.cons (.str _) (.cons (.int _) (.cons (.int _) (.cons (.int _) .nil))))) (or_t (.cons (im_of (by decide +kernel)) (.cons (im_int (by omega) (by omega)) (.cons (im_int (by omega) (by omega)) (.cons (im_int (by omega) (by omega)) .nil)))) (by show 4 ≤ 6; decide))⟩
    clear ob s0
    rintro σ' G ⟨us, rfl, ob⟩
    have s0 := ob.s
    have ha := s0 _ _ hA
    refine Evl.q_cut (M := fun σ' H' => ∃ (us : List V), σ' = [some (.ref a), some (.int (m : Int)), some (.int (i : Int)), some (.int (j : Int)), some (.int k), some (.ref D), none, none] ∧ Ob (fun _ => True) H H' D us 8) ?_ ?_
    · skip
      have xw0 : Same G G := Same.refl _
      refine ⟨_, rfl, .inl ⟨rfl, _, .of ob.h⟩, _, rfl, _, rfl, _, rfl, _, _, rfl, rfl, by show 4 ≤ sizeLine; decide, fun xp1 xG1 xn1 xt1 xh1 _ => ?_⟩
      have xw1 := xw0.trans xt1
      refine ⟨D, _, _, rfl, rfl, xw1 _ _ ob.h, small1000 (by rw [ob.l]; decide), ?_⟩
      have xu1 := (Same.refl xG1)
      have xu0 := xt1.trans xu1
      exact ⟨_, rfl, ob.app xw1 (.tup (xu1 _ _ xh1) (.cons (.str _) (.cons (.int _) (.cons (.int _) (.cons (.int _) .nil))))) (or_t (.cons (im_of (by decide +kernel)) (.cons (im_int (by omega) (by omega)) (.cons (im_int (by omega) (by omega)) (.cons (im_int (by omega) (by omega)) .nil)))) (by show 4 ≤ 6; decide))⟩
    clear ob s0
    rintro σ' G ⟨us, rfl, ob⟩
    have s0 := ob.s
    have ha := s0 _ _ hA
    replace ob := ob.un (F := Kn H) fun _ _ => trivial
    refine Evl.q_cut (M := fun σ' H' => ∃ (D : Addr) (us : List V), σ' = [some (.ref a), some (.int (m : Int)), some (.int (i : Int)), some (.int (j : Int)), some (.int k), some (.ref D), none, none] ∧ Ob (Kn H) H H' D us 13) ?_ ?_
    · skip
      have xw0 : Same G G := Same.refl _
      refine ⟨_, rfl, _, rfl, a, _, rfl, .inr (.of ha), fun xp1 xG1 xn1 xt1 xh1 _ => ?_⟩
      have xw1 := xw0.trans xt1
      have xk1 : ¬ Kn H xp1 := kn_of (s0.trans xw0) xn1
      refine ⟨_, rfl, 3, rfl, a, _, rfl, (xw1 _ _ ha), fun xp2 xG2 xt2 xh2 => ?_⟩
      have xw2 := xw1.trans xt2
      rw [cutA] at xh2
      refine ⟨_, rfl, 2, rfl, a, _, rfl, (xw2 _ _ ha), fun xp3 xG3 xt3 xh3 => ?_⟩
      have xw3 := xw2.trans xt3
      rw [cutB] at xh3
      refine ⟨_, rfl, _, rfl, by show 1 ≤ sizeLine; decide, fun xp4 xG4 xn4 xt4 xh4 _ => ?_⟩
      have xw4 := xw3.trans xt4
      refine ⟨a, xp4, _, _, rfl, rfl, (xw4 _ _ ha), xh4, by show 5 ≤ sizeLine; decide, fun xp5 xG5 xt5 xh5 => ?_⟩
      have xw5 := xw4.trans xt5
      have xh5 : xG5 xp5 = some (.tup [.str "cut", .int (i : Int), .int (j : Int), .int k, .int k]) := xh5
      refine ⟨by show 1 ≤ sizeLine; decide, fun xp6 xG6 xn6 xt6 xh6 _ => ?_⟩
      have xw6 := xw5.trans xt6
      refine ⟨_, rfl, 1, rfl, a, _, rfl, (xw6 _ _ ha), fun xp7 xG7 xt7 xh7 => ?_⟩
      have xw7 := xw6.trans xt7
      rw [cutC] at xh7
      refine ⟨xp6, xp7, _, _, rfl, rfl, (xt7 _ _ xh6), xh7, by show 4 ≤ sizeLine; decide, fun xp8 xG8 xt8 xh8 => ?_⟩
      have xw8 := xw7.trans xt8
      have xh8 : xG8 xp8 = some (.tup [.str "book", .int (i : Int), .int (j : Int), .int k]) := xh8
      refine ⟨by show 5 ≤ sizeLine; decide, fun xp9 xG9 xn9 xt9 xh9 _ => ?_⟩
      have xw9 := xw8.trans xt9
      refine ⟨D, xp9, us, _, rfl, rfl, xw9 _ _ ob.h, xh9, small1000' (by rw [ob.l]; show 8 + 5 ≤ 1000; decide), fun D' G' nD tD hD _ => ?_⟩
      have xu9 := tD
      have xu8 := xt9.trans xu9
      have xu7 := xt8.trans xu8
      have xu6 := xt7.trans xu7
      have xu5 := xt6.trans xu6
      have xu4 := xt5.trans xu5
      have xu3 := xt4.trans xu4
      have xu2 := xt3.trans xu3
      have xu1 := xt2.trans xu2
      have xu0 := xt1.trans xu1
      exact ⟨D', _, rfl, ob.cat xw9 (.cons (.lst (xu1 _ _ xh1) xk1 (.cons (.str _) (.cons (.int _) (.cons (.int _) (.cons (.int _) .nil))))) (.cons (.tup (xu2 _ _ xh2) (.cons (.str _) (.cons (.int _) (.cons (.int _) .nil)))) (.cons (.tup (xu3 _ _ xh3) (.cons (.str _) (.cons (.int _) .nil))) (.cons (.tup (xu5 _ _ xh5) (.cons (.str _) (.cons (.int _) (.cons (.int _) (.cons (.int _) (.cons (.int _) .nil)))))) (.cons (.tup (xu8 _ _ xh8) (.cons (.str _) (.cons (.int _) (.cons (.int _) (.cons (.int _) .nil))))) .nil))))) (.cons (or_l (.cons (im_of (by decide +kernel)) (.cons (im_int (by omega) (by omega)) (.cons (im_int (by omega) (by omega)) (.cons (im_int (by omega) (by omega)) .nil)))) (by show 4 ≤ 6; decide)) (.cons (or_t (.cons (im_of (by decide +kernel)) (.cons (im_int (by omega) (by omega)) (.cons (im_int (by omega) (by omega)) .nil))) (by show 3 ≤ 6; decide)) (.cons (or_t (.cons (im_of (by decide +kernel)) (.cons (im_int (by omega) (by omega)) .nil)) (by show 2 ≤ 6; decide)) (.cons (or_t (.cons (im_of (by decide +kernel)) (.cons (im_int (by omega) (by omega)) (.cons (im_int (by omega) (by omega)) (.cons (im_int (by omega) (by omega)) (.cons (im_int (by omega) (by omega)) .nil))))) (by show 5 ≤ 6; decide)) (.cons (or_t (.cons (im_of (by decide +kernel)) (.cons (im_int (by omega) (by omega)) (.cons (im_int (by omega) (by omega)) (.cons (im_int (by omega) (by omega)) .nil)))) (by show 4 ≤ 6; decide)) .nil))))) tD hD nD rfl⟩
    clear ob
    rintro σ' G ⟨D, us, rfl, ob⟩
    have s0 := ob.s
    have ha := s0 _ _ hA
    refine Evl.q_cut (M := fun σ' H' => ∃ (D : Addr) (us : List V), σ' = [some (.ref a), some (.int (m : Int)), some (.int (i : Int)), some (.int (j : Int)), some (.int k), some (.ref D), none, none] ∧ Ob (Kn H) H H' D us 15) ?_ ?_
    · skip
      have xw0 : Same G G := Same.refl _
      refine ⟨_, rfl, _, rfl, rfl, _, rfl, _, rfl, by show 4 ≤ sizeLine; decide, fun xp1 xG1 xn1 xt1 xh1 _ => ?_⟩
      have xw1 := xw0.trans xt1
      refine ⟨_, rfl, _, rfl, _, _, rfl, rfl, _, rfl, by show 4 ≤ sizeLine; decide, fun xp2 xG2 xn2 xt2 xh2 _ => ?_⟩
      have xw2 := xw1.trans xt2
      refine ⟨by show 2 ≤ sizeLine; decide, fun xp3 xG3 xn3 xt3 xh3 _ => ?_⟩
      have xw3 := xw2.trans xt3
      refine ⟨D, xp3, us, _, rfl, rfl, xw3 _ _ ob.h, xh3, small1000' (by rw [ob.l]; show 13 + 2 ≤ 1000; decide), fun D' G' nD tD hD _ => ?_⟩
      have xu3 := tD
      have xu2 := xt3.trans xu3
      have xu1 := xt2.trans xu2
      have xu0 := xt1.trans xu1
      exact ⟨D', _, rfl, ob.cat xw3 (.cons (.tup (xu1 _ _ xh1) (.cons (.str _) (.cons (.bl _) (.cons (.int _) (.cons (.int _) .nil))))) (.cons (.tup (xu2 _ _ xh2) (.cons (.str _) (.cons (.int _) (.cons (.bl _) (.cons (.int _) .nil))))) .nil)) (.cons (or_t (.cons (im_of (by decide +kernel)) (.cons (im_bool _) (.cons (im_int (by omega) (by omega)) (.cons (im_int (by omega) (by omega)) .nil)))) (by show 4 ≤ 6; decide)) (.cons (or_t (.cons (im_of (by decide +kernel)) (.cons (im_int (by omega) (by omega)) (.cons (im_bool _) (.cons (im_int (by omega) (by omega)) .nil)))) (by show 4 ≤ 6; decide)) .nil)) tD hD nD rfl⟩
    clear ob
    rintro σ' G ⟨D, us, rfl, ob⟩
    have s0 := ob.s
    have ha := s0 _ _ hA
    refine Evl.q_cut (M := fun σ' H' => ∃ (D : Addr) (us : List V), σ' = [some (.ref a), some (.int (m : Int)), some (.int (i : Int)), some (.int (j : Int)), some (.int k), some (.ref D), none, none] ∧ Ob (Kn H) H H' D us 17) ?_ ?_
    · skip
      have xw0 : Same G G := Same.refl _
      refine ⟨_, rfl, _, rfl, 3, rfl, a, _, rfl, ha, fun xp1 xG1 xt1 xh1 => ?_⟩
      have xw1 := xw0.trans xt1
      rw [cutA] at xh1
      refine ⟨_, rfl, rfl, by show 1 ≤ sizeLine; decide, fun xp2 xG2 xn2 xt2 xh2 _ => ?_⟩
      have xw2 := xw1.trans xt2
      refine ⟨xp1, xp2, _, _, rfl, rfl, (xt2 _ _ xh1), xh2, by show 4 ≤ sizeLine; decide, fun xp3 xG3 xt3 xh3 => ?_⟩
      have xw3 := xw2.trans xt3
      have xh3 : xG3 xp3 = some (.tup [.str "cut", .int (i : Int), .int (j : Int), .bl (decide (V.int k = V.int (1 : Int)))]) := xh3
      refine ⟨_, rfl, _, rfl, log_lt (by omega), _, rfl, _, rfl, by show 4 ≤ sizeLine; decide, fun xp4 xG4 xn4 xt4 xh4 _ => ?_⟩
      have xw4 := xw3.trans xt4
      refine ⟨by show 2 ≤ sizeLine; decide, fun xp5 xG5 xn5 xt5 xh5 _ => ?_⟩
      have xw5 := xw4.trans xt5
      refine ⟨D, xp5, us, _, rfl, rfl, xw5 _ _ ob.h, xh5, small1000' (by rw [ob.l]; show 15 + 2 ≤ 1000; decide), fun D' G' nD tD hD _ => ?_⟩
      have xu5 := tD
      have xu4 := xt5.trans xu5
      have xu3 := xt4.trans xu4
      have xu2 := xt3.trans xu3
      have xu1 := xt2.trans xu2
      have xu0 := xt1.trans xu1
      exact ⟨D', _, rfl, ob.cat xw5 (.cons (.tup (xu3 _ _ xh3) (.cons (.str _) (.cons (.int _) (.cons (.int _) (.cons (.bl _) .nil))))) (.cons (.tup (xu4 _ _ xh4) (.cons (.str _) (.cons (.str _) (.cons (.int _) (.cons (.int _) .nil))))) .nil)) (.cons (or_t (.cons (im_of (by decide +kernel)) (.cons (im_int (by omega) (by omega)) (.cons (im_int (by omega) (by omega)) (.cons (im_bool _) .nil)))) (by show 4 ≤ 6; decide)) (.cons (or_t (.cons (im_of (by decide +kernel)) (.cons (im_txt (by omega) (by omega)) (.cons (im_int (by omega) (by omega)) (.cons (im_int (by omega) (by omega)) .nil)))) (by show 4 ≤ 6; decide)) .nil)) tD hD nD rfl⟩
    clear ob
    rintro σ' G ⟨D, us, rfl, ob⟩
    have s0 := ob.s
    have ha := s0 _ _ hA
    -- words
    refine Evl.q_cut (M := fun σ' H' => ∃ (W : Addr) (ws : List V) (es : List PyData), σ' = [some (.ref a), some (.int (m : Int)), some (.int (i : Int)), some (.int (j : Int)), some (.int k), some (.ref D), some (.ref W), none] ∧ Same G H' ∧ H' W = some (.lst ws) ∧ OdAll (Kn H) H' ws es ∧ AllD Im es ∧ ws.length = 7) ?_ ?_
    · skip
      have yw0 : Same G G := Same.refl _
      refine ⟨by show 1 ≤ sizeLine; decide, fun yp1 yG1 yn1 yt1 yh1 _ => ?_⟩
      have yw1 := yw0.trans yt1
      have yk1 : ¬ Kn H yp1 := kn_of (s0.trans yw0) yn1
      refine ⟨by show 1 ≤ sizeLine; decide, fun yp2 yG2 yn2 yt2 yh2 _ => ?_⟩
      have yw2 := yw1.trans yt2
      refine ⟨by show 7 ≤ sizeLine; decide, fun yp3 yG3 yn3 yt3 yh3 _ => ?_⟩
      have yw3 := yw2.trans yt3
      have yu3 := (Same.refl yG3)
      have yu2 := yt3.trans yu3
      have yu1 := yt2.trans yu2
      have yu0 := yt1.trans yu1
      exact ⟨yp3, _, [.str "Cut", .str "cuts", .str "", .int 0, .none, .list [.str "cut"], .tuple [.str "cut"]], rfl, yw3, yh3, (.cons (.str _) (.cons (.str _) (.cons (.str _) (.cons (.int _) (.cons .non (.cons (.lst (yu1 _ _ yh1) yk1 (.cons (.str _) .nil)) (.cons (.tup (yu2 _ _ yh2) (.cons (.str _) .nil)) .nil))))))), .cons (im_of (by decide +kernel)) (.cons (im_of (by decide +kernel)) (.cons (im_of (by decide +kernel)) (.cons (im_of (by decide +kernel)) (.cons (im_of (by decide +kernel)) (.cons (im_of (by decide +kernel)) (.cons (im_of (by decide +kernel)) .nil)))))), rfl⟩
    rintro σ' G1 ⟨W, ws, es, rfl, s1, hW, oW, iW, lW⟩
    have ob1 := ob.same s1
    clear ob s0 ha
    have s0 := ob1.s
    have ha := s0 _ _ hA
    refine Evl.q_cut (M := fun σ' H' => ∃ (D : Addr) (us : List V), σ' = [some (.ref a), some (.int (m : Int)), some (.int (i : Int)), some (.int (j : Int)), some (.int k), some (.ref D), some (.ref W), none] ∧ Ob (Kn H) H H' D us (17 + 7)) ?_ ?_
    · refine ⟨_, rfl, _, rfl, W, rfl, ⟨_, .of hW⟩, fun Z nZ => ?_⟩
      refine lc_list (xs := ws) (Pv := fun t H' => ∃ (vs : List V) (ds : List PyData), Same G1 H' ∧ H' Z = some (.lst vs) ∧ OdAll (fun b => Kn H b ∨ b = Z) H' vs ds ∧ AllD Or ds ∧ vs.length = t) ⟨[], [], same_new nZ, upd_same, .nil, .nil, rfl⟩ (fun t H' _ p => ?_) ?_ ?_
      · obtain ⟨_, _, s2, _⟩ := p
        exact .of (s2 _ _ hW)
      · rintro t x H2 hx ⟨vs, ds, s2, hZ, oZ, aZ, lZ⟩
        have lt := (List.getElem?_eq_some_iff.mp hx).1
        obtain ⟨d, hd, ox⟩ := (OdAll.fresh nZ oW).at hx
        have imd := iW.mem d (List.mem_of_getElem? hd)
        refine ⟨rfl, _, rfl, by show 1 ≤ sizeLine; decide, fun p H5 np s5 hp _ => ?_⟩
        have ha5 := (s2.trans s5) _ _ ha
        refine ⟨_, rfl, 1, rfl, a, _, rfl, ha5, fun p2 H6 s6 hp2 => ?_⟩
        rw [cutC] at hp2
        refine ⟨p, p2, _, _, rfl, rfl, s6 _ _ hp, hp2, by show 4 ≤ sizeLine; decide, fun p3 H7 s7 hp3 => ?_⟩
        have s27 := s5.trans (s6.trans s7)
        have hZ7 := s27 _ _ hZ
        have kw : Ke (fun b => Kn H b ∨ b = Z) H7 (upd H7 Z (.lst (vs ++ [.ref p3]))) := ke_wrG (.inr rfl) hZ7
        have hp3 : H7 p3 = some (.tup [x, .int (i : Int), .int (j : Int), .int k]) := hp3
        refine ⟨_, hZ7, small1000 (by omega), vs ++ [.ref p3], ds ++ [.tuple [d, .int (i : Int), .int (j : Int), .int k]], fun b o e => ?_, upd_same, ((oZ.ke (.same s27)).cat (.one (.tup hp3 (.cons (ox.ke (.same (s2.trans s27))) (.cons (.int _) (.cons (.int _) (.cons (.int _) .nil))))))).ke kw, aZ.cat (.cons (or_t (.cons imd (.cons (im_int (by omega) (by omega)) (.cons (im_int (by omega) (by omega)) (.cons (im_int (by omega) (by omega)) .nil)))) (by show 4 ≤ 6; decide)) .nil), by rw [List.length_append, lZ]; rfl⟩
        rw [upd_ne (ne_of_none e nZ)]
        exact (s2.trans s27) _ _ e
      · rintro H2 ⟨vs, ds, s2, hZ, oZ, aZ, lZ⟩
        refine ⟨D, Z, us, _, rfl, rfl, s2 _ _ ob1.h, hZ, small1000' (by rw [ob1.l, lZ, lW]; decide), fun D' G' nD tD hD _ => ?_⟩
        exact ⟨D', _, rfl, ob1.cat s2 ((oZ.un fun b z => .inl z).ke (.same tD)) aZ tD hD nD (by rw [lZ, lW])⟩
    clear ob1 s0 ha hW oW iW lW s1 G
    rintro σ' G ⟨D, us, rfl, ob⟩
    have s0 := ob.s
    have ha := s0 _ _ hA
    have xw0 : Same G G := Same.refl _
    refine ⟨_, rfl, _, rfl, 3, rfl, a, _, rfl, ha, fun xp1 xG1 xt1 xh1 => ?_⟩
    have xw1 := xw0.trans xt1
    rw [cutA] at xh1
    refine ⟨by show 1 ≤ sizeLine; decide, fun xp2 xG2 xn2 xt2 xh2 _ => ?_⟩
    have xw2 := xw1.trans xt2
    refine ⟨xp1, xp2, _, _, rfl, rfl, (xt2 _ _ xh1), xh2, by show 4 ≤ sizeLine; decide, fun xp3 xG3 xt3 xh3 => ?_⟩
    have xw3 := xw2.trans xt3
    have xh3 : xG3 xp3 = some (.tup [.str "cut", .int (i : Int), .int (j : Int), .non]) := xh3
    refine ⟨_, rfl, 3, rfl, a, _, rfl, (xw3 _ _ ha), fun xp4 xG4 xt4 xh4 => ?_⟩
    have xw4 := xw3.trans xt4
    rw [cutA] at xh4
    refine ⟨_, rfl, _, rfl, log_lt (by omega), by show 1 ≤ sizeLine; decide, fun xp5 xG5 xn5 xt5 xh5 _ => ?_⟩
    have xw5 := xw4.trans xt5
    refine ⟨xp4, xp5, _, _, rfl, rfl, (xt5 _ _ xh4), xh5, by show 4 ≤ sizeLine; decide, fun xp6 xG6 xt6 xh6 => ?_⟩
    have xw6 := xw5.trans xt6
    have xh6 : xG6 xp6 = some (.tup [.str "cut", .int (i : Int), .int (j : Int), .str (toString k)]) := xh6
    refine ⟨_, rfl, _, rfl, by show 1 ≤ sizeLine; decide, fun xp7 xG7 xn7 xt7 xh7 _ => ?_⟩
    have xw7 := xw6.trans xt7
    have xk7 : ¬ Kn H xp7 := kn_of (s0.trans xw6) xn7
    refine ⟨_, rfl, by show 4 ≤ sizeLine; decide, fun xp8 xG8 xn8 xt8 xh8 _ => ?_⟩
    have xw8 := xw7.trans xt8
    refine ⟨by show 3 ≤ sizeLine; decide, fun xp9 xG9 xn9 xt9 xh9 _ => ?_⟩
    have xw9 := xw8.trans xt9
    refine ⟨D, xp9, us, _, rfl, rfl, xw9 _ _ ob.h, xh9, small1000' (by rw [ob.l]; show 17 + 7 + 3 ≤ 1000; decide), fun D' G' nD tD hD _ => ?_⟩
    have xu9 := tD
    have xu8 := xt9.trans xu9
    have xu7 := xt8.trans xu8
    have xu6 := xt7.trans xu7
    have xu5 := xt6.trans xu6
    have xu4 := xt5.trans xu5
    have xu3 := xt4.trans xu4
    have xu2 := xt3.trans xu3
    have xu1 := xt2.trans xu2
    have xu0 := xt1.trans xu1
    exact q D' _ G' (ob.cat xw9 (.cons (.tup (xu3 _ _ xh3) (.cons (.str _) (.cons (.int _) (.cons (.int _) (.cons .non .nil))))) (.cons (.tup (xu6 _ _ xh6) (.cons (.str _) (.cons (.int _) (.cons (.int _) (.cons (.str _) .nil))))) (.cons (.tup (xu8 _ _ xh8) (.cons (.str _) (.cons (.int _) (.cons (.lst (xu7 _ _ xh7) xk7 (.cons (.int _) .nil)) (.cons (.int _) .nil))))) .nil))) (.cons (or_t (.cons (im_of (by decide +kernel)) (.cons (im_int (by omega) (by omega)) (.cons (im_int (by omega) (by omega)) (.cons (im_of (by decide +kernel)) .nil)))) (by show 4 ≤ 6; decide)) (.cons (or_t (.cons (im_of (by decide +kernel)) (.cons (im_int (by omega) (by omega)) (.cons (im_int (by omega) (by omega)) (.cons (im_txt (by omega) (by omega)) .nil)))) (by show 4 ≤ 6; decide)) (.cons (or_t (.cons (im_of (by decide +kernel)) (.cons (im_int (by omega) (by omega)) (.cons (im_l1 (by omega) (by omega)) (.cons (im_int (by omega) (by omega)) .nil)))) (by show 4 ≤ 6; decide)) .nil))) tD hD nD rfl)
/-- what a row of a drawn ladder is made of -/
def RwB : Rw → Prop
  | .book n => n ≤ 200
  | .cut i j k => i ≤ 200 ∧ j ≤ 200 ∧ 1 ≤ k ∧ k ≤ 8
abbrev sSor : Stmt := topS 44
abbrev nSor : List Str := ["n", "number", "row", "odd", "one"]
theorem scSor : FnScope nSor ["n", "number", "row"] (defScope sSor) := ⟨rfl, rfl, rfl, by decide +kernel, rfl, by decide +kernel, by decide +kernel⟩
def spSor : Sp := fun vs H Q _ => ∃ (n m : Nat) (v : V) (r : Rw), vs = [.int (n : Int), .int (m : Int), v] ∧ n ≤ 16 ∧ m ≤ 200 ∧ RowAt H v r ∧ RwB r ∧ ∀ (D : Addr) (us : List V) (N : Nat) (H' : Hp), Ob (Kn H) H H' D us N → 1 ≤ N → N ≤ 120 → Q (.ref D) H'
theorem ok_sor {f fC : Addr} {fd fdC : FuncData} {k : Nat} (F : Fun K "_law_sodd_rows" "_law_sodd_rows" sSor f fd) (T : Zo mg) (FC : Fun K "_law_sodd_cuts" "_law_sodd_cuts" sSoc fC fdC) (bC : Binds K fdC ["row", "number"] []) (gC : mg "_law_sodd_cuts" = some (.ref fC)) (GC : FnOk P w K mg base CX0 1 fC fdC ["row", "number"] spSoc) :
    FnOk P w K mg base CX0 (k + 2) f fd ["n", "number", "row"] spSor := by
  refine F.ok scSor (fun vs H Q E h => ?_) (fun cdv A outer s H vs Q E hr h => ?_)
  · obtain ⟨n, m, v, r, rfl, _⟩ := h
    rfl
  · obtain ⟨n, m, v, r, rfl, hn, hm, ⟨a, rfl, hA⟩, rb, q⟩ := h
    have hr1 : Room 1 _ := hr.mono (by omega)
    refine ⟨_, (Evl.pss_cut (ps_set (i := 3) scSor.nd rfl (.inl rfl) (pe_lstN (pa_cons (pe_tupN (pa_cons pe_str (pa_cons (pv 0) pa_nil))) (pa_cons (pe_tupN (pa_cons pe_str (pa_cons (pe_un un_neg pe_int) pa_nil))) (pa_cons (pe_tupN (pa_cons pe_str (pa_cons pe_bl pa_nil))) (pa_cons (pe_tupN (pa_cons pe_str (pa_cons pe_str pa_nil))) (pa_cons (pe_tupN (pa_cons pe_str pa_nil)) pa_nil)))))))
      (Evl.pss_cut (ps_set (i := 3) scSor.nd rfl (.inl rfl) (pe_op op_catN (pv 3) (pe_lstN (pa_cons (pe_tupN (pa_cons pe_str (pa_cons pe_int (pa_cons pe_int pa_nil)))) (pa_cons (pe_lstN (pa_cons pe_str (pa_cons pe_int pa_nil))) (pa_cons pe_non (pa_cons pe_int (pa_cons pe_str (pa_cons (pe_tupN pa_nil) (pa_cons (pe_tupN (pa_cons pe_str pa_nil)) pa_nil))))))))))
      (Evl.pss_cut (ps_set (i := 3) scSor.nd rfl (.inl rfl) (pe_op op_catN (pv 3) (pe_lstN (pa_cons (pe_tupN (pa_cons pe_str (pa_cons pe_int pa_nil))) (pa_cons (pe_tupN (pa_cons pe_int (pa_cons pe_str pa_nil))) (pa_cons (pe_tupN (pa_cons pe_str (pa_cons pe_non pa_nil))) (pa_cons (pe_tupN (pa_cons pe_str (pa_cons pe_int (pa_cons pe_int (pa_cons pe_int pa_nil))))) pa_nil)))))))
      (Evl.pss_cut (ps_set (i := 3) scSor.nd rfl (.inl rfl) (pe_op op_catN (pv 3) (pe_lstN (pa_cons (pe_tupN (pa_cons pe_str (pa_cons pe_int (pa_cons pe_int (pa_cons pe_int pa_nil))))) (pa_cons (pe_tupN (pa_cons pe_str (pa_cons (pv 1) (pa_cons pe_int (pa_cons pe_int pa_nil))))) (pa_cons (pe_tupN (pa_cons pe_str (pa_cons pe_int (pa_cons (pv 1) (pa_cons pe_int pa_nil))))) pa_nil))))))
      (Evl.pss_cut (ps_set (i := 3) scSor.nd rfl (.inl rfl) (pe_op op_catN (pv 3) (pe_lstN (pa_cons (pe_tupN (pa_cons pe_str (pa_cons (pe_un un_neg pe_int) (pa_cons pe_int (pa_cons pe_int pa_nil))))) (pa_cons (pe_tupN (pa_cons pe_str (pa_cons pe_int (pa_cons pe_int (pa_cons pe_int pa_nil))))) (pa_cons (pe_tupN (pa_cons pe_str (pa_cons pe_int (pa_cons pe_int (pa_cons (pe_un un_neg pe_int) pa_nil))))) pa_nil))))))
      (Evl.pss_cut (ps_set (i := 3) scSor.nd rfl (.inl rfl) (pe_op op_catN (pv 3) (pe_lstN (pa_cons (pe_tupN (pa_cons pe_str (pa_cons pe_int (pa_cons pe_int (pa_cons (pe_op op_pow pe_int pe_int) pa_nil))))) (pa_cons (pe_tupN (pa_cons pe_str (pa_cons pe_int (pa_cons (pe_op op_pow pe_int pe_int) (pa_cons pe_int pa_nil))))) (pa_cons (pe_tupN (pa_cons pe_str (pa_cons (pe_op op_sub pe_int (pv 0)) pa_nil))) pa_nil))))))
      (Evl.pss_cut (ps_set (i := 3) scSor.nd rfl (.inl rfl) (pe_op op_catN (pv 3) (pe_lstN (pa_cons (pe_tupN (pa_cons (pe_tupN (pa_cons pe_str pa_nil)) (pa_cons pe_int pa_nil))) (pa_cons (pe_tupN (pa_cons pe_str (pa_cons pe_int (pa_cons pe_int (pa_cons (pe_lstN (pa_cons pe_int pa_nil)) pa_nil))))) (pa_cons (pe_tupN (pa_cons (pe_lstN pa_nil) (pa_cons pe_int pa_nil))) (pa_cons (pe_tupN (pa_cons pe_str (pa_cons pe_int pa_nil))) (pa_cons (pe_tupN (pa_cons pe_str (pa_cons (pe_un un_neg pe_int) pa_nil))) pa_nil))))))))
      (Evl.pss_cut (ps_set (i := 3) scSor.nd rfl (.inl rfl) (pe_op op_catN (pv 3) (pe_lc (own := [("one", 4)]) (g := (gName 4)) (tt := tYes) rfl scSor.nd (pi_range1 (by rfl) T.z_range (pa_cons (pv 0) pa_nil)) (blkOk_by (N := nSor) (sc := defScope sSor) (by decide +kernel)) (fun _ _ _ _ _ => (pg_name (i := 4) scSor.nd rfl (.inl rfl))) (fun _ _ _ _ _ => pts_nil) (fun _ _ _ _ _ => (pe_tupN (pa_cons pe_str (pa_cons (pv 4) pa_nil)))))))
      (Evl.pss_cut (ps_if (pt_cmpR op_eq (pe_ix ix_tup (pv 2) pe_int (fun _ _ => rfl)) pe_str (nomark _)) (pss_one (ps_set (i := 3) scSor.nd rfl (.inl rfl) (pe_op op_catN (pv 3) (pe_call GC hr1 (by rfl) gC FC.kp bC .nil pass0 (pa_cons (pv 2) (pa_cons (pv 1) pa_nil)))))) pss_nil)
      (pss_one (ps_ret (pv 3)))))))))))), ?_⟩
    have s0 : Same H H := Same.refl H
    refine Evl.q_cut (M := fun σ' H' => ∃ (D : Addr) (us : List V), σ' = [some (.int (n : Int)), some (.int (m : Int)), some (.ref a), some (.ref D), none] ∧ Ob (Kn H) H H' D us 5) ?_ ?_
    · skip
      have xw0 : Same H H := Same.refl _
      refine ⟨_, rfl, by show 2 ≤ sizeLine; decide, fun xp1 xG1 xn1 xt1 xh1 _ => ?_⟩
      have xw1 := xw0.trans xt1
      refine ⟨_, rfl, by show 2 ≤ sizeLine; decide, fun xp2 xG2 xn2 xt2 xh2 _ => ?_⟩
      have xw2 := xw1.trans xt2
      refine ⟨by show 2 ≤ sizeLine; decide, fun xp3 xG3 xn3 xt3 xh3 _ => ?_⟩
      have xw3 := xw2.trans xt3
      refine ⟨by show 2 ≤ sizeLine; decide, fun xp4 xG4 xn4 xt4 xh4 _ => ?_⟩
      have xw4 := xw3.trans xt4
      refine ⟨by show 1 ≤ sizeLine; decide, fun xp5 xG5 xn5 xt5 xh5 _ => ?_⟩
      have xw5 := xw4.trans xt5
      refine ⟨by show 5 ≤ sizeLine; decide, fun xp6 xG6 xn6 xt6 xh6 _ => ?_⟩
      have xw6 := xw5.trans xt6
      have xu6 := (Same.refl xG6)
      have xu5 := xt6.trans xu6
      have xu4 := xt5.trans xu5
      have xu3 := xt4.trans xu4
      have xu2 := xt3.trans xu3
      have xu1 := xt2.trans xu2
      have xu0 := xt1.trans xu1
      exact ⟨xp6, _, rfl, s0.trans xw6, s0.free (xw5.free xn6), xh6, ⟨[.tuple [.str "book", .int (n : Int)], .tuple [.str "book", .int (-1)], .tuple [.str "book", .bool true], .tuple [.str "book", .str "0"], .tuple [.str "book"]], (.cons (.tup (xu1 _ _ xh1) (.cons (.str _) (.cons (.int _) .nil))) (.cons (.tup (xu2 _ _ xh2) (.cons (.str _) (.cons (.int _) .nil))) (.cons (.tup (xu3 _ _ xh3) (.cons (.str _) (.cons (.bl _) .nil))) (.cons (.tup (xu4 _ _ xh4) (.cons (.str _) (.cons (.str _) .nil))) (.cons (.tup (xu5 _ _ xh5) (.cons (.str _) .nil)) .nil))))), (.cons (or_t (.cons (im_of (by decide +kernel)) (.cons (im_int (by omega) (by omega)) .nil)) (by show 2 ≤ 6; decide)) (.cons (or_of (by decide +kernel)) (.cons (or_t (.cons (im_of (by decide +kernel)) (.cons (im_bool _) .nil)) (by show 2 ≤ 6; decide)) (.cons (or_of (by decide +kernel)) (.cons (or_of (by decide +kernel)) .nil)))))⟩, rfl⟩
    clear s0
    rintro σ' G ⟨D, us, rfl, ob⟩
    have s0 := ob.s
    refine Evl.q_cut (M := fun σ' H' => ∃ (D : Addr) (us : List V), σ' = [some (.int (n : Int)), some (.int (m : Int)), some (.ref a), some (.ref D), none] ∧ Ob (Kn H) H H' D us 12) ?_ ?_
    · skip
      have xw0 : Same G G := Same.refl _
      refine ⟨_, rfl, by show 3 ≤ sizeLine; decide, fun xp1 xG1 xn1 xt1 xh1 _ => ?_⟩
      have xw1 := xw0.trans xt1
      refine ⟨by show 2 ≤ sizeLine; decide, fun xp2 xG2 xn2 xt2 xh2 _ => ?_⟩
      have xw2 := xw1.trans xt2
      have xk2 : ¬ Kn H xp2 := kn_of (s0.trans xw1) xn2
      refine ⟨Nat.zero_le _, fun xp3 xG3 xn3 xt3 xh3 _ => ?_⟩
      have xw3 := xw2.trans xt3
      refine ⟨by show 1 ≤ sizeLine; decide, fun xp4 xG4 xn4 xt4 xh4 _ => ?_⟩
      have xw4 := xw3.trans xt4
      refine ⟨by show 7 ≤ sizeLine; decide, fun xp5 xG5 xn5 xt5 xh5 _ => ?_⟩
      have xw5 := xw4.trans xt5
      refine ⟨D, xp5, us, _, rfl, rfl, xw5 _ _ ob.h, xh5, small1000' (by rw [ob.l]; show 5 + 7 ≤ 1000; decide), fun D' G' nD tD hD _ => ?_⟩
      have xu5 := tD
      have xu4 := xt5.trans xu5
      have xu3 := xt4.trans xu4
      have xu2 := xt3.trans xu3
      have xu1 := xt2.trans xu2
      have xu0 := xt1.trans xu1
      exact ⟨D', _, rfl, ob.cat xw5 (.cons (.tup (xu1 _ _ xh1) (.cons (.str _) (.cons (.int _) (.cons (.int _) .nil)))) (.cons (.lst (xu2 _ _ xh2) xk2 (.cons (.str _) (.cons (.int _) .nil))) (.cons .non (.cons (.int _) (.cons (.str _) (.cons (.tup (xu3 _ _ xh3) .nil) (.cons (.tup (xu4 _ _ xh4) (.cons (.str _) .nil)) .nil))))))) (.cons (or_of (by decide +kernel)) (.cons (or_of (by decide +kernel)) (.cons (or_of (by decide +kernel)) (.cons (or_of (by decide +kernel)) (.cons (or_of (by decide +kernel)) (.cons (or_of (by decide +kernel)) (.cons (or_of (by decide +kernel)) .nil))))))) tD hD nD rfl⟩
    clear ob
    rintro σ' G ⟨D, us, rfl, ob⟩
    have s0 := ob.s
    refine Evl.q_cut (M := fun σ' H' => ∃ (D : Addr) (us : List V), σ' = [some (.int (n : Int)), some (.int (m : Int)), some (.ref a), some (.ref D), none] ∧ Ob (Kn H) H H' D us 16) ?_ ?_
    · skip
      have xw0 : Same G G := Same.refl _
      refine ⟨_, rfl, by show 2 ≤ sizeLine; decide, fun xp1 xG1 xn1 xt1 xh1 _ => ?_⟩
      have xw1 := xw0.trans xt1
      refine ⟨by show 2 ≤ sizeLine; decide, fun xp2 xG2 xn2 xt2 xh2 _ => ?_⟩
      have xw2 := xw1.trans xt2
      refine ⟨by show 2 ≤ sizeLine; decide, fun xp3 xG3 xn3 xt3 xh3 _ => ?_⟩
      have xw3 := xw2.trans xt3
      refine ⟨by show 4 ≤ sizeLine; decide, fun xp4 xG4 xn4 xt4 xh4 _ => ?_⟩
      have xw4 := xw3.trans xt4
      refine ⟨by show 4 ≤ sizeLine; decide, fun xp5 xG5 xn5 xt5 xh5 _ => ?_⟩
      have xw5 := xw4.trans xt5
      refine ⟨D, xp5, us, _, rfl, rfl, xw5 _ _ ob.h, xh5, small1000' (by rw [ob.l]; show 12 + 4 ≤ 1000; decide), fun D' G' nD tD hD _ => ?_⟩
      have xu5 := tD
      have xu4 := xt5.trans xu5
      have xu3 := xt4.trans xu4
      have xu2 := xt3.trans xu3
      have xu1 := xt2.trans xu2
      have xu0 := xt1.trans xu1
      exact ⟨D', _, rfl, ob.cat xw5 (.cons (.tup (xu1 _ _ xh1) (.cons (.str _) (.cons (.int _) .nil))) (.cons (.tup (xu2 _ _ xh2) (.cons (.int _) (.cons (.str _) .nil))) (.cons (.tup (xu3 _ _ xh3) (.cons (.str _) (.cons .non .nil))) (.cons (.tup (xu4 _ _ xh4) (.cons (.str _) (.cons (.int _) (.cons (.int _) (.cons (.int _) .nil))))) .nil)))) (.cons (or_of (by decide +kernel)) (.cons (or_of (by decide +kernel)) (.cons (or_of (by decide +kernel)) (.cons (or_of (by decide +kernel)) .nil)))) tD hD nD rfl⟩
    clear ob
    rintro σ' G ⟨D, us, rfl, ob⟩
    have s0 := ob.s
    refine Evl.q_cut (M := fun σ' H' => ∃ (D : Addr) (us : List V), σ' = [some (.int (n : Int)), some (.int (m : Int)), some (.ref a), some (.ref D), none] ∧ Ob (Kn H) H H' D us 19) ?_ ?_
    · skip
      have xw0 : Same G G := Same.refl _
      refine ⟨_, rfl, by show 4 ≤ sizeLine; decide, fun xp1 xG1 xn1 xt1 xh1 _ => ?_⟩
      have xw1 := xw0.trans xt1
      refine ⟨_, rfl, by show 4 ≤ sizeLine; decide, fun xp2 xG2 xn2 xt2 xh2 _ => ?_⟩
      have xw2 := xw1.trans xt2
      refine ⟨_, rfl, by show 4 ≤ sizeLine; decide, fun xp3 xG3 xn3 xt3 xh3 _ => ?_⟩
      have xw3 := xw2.trans xt3
      refine ⟨by show 3 ≤ sizeLine; decide, fun xp4 xG4 xn4 xt4 xh4 _ => ?_⟩
      have xw4 := xw3.trans xt4
      refine ⟨D, xp4, us, _, rfl, rfl, xw4 _ _ ob.h, xh4, small1000' (by rw [ob.l]; show 16 + 3 ≤ 1000; decide), fun D' G' nD tD hD _ => ?_⟩
      have xu4 := tD
      have xu3 := xt4.trans xu4
      have xu2 := xt3.trans xu3
      have xu1 := xt2.trans xu2
      have xu0 := xt1.trans xu1
      exact ⟨D', _, rfl, ob.cat xw4 (.cons (.tup (xu1 _ _ xh1) (.cons (.str _) (.cons (.int _) (.cons (.int _) (.cons (.int _) .nil))))) (.cons (.tup (xu2 _ _ xh2) (.cons (.str _) (.cons (.int _) (.cons (.int _) (.cons (.int _) .nil))))) (.cons (.tup (xu3 _ _ xh3) (.cons (.str _) (.cons (.int _) (.cons (.int _) (.cons (.int _) .nil))))) .nil))) (.cons (or_of (by decide +kernel)) (.cons (or_t (.cons (im_of (by decide +kernel)) (.cons (im_int (by omega) (by omega)) (.cons (im_int (by omega) (by omega)) (.cons (im_int (by omega) (by omega)) .nil)))) (by show 4 ≤ 6; decide)) (.cons (or_t (.cons (im_of (by decide +kernel)) (.cons (im_int (by omega) (by omega)) (.cons (im_int (by omega) (by omega)) (.cons (im_int (by omega) (by omega)) .nil)))) (by show 4 ≤ 6; decide)) .nil))) tD hD nD rfl⟩
    clear ob
    rintro σ' G ⟨D, us, rfl, ob⟩
    have s0 := ob.s
    refine Evl.q_cut (M := fun σ' H' => ∃ (D : Addr) (us : List V), σ' = [some (.int (n : Int)), some (.int (m : Int)), some (.ref a), some (.ref D), none] ∧ Ob (Kn H) H H' D us 22) ?_ ?_
    · skip
      have xw0 : Same G G := Same.refl _
      refine ⟨_, rfl, _, rfl, by show 4 ≤ sizeLine; decide, fun xp1 xG1 xn1 xt1 xh1 _ => ?_⟩
      have xw1 := xw0.trans xt1
      refine ⟨by show 4 ≤ sizeLine; decide, fun xp2 xG2 xn2 xt2 xh2 _ => ?_⟩
      have xw2 := xw1.trans xt2
      refine ⟨_, rfl, by show 4 ≤ sizeLine; decide, fun xp3 xG3 xn3 xt3 xh3 _ => ?_⟩
      have xw3 := xw2.trans xt3
      refine ⟨by show 3 ≤ sizeLine; decide, fun xp4 xG4 xn4 xt4 xh4 _ => ?_⟩
      have xw4 := xw3.trans xt4
      refine ⟨D, xp4, us, _, rfl, rfl, xw4 _ _ ob.h, xh4, small1000' (by rw [ob.l]; show 19 + 3 ≤ 1000; decide), fun D' G' nD tD hD _ => ?_⟩
      have xu4 := tD
      have xu3 := xt4.trans xu4
      have xu2 := xt3.trans xu3
      have xu1 := xt2.trans xu2
      have xu0 := xt1.trans xu1
      exact ⟨D', _, rfl, ob.cat xw4 (.cons (.tup (xu1 _ _ xh1) (.cons (.str _) (.cons (.int _) (.cons (.int _) (.cons (.int _) .nil))))) (.cons (.tup (xu2 _ _ xh2) (.cons (.str _) (.cons (.int _) (.cons (.int _) (.cons (.int _) .nil))))) (.cons (.tup (xu3 _ _ xh3) (.cons (.str _) (.cons (.int _) (.cons (.int _) (.cons (.int _) .nil))))) .nil))) (.cons (or_of (by decide +kernel)) (.cons (or_of (by decide +kernel)) (.cons (or_of (by decide +kernel)) .nil))) tD hD nD rfl⟩
    clear ob
    rintro σ' G ⟨D, us, rfl, ob⟩
    have s0 := ob.s
    refine Evl.q_cut (M := fun σ' H' => ∃ (D : Addr) (us : List V), σ' = [some (.int (n : Int)), some (.int (m : Int)), some (.ref a), some (.ref D), none] ∧ Ob (Kn H) H H' D us 25) ?_ ?_
    · skip
      have xw0 : Same G G := Same.refl _
      refine ⟨_, rfl, _, _, rfl, rfl, ⟨by decide, by decide, by decide⟩, by show 4 ≤ sizeLine; decide, fun xp1 xG1 xn1 xt1 xh1 _ => ?_⟩
      have xw1 := xw0.trans xt1
      refine ⟨_, _, rfl, rfl, ⟨by decide, by decide, by decide⟩, by show 4 ≤ sizeLine; decide, fun xp2 xG2 xn2 xt2 xh2 _ => ?_⟩
      have xw2 := xw1.trans xt2
      refine ⟨_, rfl, _, _, rfl, rfl, by show 2 ≤ sizeLine; decide, fun xp3 xG3 xn3 xt3 xh3 _ => ?_⟩
      have xw3 := xw2.trans xt3
      refine ⟨by show 3 ≤ sizeLine; decide, fun xp4 xG4 xn4 xt4 xh4 _ => ?_⟩
      have xw4 := xw3.trans xt4
      refine ⟨D, xp4, us, _, rfl, rfl, xw4 _ _ ob.h, xh4, small1000' (by rw [ob.l]; show 22 + 3 ≤ 1000; decide), fun D' G' nD tD hD _ => ?_⟩
      have xu4 := tD
      have xu3 := xt4.trans xu4
      have xu2 := xt3.trans xu3
      have xu1 := xt2.trans xu2
      have xu0 := xt1.trans xu1
      exact ⟨D', _, rfl, ob.cat xw4 (.cons (.tup (xu1 _ _ xh1) (.cons (.str _) (.cons (.int _) (.cons (.int _) (.cons (.int _) .nil))))) (.cons (.tup (xu2 _ _ xh2) (.cons (.str _) (.cons (.int _) (.cons (.int _) (.cons (.int _) .nil))))) (.cons (.tup (xu3 _ _ xh3) (.cons (.str _) (.cons (.int _) .nil))) .nil))) (.cons (or_of (by decide +kernel)) (.cons (or_of (by decide +kernel)) (.cons (or_t (.cons (im_of (by decide +kernel)) (.cons (im_int (by omega) (by omega)) .nil)) (by show 2 ≤ 6; decide)) .nil))) tD hD nD rfl⟩
    clear ob
    rintro σ' G ⟨D, us, rfl, ob⟩
    have s0 := ob.s
    refine Evl.q_cut (M := fun σ' H' => ∃ (D : Addr) (us : List V), σ' = [some (.int (n : Int)), some (.int (m : Int)), some (.ref a), some (.ref D), none] ∧ Ob (Kn H) H H' D us 30) ?_ ?_
    · skip
      have xw0 : Same G G := Same.refl _
      refine ⟨_, rfl, by show 1 ≤ sizeLine; decide, fun xp1 xG1 xn1 xt1 xh1 _ => ?_⟩
      have xw1 := xw0.trans xt1
      refine ⟨by show 2 ≤ sizeLine; decide, fun xp2 xG2 xn2 xt2 xh2 _ => ?_⟩
      have xw2 := xw1.trans xt2
      refine ⟨by show 1 ≤ sizeLine; decide, fun xp3 xG3 xn3 xt3 xh3 _ => ?_⟩
      have xw3 := xw2.trans xt3
      have xk3 : ¬ Kn H xp3 := kn_of (s0.trans xw2) xn3
      refine ⟨by show 4 ≤ sizeLine; decide, fun xp4 xG4 xn4 xt4 xh4 _ => ?_⟩
      have xw4 := xw3.trans xt4
      refine ⟨Nat.zero_le _, fun xp5 xG5 xn5 xt5 xh5 _ => ?_⟩
      have xw5 := xw4.trans xt5
      have xk5 : ¬ Kn H xp5 := kn_of (s0.trans xw4) xn5
      refine ⟨by show 2 ≤ sizeLine; decide, fun xp6 xG6 xn6 xt6 xh6 _ => ?_⟩
      have xw6 := xw5.trans xt6
      refine ⟨by show 2 ≤ sizeLine; decide, fun xp7 xG7 xn7 xt7 xh7 _ => ?_⟩
      have xw7 := xw6.trans xt7
      refine ⟨_, rfl, by show 2 ≤ sizeLine; decide, fun xp8 xG8 xn8 xt8 xh8 _ => ?_⟩
      have xw8 := xw7.trans xt8
      refine ⟨by show 5 ≤ sizeLine; decide, fun xp9 xG9 xn9 xt9 xh9 _ => ?_⟩
      have xw9 := xw8.trans xt9
      refine ⟨D, xp9, us, _, rfl, rfl, xw9 _ _ ob.h, xh9, small1000' (by rw [ob.l]; show 25 + 5 ≤ 1000; decide), fun D' G' nD tD hD _ => ?_⟩
      have xu9 := tD
      have xu8 := xt9.trans xu9
      have xu7 := xt8.trans xu8
      have xu6 := xt7.trans xu7
      have xu5 := xt6.trans xu6
      have xu4 := xt5.trans xu5
      have xu3 := xt4.trans xu4
      have xu2 := xt3.trans xu3
      have xu1 := xt2.trans xu2
      have xu0 := xt1.trans xu1
      exact ⟨D', _, rfl, ob.cat xw9 (.cons (.tup (xu2 _ _ xh2) (.cons (.tup (xu1 _ _ xh1) (.cons (.str _) .nil)) (.cons (.int _) .nil))) (.cons (.tup (xu4 _ _ xh4) (.cons (.str _) (.cons (.int _) (.cons (.int _) (.cons (.lst (xu3 _ _ xh3) xk3 (.cons (.int _) .nil)) .nil))))) (.cons (.tup (xu6 _ _ xh6) (.cons (.lst (xu5 _ _ xh5) xk5 .nil) (.cons (.int _) .nil))) (.cons (.tup (xu7 _ _ xh7) (.cons (.str _) (.cons (.int _) .nil))) (.cons (.tup (xu8 _ _ xh8) (.cons (.str _) (.cons (.int _) .nil))) .nil))))) (.cons (or_of (by decide +kernel)) (.cons (or_of (by decide +kernel)) (.cons (or_of (by decide +kernel)) (.cons (or_of (by decide +kernel)) (.cons (or_of (by decide +kernel)) .nil))))) tD hD nD rfl⟩
    clear ob
    rintro σ' G ⟨D, us, rfl, ob⟩
    have s0 := ob.s
    -- rows of the book
    refine Evl.q_cut (M := fun σ' H' => ∃ (D : Addr) (us : List V), σ' = [some (.int (n : Int)), some (.int (m : Int)), some (.ref a), some (.ref D), none] ∧ Ob (Kn H) H H' D us (30 + n)) ?_ ?_
    · refine ⟨_, rfl, _, rfl, (n : Int), rfl, by omega, by omega, fun Z nZ => ?_⟩
      refine lc_range (n := ((n : Int)).toNat) (Pv := fun t H' => ∃ (vs : List V) (ds : List PyData), Same G H' ∧ H' Z = some (.lst vs) ∧ OdAll (fun _ => True) H' vs ds ∧ AllD Or ds ∧ vs.length = t) ⟨[], [], same_new nZ, upd_same, .nil, .nil, rfl⟩ ?_ ?_
      · rintro t H2 ht ⟨vs, ds, s2, hZ, oZ, aZ, lZ⟩
        have ht : t < ((n : Int)).toNat := ht
        refine ⟨rfl, _, rfl, by show 2 ≤ sizeLine; decide, fun p H5 np s5 hp _ => ?_⟩
        have hZ5 := s5 _ _ hZ
        refine ⟨_, hZ5, small1000 (by omega), vs ++ [.ref p], ds ++ [.tuple [.str "book", .int (0 + (t : Int))]], fun b o e => ?_, upd_same, ((oZ.ke (.same s5)).cat (.one (.tup hp (.cons (.str _) (.cons (.int _) .nil))))).ke (ke_any hZ5), aZ.cat (.cons (or_t (.cons (im_of (by decide +kernel)) (.cons (im_int (by omega) (by omega)) .nil)) (by show 2 ≤ 6; decide)) .nil), by rw [List.length_append, lZ]; rfl⟩
        rw [upd_ne (ne_of_none e nZ)]
        exact (s2.trans s5) _ _ e
      · rintro H2 ⟨vs, ds, s2, hZ, oZ, aZ, lZ⟩
        have lZ : vs.length = n := by rw [lZ]; exact Int.toNat_natCast n
        refine ⟨D, Z, us, _, rfl, rfl, s2 _ _ ob.h, hZ, small1000' (by rw [ob.l, lZ]; omega), fun D' G' nD tD hD _ => ?_⟩
        exact ⟨D', _, rfl, ob.cat s2 ((oZ.un fun b z => trivial).ke (.same tD)) aZ tD hD nD lZ⟩
    clear ob s0
    rintro σ' G ⟨D, us, rfl, ob⟩
    have s0 := ob.s
    -- and of cuts
    refine Evl.q_cut (M := fun σ' H' => ∃ (D : Addr) (us : List V) (N : Nat), σ' = [some (.int (n : Int)), some (.int (m : Int)), some (.ref a), some (.ref D), none] ∧ Ob (Kn H) H H' D us N ∧ 1 ≤ N ∧ N ≤ 120) ?_ ?_
    · have ha := s0 _ _ hA
      cases r with
      | book b =>
        refine ⟨_, rfl, a, _, 0, .str "book", rfl, rfl, .of ha, rfl, rfl, false, by simp; decide, ?_⟩
        exact ⟨D, us, _, rfl, ob, by omega, by omega⟩
      | cut i j k =>
        refine ⟨_, rfl, a, _, 0, .str "cut", rfl, rfl, .of ha, rfl, rfl, true, by simp, ?_⟩
        obtain ⟨b1, b2, b3, b4⟩ := rb
        refine ⟨_, rfl, _, rfl, _, rfl, a, m, i, j, k, rfl, ha, hm, b1, b2, b3, b4, fun D2 us2 G2 ob2 => ?_⟩
        obtain ⟨ds2, od2, al2⟩ := ob2.od
        refine ⟨D, D2, us, us2, rfl, rfl, ob2.s _ _ ob.h, ob2.h, small1000' (by rw [ob.l, ob2.l]; omega), fun D' G' nD tD hD _ => ?_⟩
        exact ⟨D', _, _, rfl, ob.cat ob2.s ((od2.un fun b ⟨xs, z⟩ => ⟨xs, s0 _ _ z⟩).ke (.same tD)) al2 tD hD nD ob2.l, by omega, by omega⟩
    clear ob s0
    rintro σ' G ⟨D, us, N, rfl, ob, n1, n2⟩
    exact ⟨_, rfl, q D us N G ob n1 n2⟩
end
end Wo
namespace Rpa
open PySem PySem.Spec PyProof.Rows L2
/-- repr of anything by its data, where nothing is being shown -/
theorem cr_reprA {X : Cx} (hg : X.A.guards = some []) (hu : X.A.units + 70 < cLine) : CallR X (.builtin "repr") (fun xs H Q => ∃ (x : V) (d : PyData), xs = [x] ∧ Dp X.K H x d ∧ d.showable = true ∧ d.hasDict = false ∧ d.depth ≤ 64 ∧ d.shown.length ≤ sizeLine ∧ Q (.str d.shown) H) := by
  intro pins s σ H xs us Q I r h
  obtain ⟨x, d, rfl, hd, hs, hn, dp, sz, q⟩ := h
  obtain ⟨u, rfl, hu'⟩ := vals1 r
  cases id hd with
  | non =>
    obtain rfl : u = .none := hu'
    exact PySem.P.repr_of_none ⟨.str _, H, I.tok _, ⟨_, rfl⟩, q⟩
  | bl b =>
    obtain rfl : u = .bool b := hu'
    exact PySem.P.repr_of_bool ⟨.str _, H, I.tok _, ⟨_, rfl⟩, q⟩
  | int i =>
    obtain ⟨t, rfl⟩ := hu'
    exact PySem.P.repr_of_int (by simpa [PyData.showable] using hs) ⟨.str _, H, I.tok _, ⟨_, rfl⟩, q⟩
  | str z =>
    obtain ⟨t, rfl⟩ := hu'
    exact PySem.P.repr_of_str ⟨.str _, H, I.tok _, ⟨_, rfl⟩, q⟩ sz
  | lst _ _ =>
    rename_i a _ _ _ _
    obtain rfl : u = .ref a := hu'
    obtain ⟨as, r1⟩ := Dp.reads I _ (.ref a) (.ref a) hd rfl
    exact repr_of_reads' r1 hs (PyData.noDict_hsm hn) hg (by omega) (fun _ _ e => e) (fun h' u tk k => ⟨.str _, H, I.turnedL (ch := []) (fun b o _ e => k b o e) (fun b hb => absurd hb (by simp)), ⟨_, rfl⟩, q⟩) sz
  | tup _ _ =>
    rename_i a _ _ _ _
    obtain rfl : u = .ref a := hu'
    obtain ⟨as, r1⟩ := Dp.reads I _ (.ref a) (.ref a) hd rfl
    exact repr_of_reads' r1 hs (PyData.noDict_hsm hn) hg (by omega) (fun _ _ e => e) (fun h' u tk k => ⟨.str _, H, I.turnedL (ch := []) (fun b o _ e => k b o e) (fun b hb => absurd hb (by simp)), ⟨_, rfl⟩, q⟩) sz
end Rpa
namespace Gd
open PySem PySem.Spec PyProof.Rows L2
/-! ### a law that shows lists (repr): run where nothing is being shown -/
/-- a promise for calls made while nothing is being shown -/
structure FnG (P : Program) (w : World) (K : PySem.W.Frag) (mg : Str → Option Value) (base : Heap) (k : Nat) (f : Addr) (fd : FuncData) (ps : List Str) (sp : Sp) : Prop where
  len : ∀ us H Q E, sp us H Q E → us.length = ps.length
  run : ∀ (A : Around) (outer : List Env) (s : Shared) (H : Hp) (args : Args) (us : List Value) (vs : List V) (Q : VK) (E : XK), A.guards = some [] → Room k A → Env0 P w K mg base A outer s H → BindsTo s fd args (ps.zip us) → Vals vs us → sp vs H Q E → codeAny (model P w) A (.call (.ref f) args) (CR CX0 outer P w H s Q E) s
section
variable {P : Program} {w : World} {K : PySem.W.Frag} {mg : Str → Option Value} {base : Heap}
theorem okG {x qual : Str} {st : Stmt} {f : Addr} {fd : FuncData} {N ps : List Str} {k : Nat} {sp : Sp} (F : Fun K x qual st f fd) (S : FnScope N ps (defScope st)) (ln : ∀ us H Q E, sp us H Q E → us.length = ps.length)
    (body : ∀ (cdv : Value) (A : Around) (outer : List Env) (s : Shared) (H : Hp) (vs : List V) (Q : VK) (E : XK), A.guards = some [] → Room k (A.deeper (envOfC qual (defScope st) s.heap.objs.size f cdv)) → sp vs H Q E →
      ∃ t, PSs (cxOf CX0 P w K mg base N qual (defScope st) f cdv A outer s H E).nox (defBody st) t ∧ t { nx := fun _ H' => Q .non H', rt := Q } (start N vs) H) : FnG P w K mg base (k + 1) f fd ps sp := by
  obtain ⟨oc, od, kV, doc, pm, an, cdv, ct, osl, rfl, lk, hcd⟩ := F.ex
  refine ⟨ln, fun A outer s H args us vs Q E gd room env bind rel ask => ?_⟩
  have inS : K.In s.heap := env.mod.kin.keeps fun b o e => (env.bs b o e).1
  have noL : s.heap.NoLimit := env.mod.nolimit.keeps fun b o e => (env.bs b o e).1
  refine codeAny_call_function room.depth (inS _ _ lk) rfl S.co S.gen rfl (PySem.W.codeRec_of inS hcd) (bind _ _ _ _ (wpAny_newFunctionEnv_cells S.kind (fun y hy => ?_) fun env' he s1 z => ?_))
  · rcases S.par y.1 (List.of_mem_zip (a := y.1) (b := y.2) hy).1 with q | q
    · exact Or.inl q
    · exact Or.inr ⟨q, PySem.W.cellsFrom_some _ _ _ (Or.inl q)⟩
  · subst he
    obtain ⟨t, h1, h2⟩ := body cdv A outer s H vs Q E gd (room.deeper _) ask
    have J := inv_start (CX := CX0) (E := E) S room.hd env (ln _ _ _ _ ask) rel z
    refine ⟨noL.keeps z.toInCall.keep, codeAny_func (wpAny_mono (h1.nox.run [] s1 _ H _ J h2) (fun fl s' r => ?_) fun _ _ r => r)⟩
    match fl, r with
    | .ret u, r =>
      obtain ⟨v, σ', H', I, rv, q⟩ := r
      exact ⟨v, H', I.os, I.bare, I.base, I.hok, rv, q⟩
    | .next, r =>
      obtain ⟨σ', H', I, q⟩ := r
      exact ⟨.non, H', I.os, I.bare, I.base, I.hok, rfl, q⟩
    | .brk, r =>
      obtain ⟨_, _, _, q⟩ := r
      exact q.elim
    | .cont, r =>
      obtain ⟨_, _, _, q⟩ := r
      exact q.elim
/-- what the abstract heap knows at the law's call: the tables T, the script at a unless K holds it -/
def at0 (K : PySem.W.Frag) (T : List Addr) (a : Addr) (o : HO) : Hp := fun b => if b ∈ T then some (.tbl #[]) else if b = a ∧ (K.lookup a).isNone = true then some o else none
theorem at0_cases {T : List Addr} {a b : Addr} {o u : HO} (h : at0 K T a o b = some u) : (b ∈ T ∧ u = .tbl #[]) ∨ (b ∉ T ∧ b = a ∧ K.lookup a = none ∧ u = o) := by
  unfold at0 at h
  by_cases h1 : b ∈ T
  · rw [if_pos h1] at h
    exact .inl ⟨h1, (Option.some.inj h).symm⟩
  · rw [if_neg h1] at h
    by_cases h2 : b = a ∧ (K.lookup a).isNone = true
    · rw [if_pos h2] at h
      exact .inr ⟨h1, h2.1, Option.isNone_iff_eq_none.mp h2.2, (Option.some.inj h).symm⟩
    · rw [if_neg h2] at h
      cases h
theorem law_at {mb : Str → Option Value} {k : Nat} {fa a : Addr} {cs : List (Addr × Addr)} {fd : FuncData} {x : Str} {sp : Sp} {s1 : Shared} {us : List Value} {ns : List Int} (inK : K.In s1.heap) (ng : s1.heap.Ns mainGlobals mg) (nb : s1.heap.Ns builtinsNs mb)
    (bb : ∀ y : Str, y ≠ "__name__" → mb y = bootBuiltins y) (lim : s1.heap.NoLimit) (gens : s1.gens = #[]) (te : ∀ p ∈ cs, s1.heap.get? p.2 = some (PySem.W.tabObj #[])) (tk : ∀ p ∈ cs, K.lookup p.2 = none) (tc : ∀ p ∈ cs, PySem.W.CodeHd s1.heap p.1 p.2)
    (bm : ∃ (bm : Addr) (ob : Obj), mg "__builtins__" = some (.ref bm) ∧ bm ≠ builtinsNs ∧ s1.heap.get? bm = some ob ∧ ob.cls = .type "module" ∧ ob.dict = some builtinsNs ∧ ob.data = .plain) (la : s1.heap.get? a = some { cls := .type "list", data := .seq us.toArray }) (iu : IntsAre us ns) (lu : ns.length ≤ sizeLine) (room : Room k callerA)
    (F : ∀ base : Heap, K.In base → base.Ns mainGlobals mg → (∀ p ∈ cs, LamX.TabB base mg p.1 p.2) → FnG P w K mg base k fa fd [x] sp) (bind : ∀ (s : Shared) (u : Value), BindsTo s fd ⟨[u], []⟩ [(x, u)])
    (ask : ∀ H : Hp, (∀ p ∈ cs, H p.2 = some (.tbl #[])) → SqL K H a (ns.map V.int) → sp [.ref a] H (fun v _ => v = .bl true) fun _ _ _ => False) :
    codeAny (model P w) callerA (.call (.ref fa) ⟨[.ref a], []⟩) (fun r s' => r = .ok (.ret (.bool true)) ∧ OldK s1.heap s'.heap ∧ s'.os = s1.os ∧ AllBare s'.gens) s1 := by
  have lv := iu.length
  let T := cs.map (·.2)
  let O : HO := .frz { cls := .type "list", data := .seq us.toArray } (.lst (ns.map V.int))
  have tT : ∀ b ∈ T, s1.heap.get? b = some (PySem.W.tabObj #[]) := fun b hb => by
    obtain ⟨p, hp, rfl⟩ := List.mem_map.mp hb
    exact te p hp
  have inT : ∀ p ∈ cs, p.2 ∈ T := fun p hp => List.mem_map.mpr ⟨p, hp, rfl⟩
  have naT : a ∉ T := fun z => by
    have q := tT a z
    rw [la] at q
    cases congrArg Obj.data (Option.some.inj q)
  -- an object that is neither a list nor an empty table is not tracked
  have un0 : ∀ {b : Addr} {o : Obj}, s1.heap.get? b = some o → (∀ v n, o.data ≠ .seq v n) → o.data ≠ .fields #[] → at0 K T a O b = none := fun {b o} e d1 d2 => by
    cases q : at0 K T a O b with
    | none => rfl
    | some u =>
      rcases at0_cases q with ⟨h1, _⟩ | ⟨_, h1, _⟩
      · rw [tT b h1] at e
        cases e
        exact absurd rfl d2
      · rw [h1, la] at e
        cases e
        exact absurd rfl (d1 _ _)
  have ns0 : ∀ {b : Addr} {m : Str → Option Value}, s1.heap.Ns b m → (hidT s1.heap (at0 K T a O)).Ns b m := fun ⟨o, es, ep, e, d, r⟩ =>
    ⟨o, es, ep, hidT_get e (un0 e (fun _ _ z => by rw [d] at z; cases z) fun z => by rw [d] at z; cases z), d, r⟩
  have in0 : K.In (hidT s1.heap (at0 K T a O)) := fun b o e => by
    refine hidT_get (inK b o e) ?_
    cases q : at0 K T a O b with
    | none => rfl
    | some u =>
      rcases at0_cases q with ⟨h1, _⟩ | ⟨_, h1, h2, _⟩
      · obtain ⟨p, hp, rfl⟩ := List.mem_map.mp h1
        rw [tk p hp] at e
        cases e
      · rw [h1, h2] at e
        cases e
  have mod0 : L2.Mod K mg (hidT s1.heap (at0 K T a O)) := ⟨in0, ns0 ng, ⟨mb, ns0 nb, bb⟩, let ⟨mc, h1, h2⟩ := lim; ⟨mc, ns0 h1, h2⟩⟩
  have tab0 : ∀ p ∈ cs, LamX.TabB (hidT s1.heap (at0 K T a O)) mg p.1 p.2 := fun p hp => by
    obtain ⟨bmA, ob, b1, b2, b3, b4, b5, b6⟩ := bm
    obtain ⟨oc, oes, oep, oe, od, _⟩ := ng
    obtain ⟨c0, v0, f0, t0, g0, u0, i0, x0, y0, e1, r1, r2, r3, rest⟩ := tc p hp
    refine ⟨⟨c0, v0, f0, t0, g0, u0, i0, x0, y0, hidT_get e1 (un0 e1 (fun _ _ z => by rw [r2] at z; cases z) fun z => ?_), r1, r2, r3, rest⟩, ⟨bmA, ob, b1, b2, fun z => ?_, fun z => ?_, hidT_get b3 (un0 b3 (fun _ _ z => by rw [b6] at z; cases z) fun z => by rw [b6] at z; cases z), b4, b5, b6⟩, fun z => ?_⟩
    · rw [r2] at z
      cases z
      simp at r3
    · rw [z, oe] at b3
      cases b3
      rw [od] at b6
      cases b6
    · rw [z, te p hp] at b3
      cases b3
      cases b6
    · rw [z, te p hp] at oe
      cases oe
      cases od
  have hok0 : HOk P w (at0 K T a O) s1.heap := fun b u q => by
    rcases at0_cases q with ⟨h1, rfl⟩ | ⟨_, rfl, _, rfl⟩
    · exact tT b h1
    · exact ⟨la, by rw [List.length_map]; exact lu, us, _, vals_ints iu, la⟩
  have sq0 : SqL K (at0 K T a O) a (ns.map V.int) := by
    cases q : K.lookup a with
    | some o =>
      have e := inK a o q
      rw [la] at e
      cases e
      exact .inr ⟨_, us.toArray, _, q, rfl, rfl, rfl, by rw [List.size_toArray, lv]; exact lu, by simpa using vals_ints iu⟩
    | none => exact .inl (.inr ⟨_, (if_neg naT).trans (if_pos ⟨rfl, by rw [q]; rfl⟩)⟩)
  have env0 : Env0 P w K mg (hidT s1.heap (at0 K T a O)) callerA [] s1 (at0 K T a O) := ⟨rfl, mod0, fun b o e => of_hidT e, Nat.le_of_eq (hidT_size _ _), trivial, fun b z => absurd (show b ∈ ([] : List Addr) from z) (by simp), hok0, .of_eq gens⟩
  refine codeAny_mono ((F _ in0 (ns0 ng) tab0).run callerA [] s1 (at0 K T a O) ⟨[.ref a], []⟩ [.ref a] [.ref a] _ _ rfl room env0 (bind s1 (.ref a)) (.cons rfl .nil) (ask _ (fun p hp => if_pos (inT p hp)) sq0)) fun r s' h => ?_
  match r, h with
  | .error e, h => exact False.elim h
  | .ok .next, h => exact False.elim h
  | .ok .brk, h => exact False.elim h
  | .ok .cont, h => exact False.elim h
  | .ok (.ret u), h =>
    obtain ⟨v, H', os, bare, un, hok', rv, q⟩ := h
    obtain rfl : v = .bl true := q
    obtain rfl : u = Value.bool true := rv
    have kept : ∀ b o, b ∉ T → s1.heap.get? b = some o → s'.heap.get? b = some o := fun b o nt e => by
      cases z : at0 K T a O b with
      | none => exact un.keep b o e z (fun y => absurd (show b ∈ ([] : List Addr) from y) (by simp)) (by simp)
      | some u =>
        rcases at0_cases z with ⟨h1, _⟩ | ⟨_, rfl, _, rfl⟩
        · exact absurd h1 nt
        · obtain ⟨e2, _⟩ := hok' b _ (un.frzs b _ _ z)
          rw [la] at e
          cases e
          exact e2
    have tabs : ∀ b ∈ T, ∃ more : Array Value, s'.heap.get? b = some (PySem.W.tabObj more) := fun b hb => by
      obtain ⟨more, z⟩ := un.tbls b #[] (if_pos hb)
      exact ⟨_, hok' b _ z⟩
    refine ⟨rfl, ⟨fun b o e => ?_, fun b o e => ?_⟩, os, bare⟩
    · by_cases hb : b ∈ T
      · obtain ⟨more, z⟩ := tabs b hb
        obtain ⟨p, hp, rfl⟩ := List.mem_map.mp hb
        have e3 := te p hp
        rw [e] at e3
        cases e3
        exact .inr (.inl ⟨((tc p hp).tab (te p hp)).isCodeTable, rfl, #[], more, rfl, by rw [Array.empty_append]; exact z⟩)
      · exact .inl (kept b o hb e)
    · by_cases hb : b ∈ T
      · obtain ⟨more, z⟩ := tabs b hb
        exact ⟨_, z⟩
      · exact ⟨o, kept b o hb e⟩
end
end Gd
namespace Gx2
open PySem PySem.Spec PyProof.Rows L2
/-! ### promises for calls made while nothing is being shown, with refusals: for defs that show lists or tuples and are called by others -/
structure FnX (P : Program) (w : World) (K : PySem.W.Frag) (mg : Str → Option Value) (base : Heap) (CX : CXT) (k : Nat) (f : Addr) (fd : FuncData) (ps : List Str) (sp : Sp) : Prop where
  len : ∀ us H Q E, sp us H Q E → us.length = ps.length
  run : ∀ (A : Around) (outer : List Env) (s : Shared) (H : Hp) (args : Args) (us : List Value) (vs : List V) (Q : VK) (E : XK), A.guards = some [] → Room k A → Env0 P w K mg base A outer s H → BindsTo s fd args (ps.zip us) → Vals vs us → sp vs H Q E → codeAny (model P w) A (.call (.ref f) args) (CR CX outer P w H s Q E) s
section
variable {P : Program} {w : World} {K : PySem.W.Frag} {mg : Str → Option Value} {base : Heap} {CX : CXT}
theorem of_ok {k : Nat} {f : Addr} {fd : FuncData} {ps : List Str} {sp : Sp} (F : FnOk P w K mg base CX k f fd ps sp) : FnX P w K mg base CX k f fd ps sp := ⟨F.len, fun A outer s H args us vs Q E _ => F.run A outer s H args us vs Q E⟩
theorem okX {x qual : Str} {st : Stmt} {f : Addr} {fd : FuncData} {N ps : List Str} {k : Nat} {sp : Sp} (F : Fun K x qual st f fd) (S : FnScope N ps (defScope st)) (ln : ∀ us H Q E, sp us H Q E → us.length = ps.length)
    (body : ∀ (cdv : Value) (A : Around) (outer : List Env) (s : Shared) (H : Hp) (vs : List V) (Q : VK) (E : XK), A.guards = some [] → Room k (A.deeper (envOfC qual (defScope st) s.heap.objs.size f cdv)) → sp vs H Q E →
      ∃ t, PSs (cxOf CX P w K mg base N qual (defScope st) f cdv A outer s H E) (defBody st) t ∧ t { nx := fun _ H' => Q .non H', rt := Q } (start N vs) H) : FnX P w K mg base CX (k + 1) f fd ps sp := by
  obtain ⟨oc, od, kV, doc, pm, an, cdv, ct, osl, rfl, lk, hcd⟩ := F.ex
  refine ⟨ln, fun A outer s H args us vs Q E gd room env bind rel ask => ?_⟩
  have inS : K.In s.heap := env.mod.kin.keeps fun b o e => (env.bs b o e).1
  have noL : s.heap.NoLimit := env.mod.nolimit.keeps fun b o e => (env.bs b o e).1
  refine codeAny_call_function room.depth (inS _ _ lk) rfl S.co S.gen rfl (PySem.W.codeRec_of inS hcd) (bind _ _ _ _ (wpAny_newFunctionEnv_cells S.kind (fun y hy => ?_) fun env' he s1 z => ?_))
  · rcases S.par y.1 (List.of_mem_zip (a := y.1) (b := y.2) hy).1 with q | q
    · exact Or.inl q
    · exact Or.inr ⟨q, PySem.W.cellsFrom_some _ _ _ (Or.inl q)⟩
  · subst he
    obtain ⟨t, h1, h2⟩ := body cdv A outer s H vs Q E gd (room.deeper _) ask
    have J := inv_start (CX := CX) (E := E) S room.hd env (ln _ _ _ _ ask) rel z
    refine ⟨noL.keeps z.toInCall.keep, codeAny_func (wpAny_mono (h1.run [] s1 _ H _ J h2) (fun fl s' r => ?_) fun _ _ r => r)⟩
    match fl, r with
    | .ret u, r =>
      obtain ⟨v, σ', H', I, rv, q⟩ := r
      exact ⟨v, H', I.os, I.bare, I.base, I.hok, rv, q⟩
    | .next, r =>
      obtain ⟨σ', H', I, q⟩ := r
      exact ⟨.non, H', I.os, I.bare, I.base, I.hok, rfl, q⟩
    | .brk, r =>
      obtain ⟨_, _, _, q⟩ := r
      exact q.elim
    | .cont, r =>
      obtain ⟨_, _, _, q⟩ := r
      exact q.elim
end
section
variable {X : Cx} {CX : CXT} {k : Nat} {f : Addr} {fd : FuncData} {ps : List Str} {sp : Sp} {dvs : List V} {ds : List Value} {E : XK}
theorem runX {pins : List (Addr × Obj)} {σ : L2.St} {H : Hp} {s : Shared} {Q : VK} {us : List Value} {vs : List V} (F : FnX X.prog X.w X.K X.mg X.base CX k f fd ps sp) (gd : X.A.guards = some []) (room : Room k X.A) (bind : Binds X.K fd ps ds) (dv : Vals dvs ds) (pass : Passes CX X E)
    (I : Inv X pins σ H s) (rel : Vals vs us) (ask : sp (vs ++ dvs) H Q E) : wpAny (model X.prog X.w) X.A (call (.ref f) us) (EP X pins σ Q) X.xe s := by
  have r2 : Vals (vs ++ dvs) (us ++ ds) := rel.append dv
  have ll : (us ++ ds).length = ps.length := r2.length.symm.trans (F.len _ _ _ _ ask)
  refine wpAny_call (codeAny_mono (F.run X.A X.stack s H ⟨us, []⟩ _ _ Q E gd room I.env0 (bind s us I.kIn ll) r2 ask) fun r s' z => ?_)
  match r, z with
  | .error e, z => exact pass pins σ H s e s' I z
  | .ok (.ret u), z => exact I.after z
  | .ok .next, z => exact z.elim
  | .ok .brk, z => exact z.elim
  | .ok .cont, z => exact z.elim
/-- f(..) where nothing is being shown -/
theorem pe_callX {x : Str} {p pos : Pos} {e : Expr} {es : List Expr} {t : TA} (F : FnX X.prog X.w X.K X.mg X.base CX k f fd ps sp) (gd : X.A.guards = some []) (room : Room k X.A) (gl : Gl X x) (at_ : X.mg x = some (.ref f)) (kp : PySem.W.keepIn X.K (.ref f) = true) (bind : Binds X.K fd ps ds) (dv : Vals dvs ds) (pass : Passes CX X E)
    (ha : PA X (e :: es) t) (hdb : (x == ("__debug__" : Str)) = false := by decide) (he : starEach (e :: es) X.env = (false, eval e X.env) :: starEach es X.env := by rfl) (hpl : (backTo pos (starEach es X.env)).any (·.1) = false := by rfl) :
    PE X (.Call (.Name x p) (e :: es) [] pos) (tCall sp dvs E t) :=
  ⟨fun pins s σ H Q I h => wpAny_Call_Name_kw (ld_glob I gl at_ (PySem.W.callWith_K (h₀ := X.base) I.ok.mod.kin kp (thn (ha.run pos pins s σ H _ I h) fun us s1 ⟨vs, H1, I1, r, q⟩ => ⟨I1.kIn, runX F gd room bind dv pass I1 r q⟩) he hpl) hdb)⟩
end
end Gx2
namespace Wk
open PySem PySem.Spec PyProof.Rows L2 GxR Nw Dr Kp Se Cl Ct Lr Lp Ll Od Wg Wl Wo
/-! ### lists of rows, odd or not -/
theorem rows_od {f : Addr → Prop} {H : Hp} : ∀ {vs : List V} {rows : List Rw}, All2 (RowAt H) vs rows → OdAll f H vs (rows.map dat)
  | [], [], _ => .nil
  | [], r :: t, h => by cases h.1
  | v :: t, [], h => by cases h.1
  | v :: t, r :: u, h => .cons (RowAt.od (h.2 0 v r rfl rfl)) (rows_od ⟨by have := h.1; simp only [List.length_cons] at this; omega, fun i x y h1 h2 => h.2 (i + 1) x y h1 h2⟩)
theorem lad_b {css cls : List (List Int)} {rows : List Rw} (ib : ∀ c ∈ css, IsCl c) (h : Lad css rows cls) (l1 : css.length ≤ 16) (l2 : rows.length ≤ 200) : ∀ r ∈ rows, RwB r := fun r hr => by
  obtain ⟨i, hi⟩ := List.getElem?_of_mem hr
  have li := (List.getElem?_eq_some_iff.mp hi).1
  have lc := h.1
  have rc := h.2 i r _ hi (List.getElem?_eq_getElem (show i < cls.length by omega))
  cases r with
  | book n =>
    have := (List.getElem?_eq_some_iff.mp rc).1
    show n ≤ 200
    omega
  | cut a b k =>
    have pa := rc.parts
    rw [List.length_take] at pa
    obtain ⟨x, y, h1, h2, c1, c2, _⟩ := rc
    have ix := h.isCl ib x (List.mem_of_mem_take (List.mem_of_getElem? h1))
    have := ix.says k c2
    exact ⟨by omega, by omega, c1, this.2.2⟩
theorem or_dat {r : Rw} (h : RwB r) : Or (dat r) := by
  cases r with
  | book n =>
    have h : n ≤ 200 := h
    exact or_t (.cons (im_of (by decide +kernel)) (.cons (im_int (by omega) (by omega)) .nil)) (by show 2 ≤ 6; decide)
  | cut i j k =>
    obtain ⟨h1, h2, h3, h4⟩ := h
    exact or_t (.cons (im_of (by decide +kernel)) (.cons (im_int (by omega) (by omega)) (.cons (im_int (by omega) (by omega)) (.cons (im_int (by omega) (by omega)) .nil)))) (by show 4 ≤ 6; decide)
theorem or_rows {rows : List Rw} (h : ∀ r ∈ rows, RwB r) : ∀ d ∈ rows.map dat, Or d := fun d hd => by
  obtain ⟨r, hr, rfl⟩ := List.mem_map.mp hd
  exact or_dat (h r hr)
/-- a list of rows, odd or not -/
structure Th (ds : List PyData) : Prop where
  al : ∀ d ∈ ds, Or d
  ln : ds.length ≤ 500
theorem lay_ors : ∀ {ds : List PyData}, (∀ d ∈ ds, Or d) → PyData.canLayAll0 ds = true ∧ PyData.depthAll ds ≤ 3
  | [], _ => ⟨rfl, Nat.zero_le _⟩
  | d :: r, h => by
    obtain ⟨h1, h2⟩ := lay_ors (ds := r) fun x hx => h x (List.mem_cons_of_mem _ hx)
    have o := h d List.mem_cons_self
    refine ⟨?_, Nat.max_le.mpr ⟨o.dp, h2⟩⟩
    show (PyData.canLay0 d && PyData.canLayAll0 r) = true
    rw [o.sh, h1]
    rfl
theorem Or.shaped {d : PyData} (o : Or d) : SeqAt.shaped d = true := shaped_mk o.sh (Nat.le_trans o.dp (by decide))
theorem Th.shaped {ds : List PyData} (h : Th ds) : SeqAt.shaped (.list ds) = true := by
  obtain ⟨h1, h2⟩ := lay_ors h.al
  exact shaped_mk h1 (by show PyData.depthAll ds + 1 ≤ 64; omega)
theorem Th.sm {ds : List PyData} (h : Th ds) : Sm 300000 (.list ds) := (SmAll.of fun d hd => ⟨(h.al d hd).sm, Nat.le_trans (h.al d hd).dp (by decide)⟩).list h.ln (by decide)
theorem Th.l60 {ds : List PyData} (h : Th ds) : ∀ d ∈ ds, ∀ es, d = .tuple es → es.length ≤ 60 := fun d hd => (h.al d hd).ln
theorem Th.cat {as bs : List PyData} (h : ∀ d ∈ as, Or d) (g : ∀ d ∈ bs, Or d) (l : as.length + bs.length ≤ 500) : Th (as ++ bs) := ⟨fun d hd => (List.mem_append.mp hd).elim (h d) (g d), by rw [List.length_append]; exact l⟩
theorem od_cut {f : Addr → Prop} {H : Hp} {us : List V} {ds : List PyData} (h : OdAll f H us ds) (lo hi : Option Int) : ∃ es, OdAll f H (cutV us lo hi) es ∧ es.length ≤ ds.length ∧ ∀ d ∈ es, d ∈ ds := by
  refine ⟨_, (h.drop (HT.sIx us.length 0 lo)).take (HT.sIx us.length us.length hi - HT.sIx us.length 0 lo), ?_, fun d hd => List.mem_of_mem_drop (List.mem_of_mem_take hd)⟩
  rw [List.length_take, List.length_drop]
  omega
theorem cut_len (us : List V) (lo hi : Option Int) : (cutV us lo hi).length ≤ us.length := by
  unfold cutV
  rw [List.length_take, List.length_drop]
  omega
theorem od_rep {f : Addr → Prop} {H : Hp} {vs : List V} {ds : List PyData} (h : OdAll f H vs ds) : ∀ n : Nat, OdAll f H (List.replicate n vs).flatten (List.replicate n ds).flatten
  | 0 => .nil
  | n + 1 => by
    rw [List.replicate_succ, List.replicate_succ, List.flatten_cons, List.flatten_cons]
    exact h.cat (od_rep h n)
theorem rep_len {α : Type} (l : List α) : ∀ n : Nat, (List.replicate n l).flatten.length = n * l.length
  | 0 => by simp
  | n + 1 => by
    rw [List.replicate_succ, List.flatten_cons, List.length_append, rep_len l n, Nat.succ_mul, Nat.add_comm]
theorem rep_mem {α : Type} {l : List α} {x : α} {n : Nat} (h : x ∈ (List.replicate n l).flatten) : x ∈ l := by
  obtain ⟨m, hm, hx⟩ := List.mem_flatten.mp h
  rw [List.mem_replicate] at hm
  rw [← hm.2]
  exact hx
theorem same_tf {b b' : Bool} {p : Prop} (h : b = true ↔ p) (g : b' = true ↔ p) : b = b' := Bool.eq_iff_iff.mpr (h.trans g.symm)
theorem or_b0 : Or (.tuple [.str "book", .int 0]) := or_of (by decide +kernel)
theorem OdV.same {f : Addr → Prop} {H H' : Hp} {v : V} {d : PyData} (h : OdV f H v d) (s : Same H H') : OdV f H' v d := h.ke (.same s)
theorem OdAll.same {f : Addr → Prop} {H H' : Hp} {vs : List V} {ds : List PyData} (h : OdAll f H vs ds) (s : Same H H') : OdAll f H' vs ds := h.ke (.same s)
theorem isLad_rows {css cls : List (List Int)} {rows : List Rw} (h : Lad css rows cls) (l1 : 1 ≤ rows.length) (l2 : rows.length ≤ 200) : IsLad css (.list (rows.map dat)) := ⟨rows, cls, rfl, h, l1, l2⟩
theorem cut_t (xs : List V) (n : Nat) : cutV xs none (some (n : Int)) = xs.take n := by
  unfold cutV
  rw [HT.sIx_none, HT.sIx_nat, List.drop_zero, Nat.sub_zero]
  by_cases h : n ≤ xs.length
  · rw [Nat.min_eq_left h]
  · rw [Nat.min_eq_right (by omega), List.take_length, List.take_of_length_le (by omega)]
theorem cut_d (xs : List V) (n : Nat) : cutV xs (some (n : Int)) none = xs.drop n := by
  unfold cutV
  rw [HT.sIx_none, HT.sIx_nat]
  by_cases h : n ≤ xs.length
  · rw [Nat.min_eq_left h]
    exact List.take_of_length_le (by rw [List.length_drop]; omega)
  · rw [Nat.min_eq_right (by omega), List.drop_of_length_le (by omega : xs.length ≤ n), List.drop_of_length_le (Nat.le_refl _), List.take_nil]
/-- a row put in -/
theorem od_put {f : Addr → Prop} {H : Hp} {xs : List V} {ds : List PyData} {rv : V} {d : PyData} (od : OdAll f H xs ds) (n : Nat) (ov : OdV f H rv d) (ta : ∀ d ∈ ds, Or d) (ord : Or d) : ∃ es, OdAll f H (cutV xs none (some (n : Int)) ++ [rv] ++ cutV xs (some (n : Int)) none) es ∧ (∀ d ∈ es, Or d) ∧ es.length ≤ ds.length + 1 := by
  rw [cut_t, cut_d]
  refine ⟨ds.take n ++ [d] ++ ds.drop n, ((od.take n).cat (.one ov)).cat (od.drop n), fun y hy => ?_, ?_⟩
  · rcases List.mem_append.mp hy with z | z
    · rcases List.mem_append.mp z with z | z
      · exact ta y (List.mem_of_mem_take z)
      · rw [List.mem_singleton.mp z]
        exact ord
    · exact ta y (List.mem_of_mem_drop z)
  · rw [List.length_append, List.length_append, List.length_take, List.length_drop]
    show _ + 1 + _ ≤ _
    omega
end Wk
namespace Tz
open PySem PySem.Spec PyProof.Rows L2 Nw
/-! ### t * 0, t a tuple -/
theorem mul_zero (l : Addr) (a : Value) (r : List Value) (n : Nat) (dd : Option Addr) (sl : Array (Option Value)) (u : Tok) :
    Meets (Builtin.«tuple.__mul__» ⟨[.ref l, .int 0 u], []⟩) (fun _ R s => s.heap.get? l = some { cls := .type "tuple", dict := dd, data := .seq (a :: r).toArray n, slots := sl } ∧
      R (.ok (.ret (Value.ref s.heap.objs.size))) { s with heap := s.heap.push { cls := Value.type "tuple", data := Data.seq #[] }, toks := s.toks }) :=
  .of_wp fun prog w A R s z => by
    obtain ⟨hp, g, d, tk, os⟩ := s
    obtain ⟨hl, z⟩ := z
    have f1 := AutoSeq1.idx_int
    have e1 : ((a :: r).toArray.isEmpty || ((0 : Int) == 1)) = false := rfl
    wp_walk using wpAny_loadPart' hl
    repeat (first
      | (refine wpAny_ite_false (decide_eq_false (by rw [e1]; exact Bool.false_ne_true)) ?_; wp_walk using wpAny_loadPart' hl)
      | (refine wpAny_ite_true (decide_eq_true (by rfl)) ?_; wp_walk using wpAny_loadPart' hl))
    exact ⟨_, rfl, z⟩
theorem op_repZ {X : Cx} : OpR X (binaryOp .Mult) (fun x y H Q => ∃ l xs, x = .ref l ∧ y = .int 0 ∧ H l = some (.tup xs) ∧ xs ≠ [] ∧ New H (.tup []) Q) := by
  intro pins s σ H x y v u Q I rx ry ask
  obtain ⟨l, xs, rfl, rfl, hl, ne, q⟩ := ask
  cases rx
  obtain ⟨t, rfl⟩ := ry
  obtain ⟨its, r, ⟨⟨cls, dd, data, sl⟩, ho, hc, n, hd⟩, hs⟩ := I.tuple (.of hl)
  simp only at hc hd
  subst hc hd
  match its, r, ho with
  | [], r, _ => exact absurd (List.eq_nil_of_length_eq_zero r.length) ne
  | a :: rest, r, ho =>
    refine wpAny_binaryOp_repeat_ref (T := "tuple") (U := "int") (by decide) ⟨_, ho, rfl⟩ (fun s' => typeIs_int s' 0 t) noFill_tuple_mul F.fills_int_mul F.slot_int_rmul repeat_tuple F.slot_int_index.lookup ?_
    refine call_meets F.slot_int_rmul (typeIs_int s 0 t) F.entry_int_rmul (F.args_int_rmul_2 _ _) (int_rmul_tuple 0 t l (a :: rest).toArray n dd sl) ⟨ho, rfl, ⟨_, ho, rfl⟩, ?_⟩
    refine call_meets F.slot_tuple_mul ⟨_, ho, rfl⟩ F.entry_tuple_mul (F.args_tuple_mul_2 _ _) (mul_zero l a rest n dd sl t) ⟨ho, ?_⟩
    exact ⟨.ref s.heap.objs.size, _, I.laid (t' := s.toks) (o := .tup []) (fun b ob z => Heap.get?_push_of_some _ z) (Nat.le_refl _) ⟨Nat.zero_le _, [], .nil, IsTup.new _ _⟩, rfl, q.to _ (I.hok.fresh (Nat.le_refl _))⟩
theorem mul_one (l : Addr) (a : Value) (r : List Value) (n : Nat) (dd : Option Addr) (sl : Array (Option Value)) (u : Tok) :
    Meets (Builtin.«tuple.__mul__» ⟨[.ref l, .int 1 u], []⟩) (fun _ R s => s.heap.get? l = some { cls := .type "tuple", dict := dd, data := .seq (a :: r).toArray n, slots := sl } ∧
      R (.ok (.ret (Value.ref l))) s) :=
  .of_wp fun prog w A R s z => by
    obtain ⟨hp, g, d, tk, os⟩ := s
    obtain ⟨hl, z⟩ := z
    have f1 := AutoSeq1.idx_int
    have e1 : ((a :: r).toArray.isEmpty || ((1 : Int) == 1)) = true := rfl
    wp_walk using wpAny_loadPart' hl
    repeat (first
      | (refine wpAny_ite_true (decide_eq_true (by rw [e1])) ?_; wp_walk using wpAny_loadPart' hl)
      | (refine wpAny_ite_true (decide_eq_true (by rfl)) ?_; wp_walk using wpAny_loadPart' hl))
    exact ⟨_, rfl, z⟩
theorem op_repO {X : Cx} : OpR X (binaryOp .Mult) (fun x y H Q => ∃ l xs, x = .ref l ∧ y = .int 1 ∧ H l = some (.tup xs) ∧ xs ≠ [] ∧ Q (.ref l) H) := by
  intro pins s σ H x y v u Q I rx ry ask
  obtain ⟨l, xs, rfl, rfl, hl, ne, q⟩ := ask
  cases rx
  obtain ⟨t, rfl⟩ := ry
  obtain ⟨its, r, ⟨⟨cls, dd, data, sl⟩, ho, hc, n, hd⟩, hs⟩ := I.tuple (.of hl)
  simp only at hc hd
  subst hc hd
  match its, r, ho with
  | [], r, _ => exact absurd (List.eq_nil_of_length_eq_zero r.length) ne
  | a :: rest, r, ho =>
    refine wpAny_binaryOp_repeat_ref (T := "tuple") (U := "int") (by decide) ⟨_, ho, rfl⟩ (fun s' => typeIs_int s' 1 t) noFill_tuple_mul F.fills_int_mul F.slot_int_rmul repeat_tuple F.slot_int_index.lookup ?_
    refine call_meets F.slot_int_rmul (typeIs_int s 1 t) F.entry_int_rmul (F.args_int_rmul_2 _ _) (int_rmul_tuple 1 t l (a :: rest).toArray n dd sl) ⟨ho, rfl, ⟨_, ho, rfl⟩, ?_⟩
    refine call_meets F.slot_tuple_mul ⟨_, ho, rfl⟩ F.entry_tuple_mul (F.args_tuple_mul_2 _ _) (mul_one l a rest n dd sl t) ⟨ho, ?_⟩
    exact ⟨.ref l, H, I, rfl, q⟩
/-- t * k: none, once, or more than once -/
def rRepA : R2 := fun x y H Q => ∃ l k xs, x = .ref l ∧ y = .int k ∧ H l = some (.tup xs) ∧ xs ≠ [] ∧ ((k = 0 ∧ New H (.tup []) Q) ∨ (k = 1 ∧ Q (.ref l) H) ∨ (2 ≤ k ∧ k ≤ 1000 ∧ xs.length ≤ 1000 ∧ ResT H (List.replicate k.toNat xs).flatten Q))
theorem op_repA {X : Cx} : OpR X (binaryOp .Mult) rRepA := by
  intro pins s σ H x y v u Q I rx ry ask
  obtain ⟨l, k, xs, h1, h2, h3, h4, ⟨rfl, z⟩ | ⟨rfl, z⟩ | ⟨z1, z2, z3, z4⟩⟩ := ask
  · exact op_repZ pins s σ H x y v u Q I rx ry ⟨l, xs, h1, h2, h3, h4, z⟩
  · exact op_repO pins s σ H x y v u Q I rx ry ⟨l, xs, h1, h2, h3, h4, z⟩
  · exact op_repTN pins s σ H x y v u Q I rx ry ⟨l, k, xs, h1, h2, h3, h4, z1, z2, z3, z4⟩
end Tz
namespace Rk
open PySem PySem.Spec PyProof.Rows L2 Nw Ev1 Gx2
/-! ### a call of a value that an expression tells; a caught error kept as a value; count of truths -/
theorem takes0 {X : Cx} : Takes X (fun _ _ _ _ => False) := fun _ _ x => by
  obtain ⟨_, _, _, _, _, _, _, _, _, _, _, _, _, _, _, _, z⟩ := x
  exact z.elim
section
variable {X : Cx} {CX : CXT} {k : Nat} {f : Addr} {fd : FuncData} {ps : List Str} {sp : Sp} {E : L2.St → XK}
theorem runS {pins : List (Addr × Obj)} {σ : L2.St} {H : Hp} {s : Shared} {Q : VK} {us : List Value} {vs : List V} (F : FnX X.prog X.w X.K X.mg X.base CX k f fd ps sp) (gd : X.A.guards = some []) (room : Room k X.A) (bind : Binds X.K fd ps []) (pass : PassesAt CX X σ (E σ))
    (I : Inv X pins σ H s) (rel : Vals vs us) (ask : sp vs H Q (E σ)) : wpAny (model X.prog X.w) X.A (call (.ref f) us) (EP X pins σ Q) X.xe s := by
  have ll : us.length = ps.length := rel.length.symm.trans (F.len _ _ _ _ ask)
  have b := bind s us I.kIn (by rw [List.append_nil]; exact ll)
  rw [List.append_nil] at b
  refine wpAny_call (codeAny_mono (F.run X.A X.stack s H ⟨us, []⟩ us vs Q (E σ) gd room I.env0 b rel ask) fun r s' z => ?_)
  match r, z with
  | .error e, z => exact pass pins H s e s' I z
  | .ok (.ret u), z => exact I.after z
  | .ok .next, z => exact z.elim
  | .ok .brk, z => exact z.elim
  | .ok .cont, z => exact z.elim
/-- g(e, ..), g an expression that tells the def f -/
def tCallV (f : Addr) (tf : TE) (sp : Sp) (E : L2.St → XK) (t : TA) : TE := fun σ H Q => tf σ H fun v H1 => v = .ref f ∧ t σ H1 fun vs H2 => sp vs H2 Q (E σ)
theorem pe_callV {fe e : Expr} {es : List Expr} {tf : TE} {t : TA} {pos : Pos} (F : FnX X.prog X.w X.K X.mg X.base CX k f fd ps sp) (gd : X.A.guards = some []) (room : Room k X.A) (kp : PySem.W.keepIn X.K (.ref f) = true) (bind : Binds X.K fd ps []) (pass : ∀ σ, PassesAt CX X σ (E σ)) (hf : PE X fe tf)
    (ha : PA X (e :: es) t) (hc : eval (.Call fe (e :: es) [] pos) X.env = (do callWith pos (← eval fe X.env) [] (backTo pos (starEach (e :: es) X.env)) (backToKw pos (keywordEach [] X.env))) := by rfl)
    (he : starEach (e :: es) X.env = (false, eval e X.env) :: starEach es X.env := by rfl) (hpl : (backTo pos (starEach es X.env)).any (·.1) = false := by rfl) :
    PE X (.Call fe (e :: es) [] pos) (tCallV f tf sp E t) := by
  refine ⟨fun pins s σ H Q I h => ?_⟩
  rw [hc]
  refine wpAny_bind (thn (hf.run pins s σ H _ I h) fun u s1 ⟨v, H1, I1, r1, e1, q1⟩ => ?_)
  subst e1
  cases r1
  exact PySem.W.callWith_K (h₀ := X.base) I1.ok.mod.kin kp (thn (ha.run pos pins s1 σ H1 _ I1 q1) fun us s2 ⟨vs, H2, I2, r, q⟩ => ⟨I2.kIn, runS F gd room bind (pass σ) I2 r q⟩) he hpl
end
section
variable {X : Cx} {pins : List (Addr × Obj)} {σ : L2.St} {H : Hp} {s : Shared} {a : Addr} {oe : Obj} {cls : Value} {d : Option Addr}
/-- an exception that stands in the heap comes to be known -/
theorem track {vs : Array Value} (I : Inv X pins σ H s) (ha : s.heap.get? a = some oe) (hz : Zc cls d oe) (hd : oe.data = .fields vs) (na : H a = none) (nL : a ≠ X.env.locals) (n0 : X.s_0.heap.get? a = none) (np : ∀ p ∈ X.pn ++ pins, p.1 ≠ a) :
    Inv X pins σ (upd H a (ExV cls d a)) s := by
  have new : ObjOk X.prog X.w (upd H a (ExV cls d a)) s.heap a (ExV cls d a) := ⟨⟨oe, vs, ha, hz, hd⟩, ⟨oe, ha⟩, fun h1 h2 ⟨o, v, y, r⟩ i => ⟨o, v, i o y, r⟩⟩
  have b := I.base
  refine ⟨I.ok, I.os, I.bare, ⟨b.keep, b.slot, fun x o e n m => ?_, b.there, fun x xs e => ?_, fun x o u e => ?_, fun x ps e => ?_⟩, I.loc, I.cell, ?_, fun x c e => ?_, fun p hp => ?_, I.hok.laidN (fun _ _ z => z) na new, I.len⟩
  · rw [upd_ne (fun z => by rw [z, n0] at e; cases e)]
    exact b.free x o e n m
  · rw [upd_ne (ne_of_none (b.tups x xs e) na)]
    exact b.tups x xs e
  · rw [upd_ne (ne_of_none (b.frzs x o u e) na)]
    exact b.frzs x o u e
  · obtain ⟨more, z⟩ := b.tbls x ps e
    exact ⟨more, by rw [upd_ne (ne_of_none z na)]; exact z⟩
  · rw [upd_ne (Ne.symm nL)]
    exact I.free
  · obtain ⟨w, z⟩ := I.cell x c e
    rw [upd_ne (fun y => ?_)]
    · exact I.freeC x c e
    · rw [y] at z
      obtain ⟨o, z1, z2⟩ := z
      rw [ha] at z1
      cases z1
      simp_all
  · obtain ⟨e, n, ne, nf, c⟩ := I.pin p hp
    exact ⟨e, by rw [upd_ne (np p hp)]; exact n, ne, nf, c⟩
end
/-- what «except x as n: suite» wishes of an exception of the body, where the suite ends and the exception is known behind it -/
def wKeep (K : PySem.W.Frag) (c : Value) (i : Nat) (ts : Addr → Value → Option Addr → TS) (Wout : WX) (D : Ends) : WX := fun cls d σ H =>
  ∃ b, PySem.W.exmOne K cls c = some b ∧ (b = true → ∀ a, H a = none → ts a cls d { nx := fun σ' H' => H' a = none → D.nx (σ'.set i none) (upd H' a (ExV cls d a)), rt := fun _ _ => False, bk := fun _ _ => False, ct := fun _ _ => False } (σ.set i (some (.ref a))) H) ∧
    (b = false → Wout cls d σ H)
section
variable {X : Cx} {x n : Str} {c : Value} {i : Nat} {body suite : List Stmt} {b₀ : Stmt} {np pos pos' : Pos} {tb : WX → TS} {ts : Addr → Value → Option Addr → TS} {Wout : WX}
theorem ps_try_keep (hs : X.stack = X.env :: X.outer) (hf : X.env.frame = some X.env.locals) (hex : X.ex = []) (hN : X.N.Nodup) (hi : X.N[i]? = some n) (hln : X.env.kindOf n = some .local) (hc : Names X x c) (tk : Takes X Wout)
    (hb : ∀ (W : WX) (pn : List (Addr × Obj)) (xe : Value → Shared → Prop), Takes (X.tr pn xe) W → PassesOwn (model X.prog X.w) X.A X.env xe → PSs (X.tr pn xe) body (tb W))
    (hsu : ∀ (a : Addr) (oe : Obj) (cls : Value) (d : Option Addr) (pn : List (Addr × Obj)), Zc cls d oe → (∃ vs, oe.data = .fields vs) → PSs (X.suite a ((a, oe) :: pn)) (b₀ :: suite) (ts a cls d)) :
    PS X (.Try body [.ExceptHandler (some (.Name x np)) (some n) (b₀ :: suite) pos'] [] [] pos) (fun D σ H => tb (wKeep X.K c i ts Wout D) D σ H) := by
  refine ⟨fun pins s σ H D I h => ?_⟩
  have ok := I.ok
  have hfr : X.A.frames = some (X.env :: X.outer) := by rw [ok.frames, hs]
  have hloc : Loc X.env.scope n := .inl hln
  refine wpAny_Try_except ?_
  refine wpAny_mono ((hb (wKeep X.K c i ts Wout D) (X.pn ++ pins) (fun e s₁ => wpAny (model X.prog X.w) X.A (noteFrame e X.env) (fun _ s₂ => wpAny (model X.prog X.w) X.A (setFlight e none) (fun _ s₃ =>
    wpAny (model X.prog X.w) X.A (handleBy e X.env [.ExceptHandler (some (.Name x np)) (some n) (b₀ :: suite) pos']) (SP X pins D) X.xe s₃) X.xe s₂) X.xe s₁) (fun u s' xx => ?_) PassesOwn.looking).run [] s σ H D (I.toTry _) h) (fun f s1 hsp => ?_) (fun e s1 he => he)
  · obtain ⟨a, B, sI, pins', σ', H', cls, d, rfl, J', nb, up, sky, na, os, ag, b, hb1, hyes, hno⟩ := xx
    have J : Inv X pins σ' H' sI := J'.ofTry ok
    have sky' : Sky B (X.env :: X.outer) a (Zc cls d) X.env.locals s'.heap := by rw [← hs]; exact sky
    have Ba : B.get? a = none := by
      rcases sky with z | z | z
      · exact z.2.1
      · exact z.2.1
      · exact z.2.1
    show wpAny (model X.prog X.w) X.A (noteFrame (.ref a) X.env) _ _ _
    refine Sky.land Zc.steady hfr hf sky' fun h3 fl3 up3 => ?_
    have J3 : Inv X pins σ' H' { s' with heap := h3 } := J.landed nb fl3.1 (up.trans up3) os ag
    obtain ⟨oe3, vs3, he3, hz3, hd3⟩ := fl3.there
    have notFr : ∀ {h : Heap} {o : Obj} {vs : Array Value}, h.FunFrames B (X.env :: X.outer) → h.get? a = some o → o.data = .fields vs → a ∉ frs (X.env :: X.outer) := fun {h o vs} ff e dd hm => by
      obtain ⟨_, o', e', hnf⟩ := ff.mem hm
      rw [e] at e'; cases e'
      exact hnf _ dd
    have nfr := notFr fl3.2.2.1 he3 hd3
    have nL : a ≠ X.env.locals := fun z => nfr (List.mem_filterMap.mpr ⟨X.env, List.mem_cons_self, by rw [hf, z]⟩)
    have nF : a ∉ X.fs := fun hm => by
      obtain ⟨e, he, q⟩ := List.mem_filterMap.mp hm
      exact nfr (List.mem_filterMap.mpr ⟨e, List.mem_cons_of_mem _ he, q⟩)
    have n0 : X.s_0.heap.get? a = none := by
      cases z : X.s_0.heap.get? a with
      | none => rfl
      | some o =>
        obtain ⟨o', z2⟩ := J.base.there a o z (by rw [hex]; simp)
        rw [nb a o' z2 (by show a ∉ frs X.stack; rw [hs]; exact nfr)] at Ba
        cases Ba
    have npin : ∀ p ∈ X.pn ++ pins, p.1 ≠ a := fun p hp z => by
      have y := (J.pin p hp).1
      rw [z] at y
      rw [nb a _ y (by show a ∉ frs X.stack; rw [hs]; exact nfr)] at Ba
      cases Ba
    have S3 := J3.suite he3 hd3 na nL nF
    refine wpAny_handleBy_cons (codeAny_handlers_test ?_) (by intro q; cases q)
    have LT : PySem.W.Looks (model X.prog X.w) h3 (typeOf (.ref a)) cls := fun A Q E s k q => wpAny_typeOf_ref (k _ _ he3) (by rw [hz3.1]; exact q)
    have LM := PySem.W.exm_one (M := model X.prog X.w) (J3.kIn) LT hb1
    have test : ∀ {Q : Value → Shared → Prop} {E : Value → Shared → Prop}, Q c { s' with heap := h3 } → wpAny (model X.prog X.w) (X.A.mark (some (.ref a))) (eval (.Name x np) X.env) Q E { s' with heap := h3 } := fun {Q E} q => by
      obtain ⟨hg, hdbg, hm | ⟨hm, hv, hnn⟩⟩ := hc
      · exact ld_glob (X := X.suite a ((a, oe3) :: (X.pn ++ pins))) S3 hg hm q hdbg
      · exact ld_blt (X := X.suite a ((a, oe3) :: (X.pn ++ pins))) S3 hg hm hv q hnn hdbg
    refine test (LM.here ?_)
    cases b with
    | true =>
      refine codeAny_handlers_suite_as ?_
      refine HandSPX.lands_againZ fl3 fun h4 fl4 up4 => ?_
      have J4 : Inv X pins σ' H' { s' with heap := h4 } := J.landed nb fl4.1 ((up.trans up3).trans up4) os ag
      obtain ⟨oe4, vs4, he4, hz4, hd4⟩ := fl4.there
      have S4 := J4.suite he4 hd4 na nL nF
      refine store_ok (X := X.suite a ((a, oe4) :: (X.pn ++ pins))) (v := .ref a) S4 hN hi hloc rfl (fun s5 S5 => ?_) (.inr hln)
      refine wpAny_mono ((hsu a oe4 cls d (X.pn ++ pins) hz4 ⟨_, hd4⟩).run [] s5 _ H' _ S5 (hyes rfl a na)) (fun f s6 hsp => ?_) (fun _ _ z => False.elim z)
      cases f with
      | next =>
        obtain ⟨σ6, H6, S6, q6⟩ := hsp
        obtain ⟨p1, p2, _⟩ := S6.pin (a, oe4) (List.mem_append_left _ List.mem_cons_self)
        have J6 : Inv X pins σ6 H6 s6 := S6.unsuite ok
        have J7 : Inv X pins σ6 (upd H6 a (ExV cls d a)) s6 := track J6 p1 hz4 hd4 p2 nL n0 npin
        exact gone_ok J7 hN hi hln fun s7 J8 => ⟨_, _, J8, q6 p2⟩
      | brk =>
        obtain ⟨σ6, H6, S6, q6⟩ := hsp
        exact q6.elim
      | cont =>
        obtain ⟨σ6, H6, S6, q6⟩ := hsp
        exact q6.elim
      | ret u =>
        obtain ⟨v6, σ6, H6, S6, r6, q6⟩ := hsp
        exact q6.elim
    | false =>
      show wpAny _ X.A (handleBy (.ref a) X.env []) _ _ _
      refine wpAny_handleBy_nil ?_
      obtain ⟨k1, k2, k3, oe, vs, T, oT, ts', he, hz, hd, h1, hr⟩ := id fl3
      unfold PySem.passOn
      refine wpAny_bind (wpAny_field he hd h1 ?_)
      rw [if_neg (show ¬ ((Value.ref T == Value.none) = true) from by simp)]
      have fin : wpAny (model X.prog X.w) X.A (setFlight (.ref a) X.env.frame) (fun _ s4 => wpAny (model X.prog X.w) X.A (throw (.ref a) : Sem Flow) (SP X pins D) X.xe s4) X.xe { s' with heap := h3 } := by
        rw [hf]
        refine HandSPX.setFlight_upZ fl3 fun h4 hh4 up4 => wpAny_throw (tk _ _ ?_)
        exact ⟨a, B, sI, pins, σ', H', cls, d, rfl, J, nb, (up.trans up3).trans up4, .inr (.inr (by rw [hs]; exact hh4)), na, os, ag, hno rfl⟩
      first
        | exact wpAny_bind (wpAny_pure (wpAny_bind fin))
        | exact wpAny_bind fin
  · cases f with
    | next =>
      obtain ⟨σ', H', J', q⟩ := hsp
      exact wpAny_execs_nil ⟨σ', H', J'.ofTry ok, q⟩
    | brk =>
      obtain ⟨σ', H', J', q⟩ := hsp
      exact ⟨σ', H', J'.ofTry ok, q⟩
    | cont =>
      obtain ⟨σ', H', J', q⟩ := hsp
      exact ⟨σ', H', J'.ofTry ok, q⟩
    | ret u =>
      obtain ⟨v, σ', H', J', r, q⟩ := hsp
      exact ⟨v, σ', H', J'.ofTry ok, r, q⟩
end
/-- at a a caught exception of the class D -/
def ExW (H : Hp) (a D : Addr) : Prop := H a = some (ExV (.ref D) none a) ∨ ∃ y, ExF H a D y
theorem ExW.same {H H' : Hp} {a D : Addr} (h : ExW H a D) (s : Same H H') : ExW H' a D := by
  rcases h with h | ⟨y, h⟩
  · exact .inl (s _ _ h)
  · exact .inr ⟨y, h.same s⟩
theorem ExW.inst {X : Cx} {pins : List (Addr × Obj)} {σ : L2.St} {H : Hp} {s : Shared} {a D : Addr} (I : Inv X pins σ H s) (h : ExW H a D) : ∃ ox od, PySem.W.InstAt s.heap a ox D od := by
  rcases h with h | ⟨y, h⟩
  · have z1 : ObjOk X.prog X.w H s.heap a (.ext fun h => ∃ (oe : Obj) (vs : Array Value), h.get? a = some oe ∧ Zc (.ref D) none oe ∧ oe.data = .fields vs) := I.hok a _ h
    obtain ⟨⟨oe, vs, ha, ⟨hc, hd⟩, hv⟩, _⟩ := z1
    exact ⟨oe, none, ⟨ha, hc, notCls_of hv, by rw [hd]; exact trivial⟩⟩
  · obtain ⟨ox, od, _, J, _⟩ := h.inst I
    exact ⟨ox, some od, J⟩
/-- isinstance(e, c) of a caught exception -/
def rIsW (K : PySem.W.Frag) : List V → Hp → VK → Prop := fun xs H Q => ∃ (a D : Addr) (c : V) (cv : Value) (b : Bool), xs = [.ref a, c] ∧ ExW H a D ∧ ExcC K D ∧ (∀ u, RelV c u → u = cv) ∧ PySem.W.kitOne K (.ref D) cv = some b ∧ Q (.bl b) H
theorem call_isW {X : Cx} : CallR X (.builtin "isinstance") (rIsW X.K) := by
  intro pins s σ H xs us Q I r h
  obtain ⟨a, D, c, cv, b, rfl, hE, C, hcv, e, q⟩ := h
  cases r with
  | cons rx rr =>
    cases rr with
    | cons rt rr =>
      cases rr
      cases rx
      have ec := hcv _ rt
      subst ec
      obtain ⟨ox, od, J⟩ := hE.inst I
      have cl : (PySem.W.clsIn X.K D).isSome = true := by
        obtain ⟨cd, hc, _⟩ := PySem.W.any_some C.hd
        rw [hc]
        rfl
      exact PySem.W.kia_one (PySem.W.kitx_exc cl C.hg C.hk C.hs C.ha C.hn C.ht C.hm) I.kIn J e (fun z => nomatch z) fun tk => ⟨.bl b, H, I.kept (t' := tk) fun _ _ z => z, rfl, q⟩
theorem count_vals {y : V} : ∀ {ys : List V} {us : List Value}, Vals ys us → ys.all flatV = true → us.countP (eqU y) = ys.countP fun z => eqV z y
  | [], _, .nil, _ => rfl
  | z :: r, u :: us, .cons r1 t, f => by
    rw [List.all_cons, Bool.and_eq_true] at f
    rw [List.countP_cons, List.countP_cons, count_vals t f.2, eqU_of r1 f.1]
/-- xs.count(y), flat items -/
def rCountV (K : PySem.W.Frag) : V → List V → Hp → VK → Prop := fun x xs H Q => ∃ (p : Addr) (ys : List V) (y : V), x = .ref p ∧ xs = [y] ∧ SqL K H p ys ∧ flatV y = true ∧ ys.all flatV = true ∧ Q (.int ((ys.countP fun z => eqV z y : Nat) : Int)) H
theorem mt_countV {X : Cx} : MtR X "list.count" (rCountV X.K) := by
  intro pins s σ H x xs v us Q I rx rxs h
  obtain ⟨p, ys, y, rfl, rfl, hs, fy, fys, q⟩ := h
  cases rx
  obtain ⟨u, rfl, ru⟩ := rxs.one
  obtain ⟨its, rv, ⟨⟨cls, dd, data, sl⟩, n, ho, hc, hdn, hd⟩, hlen⟩ := I.list hs
  simp only at hc hd
  subst hc hd
  refine call_meets PySem.F.slot_list_count ⟨_, ho, rfl⟩ PySem.F.entry_list_count (PySem.F.args_list_count_2 _ _)
    (SeqAt.list_countAt p its.toArray n dd sl u (eqU y)) ⟨ho, fun z hz => mem_eqAt ru fy rv fys z (by simpa using hz), ?_⟩
  have ec : its.toArray.toList.countP (eqU y) = ys.countP fun z => eqV z y := count_vals rv fys
  refine ⟨.int ((ys.countP fun z => eqV z y : Nat) : Int), H, I.tok _, ⟨s.toks, ?_⟩, q⟩
  show Value.int ((its.toArray.toList.countP (eqU y) : Nat) : Int) s.toks = _
  rw [ec]
end Rk
namespace Rf
open PySem PySem.Spec PyProof.Rows L2 GxR Nw Dr Kp Se Ev1 Rk Ct
abbrev sRef : Stmt := topS 43
abbrev nRef : List Str := ["act", "caught", "e", "kinds", "words"]
theorem scRef : FnScope nRef ["act"] (defScope sRef) := ⟨rfl, rfl, rfl, by decide +kernel, rfl, by decide +kernel, by decide +kernel⟩
/-- the nine names -/
abbrev nm9 : List Str := ["NoCut", "NoLadder", "NoInstead", "TooGreat", "TooMany", "NoTelling", "NoText", "NoRow", "NoBack"]
/-- what the top has written of the classes -/
structure Txt (K : PySem.W.Frag) (mg : Str → Option Value) (cs : Nat → Addr) (S : Addr) : Prop where
  g : ∀ i x, nm9[i]? = some x → mg x = some (.ref (cs i))
  gS : mg "SpareError" = some (.ref S)
  ec : ∀ i, i < 9 → ExcC K (cs i)
  ap : ∀ i j, i < 9 → j < 9 → PySem.W.kitOne K (.ref (cs i)) (.ref (cs j)) = some (decide (j = i))
  kv : ∀ i, i < 9 → PySem.W.kitOne K (.ref (cs i)) (.type "ValueError") = some true
  xm : ∀ i, i < 9 → PySem.W.exmOne K (.ref (cs i)) (.ref S) = some true
  z_isinstance : mg "isinstance" = none
  z_ValueError : mg "ValueError" = none
  z_len : mg "len" = none
/-- the nine words -/
def wd9 : List Str := ["cut", "ladder", "instead", "great", "many", "telling", "text", "row", "back"]
def tru9 (i : Nat) : List V := (List.range 9).map fun j => V.bl (decide (j = i))
theorem cnt9 : ∀ i : Fin 9, ((tru9 i.val).countP fun z => eqV z (.bl true)) = 1 := by decide +kernel
theorem flat9 : ∀ i : Fin 9, (tru9 i.val).all flatV = true := by decide +kernel
theorem ix9 : ∀ i : Fin 9, (tru9 i.val)[i.val]? = some (V.bl true) := by decide +kernel
theorem no9 {i m : Nat} {z : V} (hm : m < i) (hi : i < 9) (h : (tru9 i)[m]? = some z) : eqV z (.bl true) = false := by
  unfold tru9 at h
  rw [List.getElem?_map, List.getElem?_range (by omega)] at h
  obtain rfl : V.bl (decide (m = i)) = z := Option.some.inj h
  rw [decide_eq_false (by omega)]
  rfl
section
variable {P : Program} {w : World} {K : PySem.W.Frag} {mg : Str → Option Value} {base : Heap}
/-- what refusing tells: a call with these three things; it may be refused by the class i, or not -/
def spRef (fa : Addr) (cs : Nat → Addr) (sp : Sp) : Sp := fun vs H Q _ => ∃ (t : Addr) (x y z : V), vs = [.ref t] ∧ H t = some (.tup [.ref fa, x, y, z]) ∧
  sp [x, y, z] H (fun _ H1 => ∀ H', Same H1 H' → Q (.str "") H') fun cls d H1 => ∃ i, i < 9 ∧ cls = .ref (cs i) ∧ (d = none ∨ ∃ dx v, d = some dx ∧ H1 dx = some (.xd [(("at" : Str), v)])) ∧ ∀ (wd : Str) (H' : Hp), wd9[i]? = some wd → Same H1 H' → Q (.str wd) H'
theorem ok_ref {f fa S : Addr} {cs : Nat → Addr} {fd fda : FuncData} {ps : List Str} {sp : Sp} (F : Fun K "_law_srefused" "_law_srefused" sRef f fd) (T : Txt K mg cs S) (kpA : PySem.W.keepIn K (.ref fa) = true) (bA : Binds K fda ps []) (GA : Gx2.FnX P w K mg base (L2.CX P w) 5 fa fda ps sp)
    (mono : ∀ (vs : List V) (H : Hp) (Q Q' : VK) (E E' : XK), sp vs H Q E → (∀ v H', Q v H' → Q' v H') → (∀ c d H', E c d H' → E' c d H') → sp vs H Q' E') :
    Gx2.FnX P w K mg base CX0 6 f fd ["act"] (spRef fa cs sp) := by
  refine Gx2.okX F scRef (fun vs H Q E h => ?_) (fun cdv A outer s H vs Q E gd0 hr h => ?_)
  · obtain ⟨t, x, y, z, rfl, _⟩ := h
    rfl
  · obtain ⟨t, x, y, z, rfl, ht, q⟩ := h
    have hr5 : Room 5 _ := hr
    have gd : (A.deeper (envOfC "_law_srefused" (defScope sRef) s.heap.objs.size f cdv)).guards = some [] := gd0
    refine ⟨_, (Evl.pss_cut (ps_set (i := 1) scRef.nd rfl (.inl rfl) pe_non)
      (Evl.pss_cut (Rk.ps_try_keep (i := 2) rfl rfl rfl scRef.nd rfl rfl ⟨rfl, by decide, .inl T.gS⟩ Rk.takes0 (fun W pn xe tk _ => (pss_one (ps_if (pt_cmpR op_eq (pe_callB (call_len_seqB (K := K) rfl) (by rfl) T.z_len (by decide +kernel) (pa_cons (pv 0) pa_nil)) pe_int (nomark _)) pss_never (pss_one (ps_if (pt_cmpR op_eq (pe_callB (call_len_seqB (K := K) rfl) (by rfl) T.z_len (by decide +kernel) (pa_cons (pv 0) pa_nil)) pe_int (nomark _)) pss_never (pss_one (ps_if (pt_cmpR op_eq (pe_callB (call_len_seqB (K := K) rfl) (by rfl) T.z_len (by decide +kernel) (pa_cons (pv 0) pa_nil)) pe_int (nomark _)) (pss_one (ps_expr (Rk.pe_callV GA gd hr5 kpA bA (fun σ => passAt tk σ) (pe_ix (ix_tupB (K := K) rfl) (pv 0) pe_int (fun _ _ => rfl)) (pa_cons (pe_ix (ix_tupB (K := K) rfl) (pv 0) pe_int (fun _ _ => rfl)) (pa_cons (pe_ix (ix_tupB (K := K) rfl) (pv 0) pe_int (fun _ _ => rfl)) (pa_cons (pe_ix (ix_tupB (K := K) rfl) (pv 0) pe_int (fun _ _ => rfl)) pa_nil)))))) pss_never))))))) (fun a oe cls d pn hz hf => (pss_one (ps_set (i := 1) scRef.nd rfl (.inl rfl) (pv 2)))))
      (pss_cons (ps_if (pt_cmpR op_isN (pv 1) pe_non (nomark _)) (pss_one (ps_ret pe_str)) pss_nil)
      (pss_cons (ps_set (i := 3) scRef.nd rfl (.inl rfl) (pe_lstN (pa_cons (pe_callB Rk.call_isW (by rfl) T.z_isinstance (by decide +kernel) (pa_cons (pv 1) (pa_cons (pe_glob (v := .ref (cs 0)) rfl (T.g 0 _ rfl) rfl) pa_nil))) (pa_cons (pe_callB Rk.call_isW (by rfl) T.z_isinstance (by decide +kernel) (pa_cons (pv 1) (pa_cons (pe_glob (v := .ref (cs 1)) rfl (T.g 1 _ rfl) rfl) pa_nil))) pa_nil))))
      (pss_cons (ps_set (i := 3) scRef.nd rfl (.inl rfl) (pe_op op_catN (pv 3) (pe_lstN (pa_cons (pe_callB Rk.call_isW (by rfl) T.z_isinstance (by decide +kernel) (pa_cons (pv 1) (pa_cons (pe_glob (v := .ref (cs 2)) rfl (T.g 2 _ rfl) rfl) pa_nil))) (pa_cons (pe_callB Rk.call_isW (by rfl) T.z_isinstance (by decide +kernel) (pa_cons (pv 1) (pa_cons (pe_glob (v := .ref (cs 3)) rfl (T.g 3 _ rfl) rfl) pa_nil))) pa_nil)))))
      (pss_cons (ps_set (i := 3) scRef.nd rfl (.inl rfl) (pe_op op_catN (pv 3) (pe_lstN (pa_cons (pe_callB Rk.call_isW (by rfl) T.z_isinstance (by decide +kernel) (pa_cons (pv 1) (pa_cons (pe_glob (v := .ref (cs 4)) rfl (T.g 4 _ rfl) rfl) pa_nil))) (pa_cons (pe_callB Rk.call_isW (by rfl) T.z_isinstance (by decide +kernel) (pa_cons (pv 1) (pa_cons (pe_glob (v := .ref (cs 5)) rfl (T.g 5 _ rfl) rfl) pa_nil))) pa_nil)))))
      (Evl.pss_cut (ps_set (i := 3) scRef.nd rfl (.inl rfl) (pe_op op_catN (pv 3) (pe_lstN (pa_cons (pe_callB Rk.call_isW (by rfl) T.z_isinstance (by decide +kernel) (pa_cons (pv 1) (pa_cons (pe_glob (v := .ref (cs 6)) rfl (T.g 6 _ rfl) rfl) pa_nil))) (pa_cons (pe_callB Rk.call_isW (by rfl) T.z_isinstance (by decide +kernel) (pa_cons (pv 1) (pa_cons (pe_glob (v := .ref (cs 7)) rfl (T.g 7 _ rfl) rfl) pa_nil))) pa_nil)))))
      (Evl.pss_cut (ps_expr (pe_bm PySem.F.plainAttrs_list PySem.F.slot_list_append PySem.F.type_list_append mt_append (pv 3) (pa_cons (pe_callB Rk.call_isW (by rfl) T.z_isinstance (by decide +kernel) (pa_cons (pv 1) (pa_cons (pe_glob (v := .ref (cs 8)) rfl (T.g 8 _ rfl) rfl) pa_nil))) pa_nil)))
      (pss_cons (ps_if (PW.pt (pw_or (pt_cmpR op_ne (pe_bm PySem.F.plainAttrs_list PySem.F.slot_list_count PySem.F.type_list_count Rk.mt_countV (pv 3) (pa_cons pe_bl pa_nil)) pe_int (nomark _)) (pw_or1 (pt_not (pt_val (pe_callB Rk.call_isW (by rfl) T.z_isinstance (by decide +kernel) (pa_cons (pv 1) (pa_cons (pe_bltn (v := .ty "ValueError") (by rfl) T.z_ValueError PyProof.Rows.Boot.«ValueError» rfl) pa_nil)))))))) (pss_one (ps_ret pe_str)) pss_nil)
      (pss_cons (ps_set (i := 4) scRef.nd rfl (.inl rfl) (pe_lstN (pa_cons pe_str (pa_cons pe_str (pa_cons pe_str (pa_cons pe_str (pa_cons pe_str (pa_cons pe_str (pa_cons pe_str (pa_cons pe_str (pa_cons pe_str pa_nil)))))))))))
      (pss_one (ps_ret (pe_ix ix_list (pv 4) (pe_bm PySem.F.plainAttrs_list PySem.F.slot_list_index PySem.F.type_list_index mt_index (pv 3) (pa_cons pe_bl pa_nil)) (fun _ _ => rfl)))))))))))))), ?_⟩
    refine Evl.q_cut (M := fun σ' H' => σ' = [some (.ref t), some .non, none, none, none] ∧ H' = H) ⟨rfl, rfl⟩ ?_
    rintro σ' H' ⟨rfl, rfl⟩
    refine Evl.q_cut (M := fun σ' H' => (σ' = [some (.ref t), some .non, none, none, none] ∧ (∀ H'', Same H' H'' → Q (.str "") H'')) ∨ ∃ (a : Addr) (i : Nat), σ' = [some (.ref t), some (.ref a), none, none, none] ∧ i < 9 ∧ ExW H' a (cs i) ∧ (∀ (wd : Str) (H'' : Hp), wd9[i]? = some wd → Same H' H'' → Q (.str wd) H'')) ?_ ?_
    · refine ⟨_, rfl, t, _, rfl, .inr (.of ht), rfl, false, rfl, ?_⟩
      refine ⟨_, rfl, t, _, rfl, .inr (.of ht), rfl, false, rfl, ?_⟩
      refine ⟨_, rfl, t, _, rfl, .inr (.of ht), rfl, true, rfl, ?_⟩
      refine ⟨_, rfl, t, _, 0, .ref fa, rfl, rfl, .of ht, rfl, rfl, ?_⟩
      refine ⟨_, rfl, t, _, 1, x, rfl, rfl, .of ht, rfl, ?_⟩
      refine ⟨_, rfl, t, _, 2, y, rfl, rfl, .of ht, rfl, ?_⟩
      refine ⟨_, rfl, t, _, 3, z, rfl, rfl, .of ht, rfl, ?_⟩
      refine mono _ _ _ _ _ _ q (fun v H1 h1 => .inl ⟨rfl, h1⟩) fun c d H1 h1 => ?_
      obtain ⟨i, hi, rfl, hd, h2⟩ := h1
      refine ⟨true, T.xm i hi, fun _ a na => ?_, fun z => nomatch z⟩
      refine ⟨.ref a, rfl, fun nb => .inr ⟨a, i, rfl, hi, ?_, fun wd H'' e s2 => h2 wd H'' e ((same_new na).trans s2)⟩⟩
      rcases hd with rfl | ⟨dx, v, rfl, hx⟩
      · exact .inl upd_same
      · exact .inr ⟨v, dx, upd_same, by rw [upd_ne (ne_of_none hx na)]; exact hx⟩
    · rintro σ' H1 (⟨rfl, q1⟩ | ⟨a, i, rfl, hi, hE, q1⟩)
      · refine ⟨_, rfl, rfl, true, rfl, ?_⟩
        exact q1 _ (Same.refl _)
      · refine ⟨_, rfl, rfl, false, rfl, ?_⟩
        refine ⟨_, rfl, a, cs i, .ref (cs 0), .ref (cs 0), decide (0 = i), rfl, hE, T.ec i hi, fun u r => r, T.ap i 0 hi (by decide), ?_⟩
        refine ⟨_, rfl, a, cs i, .ref (cs 1), .ref (cs 1), decide (1 = i), rfl, hE, T.ec i hi, fun u r => r, T.ap i 1 hi (by decide), ?_⟩
        refine ⟨by show 2 ≤ sizeLine; decide, fun q1' J1 nq1 u1 k1 _ => ?_⟩
        refine ⟨_, rfl, _, rfl, a, cs i, .ref (cs 2), .ref (cs 2), decide (2 = i), rfl, hE.same u1, T.ec i hi, fun u r => r, T.ap i 2 hi (by decide), ?_⟩
        refine ⟨_, rfl, a, cs i, .ref (cs 3), .ref (cs 3), decide (3 = i), rfl, hE.same u1, T.ec i hi, fun u r => r, T.ap i 3 hi (by decide), ?_⟩
        refine ⟨by show 2 ≤ sizeLine; decide, fun q2 J2 nq2 u2 k2 _ => ?_⟩
        refine ⟨q1', q2, _, _, rfl, rfl, u2 _ _ k1, k2, by show 4 ≤ sizeLine; decide, fun q3 J3 nq3 u3 k3 _ => ?_⟩
        have v3 := u1.trans (u2.trans u3)
        refine ⟨_, rfl, _, rfl, a, cs i, .ref (cs 4), .ref (cs 4), decide (4 = i), rfl, hE.same v3, T.ec i hi, fun u r => r, T.ap i 4 hi (by decide), ?_⟩
        refine ⟨_, rfl, a, cs i, .ref (cs 5), .ref (cs 5), decide (5 = i), rfl, hE.same v3, T.ec i hi, fun u r => r, T.ap i 5 hi (by decide), ?_⟩
        refine ⟨by show 2 ≤ sizeLine; decide, fun q4 J4 nq4 u4 k4 _ => ?_⟩
        refine ⟨q3, q4, _, _, rfl, rfl, u4 _ _ k3, k4, by show 6 ≤ sizeLine; decide, fun q5 J5 nq5 u5 k5 _ => ?_⟩
        have v5 := v3.trans (u4.trans u5)
        refine Evl.q_cut (M := fun σ' H2 => ∃ p : Addr, σ' = [some (.ref t), some (.ref a), none, some (.ref p), none] ∧ Same H1 H2 ∧ H1 p = none ∧ H2 p = some (.lst ((List.range 8).map fun j => V.bl (decide (j = i))))) ?_ ?_
        · refine ⟨_, rfl, _, rfl, a, cs i, .ref (cs 6), .ref (cs 6), decide (6 = i), rfl, hE.same v5, T.ec i hi, fun u r => r, T.ap i 6 hi (by decide), ?_⟩
          refine ⟨_, rfl, a, cs i, .ref (cs 7), .ref (cs 7), decide (7 = i), rfl, hE.same v5, T.ec i hi, fun u r => r, T.ap i 7 hi (by decide), ?_⟩
          refine ⟨by show 2 ≤ sizeLine; decide, fun q6 J6 nq6 u6 k6 _ => ?_⟩
          refine ⟨q5, q6, _, _, rfl, rfl, u6 _ _ k5, k6, by show 8 ≤ sizeLine; decide, fun q7 J7 nq7 u7 k7 _ => ?_⟩
          exact ⟨q7, rfl, v5.trans (u6.trans u7), (v5.trans u6).free nq7, k7⟩
        rintro σ' H2 ⟨p, rfl, s2, np, hp⟩
        refine Evl.q_cut (M := fun σ' H3 => σ' = [some (.ref t), some (.ref a), none, some (.ref p), none] ∧ Same H1 H3 ∧ H3 p = some (.lst (tru9 i))) ?_ ?_
        · refine ⟨_, rfl, .inl ⟨rfl, _, .of hp⟩, _, rfl, a, cs i, .ref (cs 8), .ref (cs 8), decide (8 = i), rfl, hE.same s2, T.ec i hi, fun u r => r, T.ap i 8 hi (by decide), ?_⟩
          refine ⟨p, _, _, rfl, rfl, hp, by show 8 < sizeLine; decide, rfl, fun b o e => ?_, upd_same⟩
          rw [upd_ne (ne_of_none e np)]
          exact s2 _ _ e
        rintro σ' H3 ⟨rfl, s3, hp3⟩
        refine ⟨_, rfl, .inl ⟨rfl, _, .of hp3⟩, p, _, .bl true, rfl, rfl, .of hp3, rfl, flat9 ⟨i, hi⟩, ?_⟩
        rw [cnt9 ⟨i, hi⟩]
        refine ⟨rfl, false, by simp, ?_⟩
        refine ⟨_, rfl, a, cs i, .ty "ValueError", .type "ValueError", true, rfl, hE.same s3, T.ec i hi, fun u r => r, T.kv i hi, _, rfl, ?_⟩
        refine ⟨by show 9 ≤ sizeLine; decide, fun pw H4 npw u4 kw _ => ?_⟩
        have lw : i < wd9.length := hi
        have ew : (wd9.map V.str)[i]? = some (V.str wd9[i]) := by rw [List.getElem?_map, List.getElem?_eq_getElem lw]; rfl
        refine ⟨_, rfl, _, rfl, .inl ⟨rfl, _, .of (u4 _ _ hp3)⟩, p, _, .bl true, i, .bl true, rfl, rfl, .of (u4 _ _ hp3), rfl, flat9 ⟨i, hi⟩, ix9 ⟨i, hi⟩, rfl, fun m z hm hz => no9 hm hi hz, ?_⟩
        refine ⟨pw, _, _, .str wd9[i], rfl, rfl, .of kw, at_of (j := i) rfl ew, ?_⟩
        exact q1 _ _ (List.getElem?_eq_getElem lw) (s3.trans u4)
end
end Rf
namespace Wn
open PySem PySem.Spec PyProof.Rows L2 GxR Nw Dr Kp Se Cl Ct Lr Lp Ll Od Wg Wl Wo Wk Ev1
/-! ### what is no ladder is refused -/
theorem made_R {K : PySem.W.Frag} {C : Addr} {y : V} {H1 : Hp} {E : XK} (T : OexC K C) (nf : PySem.W.findIn K (.ref C) "at" = some none) (h : ∀ dx H2, H1 dx = none → Same H1 H2 → H2 dx = some (.xd [(("at" : Str), y)]) → E (.ref C) (some dx) H2) :
    [y].length ≤ 1000 ∧ ∀ a, H1 a = none → spInit K (.ref a :: ([y] ++ [])) (upd H1 a (exo a C none)) (fun v H2 => v = .non ∧ ∃ (d : Addr) (fs : List (Str × V)), H2 a = some (exo a C (some d)) ∧ H2 d = some (exd d fs) ∧ H1 d = none ∧
      E (.ref C) (some d) (upd (del H2 a) d (.xd fs))) (fun _ _ _ => False) := by
  refine ⟨Nat.le_of_ble_eq_true rfl, fun a na => ⟨a, C, y, rfl, T, nf, upd_same, fun dx nd ne => ?_⟩⟩
  have n1 : H1 dx = none := by
    rw [upd_ne ne] at nd
    exact nd
  refine ⟨rfl, dx, [(("at" : Str), y)], upd_same, by rw [upd_ne ne, upd_same], n1, ?_⟩
  rw [del_new na ne, upd_upd]
  exact h dx _ n1 (same_new n1) upd_same
section
variable {P : Program} {w : World} {K : PySem.W.Frag} {mg : Str → Option Value} {base : Heap}
theorem cx_up {k : Nat} {f : Addr} {fd : FuncData} {ps : List Str} {sp : Sp} (F : FnOk P w K mg base CX0 k f fd ps sp) : Gx2.FnX P w K mg base (L2.CX P w) k f fd ps sp :=
  ⟨F.len, fun A outer s H args us vs Q E _ room env bind rel ask => codeAny_mono (F.run A outer s H args us vs Q E room env bind rel ask) fun r s' z => by
    match r, z with
    | .error e, z => exact False.elim z
    | .ok (.ret u), z => exact z
    | .ok .next, z => exact z
    | .ok .brk, z => exact z
    | .ok .cont, z => exact z⟩
theorem orX {CX : CXT} {k : Nat} {f : Addr} {fd : FuncData} {ps : List Str} {a b : Sp} (F : Gx2.FnX P w K mg base CX k f fd ps a) (G : Gx2.FnX P w K mg base CX k f fd ps b) : Gx2.FnX P w K mg base CX k f fd ps (orS a b) :=
  ⟨fun us H Q E h => h.elim (F.len us H Q E) (G.len us H Q E), fun A outer s H args us vs Q E gd room env bind rel ask => ask.elim (F.run A outer s H args us vs Q E gd room env bind rel) (G.run A outer s H args us vs Q E gd room env bind rel)⟩
abbrev sIn1 : Stmt := inClass (topS 7) 0
theorem scI1 : FnScope ["self", "at"] ["self", "at"] (defScope sIn1) := ⟨rfl, rfl, rfl, by decide +kernel, rfl, by decide +kernel, by decide +kernel⟩
theorem ok_in1 {f : Addr} {fd : FuncData} {k : Nat} (F : Fun K "__init__" "NoLadder.__init__" sIn1 f fd) : FnOk P w K mg base CX0 (k + 1) f fd ["self", "at"] (spInit K) := by
  refine F.ok scI1 (fun vs H Q E h => ?_) (fun cdv A outer s H vs Q E hr h => ⟨_, pss_one (ps_ost (pv 0) (pv 1)), ?_⟩)
  · obtain ⟨a, C, y, rfl, _⟩ := h
    rfl
  · obtain ⟨a, C, y, rfl, T, nf, ha, q⟩ := h
    exact ⟨_, rfl, _, rfl, a, C, rfl, T, nf, .inl ⟨ha, fun dx nd ne => q dx nd ne⟩⟩
/-- a book, and a list that is no ladder by it -/
structure Bad (Po : Addr) (H : Hp) (b : V) (L : Addr) (css : List (List Int)) (ds : List PyData) : Prop where
  bk : Bk H b css
  ib : ∀ c ∈ css, IsCl c
  od : OdV Nof H (.ref L) (.list ds)
  sh : SeqAt.shaped (.list ds) = true
  no : ¬ IsLad css (.list ds)
  to : TabG H Po
theorem Bad.ke {Po : Addr} {H H' : Hp} {b : V} {L : Addr} {css : List (List Int)} {ds : List PyData} (x : Bad Po H b L css ds) (k : Ke Nof H H') : Bad Po H' b L css ds := ⟨x.bk.ke k, x.ib, x.od.ke k, x.sh, x.no, k.tabs _ x.to⟩
def spBad (C Po : Addr) (m : Nat) : Sp := fun vs H _ E => ∃ (b : V) (L : Addr) (css : List (List Int)) (ds : List PyData) (zs : List V), vs = b :: .ref L :: zs ∧ zs.length = m ∧ Bad Po H b L css ds ∧
  ∀ (dx : Addr) (rows : List Rw) (cls : List (List Int)) (H' : Hp), Ke Nof H H' → Ahead css ds rows cls → H' dx = some (.xd [(("at" : Str), .int (rows.length : Nat))]) → E (.ref C) (some dx) H'
theorem bad_claims_of {f fA f1 C Po : Addr} {fd fdA fd1 : FuncData} (F : Fun K "claims_of" "claims_of" sClo f fd) (T : Zp mg) (FA : Fun K "claims_ahead_of_fault" "claims_ahead_of_fault" sAhe fA fdA) (bA : Binds K fdA ["book", "thing"] []) (gA : mg "claims_ahead_of_fault" = some (.ref fA)) (GA : FnOk P w K mg base CX0 6 fA fdA ["book", "thing"] (spAhG Po))
    (g1 : mg "NoLadder" = some (.ref C)) (O1 : OexC K C) (nf : PySem.W.findIn K (.ref C) "at" = some none) (i1 : PySem.W.findIn K (.ref C) "__init__" = some (some (.ref f1))) (t1 : PySem.W.typeIn K (.ref f1) = some (.type "function")) (b1 : Binds K fd1 ["self", "at"] []) (G1 : FnOk P w K mg base CX0 1 f1 fd1 ["self", "at"] (spInit K)) :
    Gx2.FnX P w K mg base (L2.CX P w) 7 f fd ["book", "ladder"] (spBad C Po 0) := by
  refine Gx2.okX F scClo (fun vs H Q E h => ?_) (fun cdv A outer s H vs Q E gd0 hr h => ?_)
  · obtain ⟨b, L, css, ds, zs, rfl, lz, _⟩ := h
    rw [List.length_cons, List.length_cons, lz]
    rfl
  · obtain ⟨b, L, css, ds, zs, rfl, lz, bad, q⟩ := h
    obtain rfl := List.eq_nil_of_length_eq_zero lz
    have hr6 : Room 6 _ := hr
    have hr2 : Room 2 _ := hr.mono (by omega)
    refine ⟨_, (pss_cons (ps_set (i := 2) scClo.nd rfl (.inl rfl) (pe_call GA hr6 (by rfl) gA FA.kp bA .nil pass0 (pa_cons (pv 0) (pa_cons (pv 1) pa_nil))))
      (pss_cons (ps_if (PW.pt (pw_or (pt_cmpR op_eq (pe_callB call_len_seq (by rfl) T.z_len (by decide +kernel) (pa_cons (pv 2) pa_nil)) pe_int (nomark _)) (pw_or1 (pt_cmpR op_lt (pe_callB call_len_seq (by rfl) T.z_len (by decide +kernel) (pa_cons (pv 2) pa_nil)) (pe_callB call_len_seq (by rfl) T.z_len (by decide +kernel) (pa_cons (pv 1) pa_nil)) (nomark _))))) (pss_one (ps_raise rfl (takes_of rfl rfl rfl rfl) (pmk_oex O1 i1 t1 G1 hr2 b1 .nil pass0 (by rfl) g1 (pa_cons (pe_callB call_len_seq (by rfl) T.z_len (by decide +kernel) (pa_cons (pv 2) pa_nil)) pa_nil)))) pss_nil)
      (pss_one (ps_ret (pv 2))))), ?_⟩
    refine ⟨_, rfl, _, rfl, Nof, b, .ref L, css, .list ds, rfl, bad.bk, bad.ib, bad.od, bad.sh, bad.to, fun p H1 np k1 no hp => absurd rfl (no ds), fun ds' p rows cls H1 np k1 ed ah hp => ?_⟩
    have ed := PyData.list.inj ed
    subst ed
    have al := ahead_lad ah
    obtain ⟨pvs, hp1, aP⟩ := id hp
    have l1 := ah.ld.1
    have l2 := aP.1
    have ln := ah.ln
    cases id bad.od with
    | lst hL nf' od =>
      rename_i xs
      have lx := od.len
      have hL1 := k1.lst hL fun z => z
      have raise : ∀ {y : V}, y = .int (pvs.length : Nat) → ∀ dx H2, H1 dx = none → Same H1 H2 → H2 dx = some (.xd [(("at" : Str), y)]) → E (.ref C) (some dx) H2 := fun {y} ey dx H2 _ s2 e2 => by
        subst ey
        rw [show pvs.length = rows.length by omega] at e2
        exact q dx rows cls H2 (k1.trans (.same s2)) ah e2
      refine ⟨_, rfl, p, _, rfl, .inl (.of hp1), rfl, _, rfl, ite2 (fun e => ?_) (fun e => ?_)⟩
      · exact ⟨_, rfl, p, _, rfl, .inl (.of hp1), made_R O1 nf (raise rfl)⟩
      · refine ⟨_, rfl, p, _, rfl, .inl (.of hp1), _, rfl, L, _, rfl, .inl (.of hL1), _, _, rfl, rfl, _, rfl, ite2 (fun e2 => ?_) (fun e2 => ?_)⟩
        · exact ⟨_, rfl, p, _, rfl, .inl (.of hp1), made_R O1 nf (raise rfl)⟩
        · exfalso
          have e2 : ¬ (pvs.length : Int) < (xs.length : Int) := of_decide_eq_false (Bool.eq_false_iff.mpr e2)
          have e0 : ¬ pvs.length = 0 := fun z => e (decide_eq_true (by rw [z]; rfl))
          exact bad.no (al.mp ⟨by omega, by omega⟩)
abbrev sB_told_once : Stmt := topS 29
theorem scB_told_once : FnScope ["book", "ladder", "claims", "kept", "first_with", "places", "row", "claim"] ["book", "ladder"] (defScope sB_told_once) := ⟨rfl, rfl, rfl, by decide +kernel, rfl, by decide +kernel, by decide +kernel⟩
theorem bad_told_once {f fC C Po : Addr} {fd fdC : FuncData} (F : Fun K "told_once" "told_once" sB_told_once f fd) (FC : Fun K "claims_of" "claims_of" sClo fC fdC) (bC : Binds K fdC ["book", "ladder"] []) (gC : mg "claims_of" = some (.ref fC)) (GC : Gx2.FnX P w K mg base (L2.CX P w) 7 fC fdC ["book", "ladder"] (spBad C Po 0)) :
    Gx2.FnX P w K mg base (L2.CX P w) 9 f fd ["book", "ladder"] (spBad C Po 0) := by
  refine Gx2.okX F scB_told_once (fun vs H Q E h => ?_) (fun cdv A outer s H vs Q E gd0 hr h => ?_)
  · obtain ⟨b, L, css, ds, zs, rfl, lz, _⟩ := h
    rw [List.length_cons, List.length_cons, lz]
    rfl
  · obtain ⟨b, L, css, ds, zs, rfl, lz, bad, q⟩ := h
    have hrK : Room 8 _ := hr.mono (by omega)
    have hrC : Room 7 _ := hr.mono (by omega)
    have gd : (A.deeper (envOfC "told_once" (defScope sB_told_once) s.heap.objs.size f cdv)).guards = some [] := gd0
    refine ⟨_, (pss_cons (ps_set (i := 2) scB_told_once.nd rfl (.inl rfl) (Gx2.pe_callX GC gd hrC (by rfl) gC FC.kp bC .nil (passes_call (takes_of rfl rfl rfl rfl) (fun _ _ _ _ h => h)) (pa_cons (pv 0) (pa_cons (pv 1) pa_nil)))) pss_never), ?_⟩
    exact ⟨_, rfl, _, rfl, b, L, css, ds, [], rfl, rfl, bad, q⟩
end
end Wn
namespace Wf
open PySem PySem.Spec PyProof.Rows L2 GxR Nw Dr Kp Se Cl Ct Lr Lp Ll Od Wg Wl Wo Wk Ev1 Rk Rf Wn
section
variable {P : Program} {w : World} {K : PySem.W.Frag} {mg : Str → Option Value} {base : Heap}
abbrev sLat : Stmt := topS 49
abbrev nLat : List Str := ["act", "at", "e"]
theorem scLat : FnScope nLat ["act"] (defScope sLat) := ⟨rfl, rfl, rfl, by decide +kernel, rfl, by decide +kernel, by decide +kernel⟩
def spRfB (fa Po : Addr) (m : Nat) : Sp := fun vs H Q _ => ∃ (t : Addr) (b : V) (L : Addr) (css : List (List Int)) (ds : List PyData) (zs : List V), vs = [.ref t] ∧ H t = some (.tup (.ref fa :: b :: .ref L :: zs)) ∧ zs.length = m ∧ Bad Po H b L css ds ∧ ∀ H', Ke Nof H H' → Q (.str "ladder") H'
def spLtB (fa Po : Addr) (m : Nat) : Sp := fun vs H Q _ => ∃ (t : Addr) (b : V) (L : Addr) (css : List (List Int)) (ds : List PyData) (zs : List V), vs = [.ref t] ∧ H t = some (.tup (.ref fa :: b :: .ref L :: zs)) ∧ zs.length = m ∧ Bad Po H b L css ds ∧ ∀ (rows : List Rw) (cls : List (List Int)) (H' : Hp), Ke Nof H H' → Ahead css ds rows cls → Q (.int (rows.length : Nat)) H'
theorem ref_0 {f fa S Po : Addr} {cs : Nat → Addr} {fd fda : FuncData} {ps : List Str} {ka : Nat} (F : Fun K "_law_srefused" "_law_srefused" sRef f fd) (T : Txt K mg cs S) (kpA : PySem.W.keepIn K (.ref fa) = true) (bA : Binds K fda ps []) (GA : Gx2.FnX P w K mg base (L2.CX P w) ka fa fda ps (spBad (cs 1) Po 0)) :
    Gx2.FnX P w K mg base CX0 (ka + 1) f fd ["act"] (spRfB fa Po 0) := by
  refine Gx2.okX F scRef (fun vs H Q E h => ?_) (fun cdv A outer s H vs Q E gd0 hr h => ?_)
  · obtain ⟨t, b, L, css, ds, zs, rfl, _⟩ := h
    rfl
  · obtain ⟨t, b, L, css, ds, zs, rfl, ht, lz, bad, q⟩ := h
    obtain rfl : zs = [] := List.eq_nil_of_length_eq_zero (by first | exact lz | (simp only [List.length_cons] at lz; omega))
    have hrA : Room ka _ := hr
    have gd : (A.deeper (envOfC "_law_srefused" (defScope sRef) s.heap.objs.size f cdv)).guards = some [] := gd0
    refine ⟨_, (Evl.pss_cut (ps_set (i := 1) scRef.nd rfl (.inl rfl) pe_non)
      (Evl.pss_cut (Rk.ps_try_keep (i := 2) rfl rfl rfl scRef.nd rfl rfl ⟨rfl, by decide, .inl T.gS⟩ Rk.takes0 (fun W pn xe tk _ => (pss_one (ps_if (pt_cmpR op_eq (pe_callB (call_len_seqB (K := K) rfl) (by rfl) T.z_len (by decide +kernel) (pa_cons (pv 0) pa_nil)) pe_int (nomark _)) pss_never (pss_one (ps_if (pt_cmpR op_eq (pe_callB (call_len_seqB (K := K) rfl) (by rfl) T.z_len (by decide +kernel) (pa_cons (pv 0) pa_nil)) pe_int (nomark _)) (pss_one (ps_expr (Rk.pe_callV GA gd hrA kpA bA (fun σ => passAt tk σ) (pe_ix (ix_tupB (K := K) rfl) (pv 0) pe_int (fun _ _ => rfl)) (pa_cons (pe_ix (ix_tupB (K := K) rfl) (pv 0) pe_int (fun _ _ => rfl)) (pa_cons (pe_ix (ix_tupB (K := K) rfl) (pv 0) pe_int (fun _ _ => rfl)) pa_nil))))) pss_never))))) (fun a oe cls d pn hz hf => (pss_one (ps_set (i := 1) scRef.nd rfl (.inl rfl) (pv 2)))))
      (pss_cons (ps_if (pt_cmpR op_isN (pv 1) pe_non (nomark _)) (pss_one (ps_ret pe_str)) pss_nil)
      (pss_cons (ps_set (i := 3) scRef.nd rfl (.inl rfl) (pe_lstN (pa_cons (pe_callB Rk.call_isW (by rfl) T.z_isinstance (by decide +kernel) (pa_cons (pv 1) (pa_cons (pe_glob (v := .ref (cs 0)) rfl (T.g 0 _ rfl) rfl) pa_nil))) (pa_cons (pe_callB Rk.call_isW (by rfl) T.z_isinstance (by decide +kernel) (pa_cons (pv 1) (pa_cons (pe_glob (v := .ref (cs 1)) rfl (T.g 1 _ rfl) rfl) pa_nil))) pa_nil))))
      (pss_cons (ps_set (i := 3) scRef.nd rfl (.inl rfl) (pe_op op_catN (pv 3) (pe_lstN (pa_cons (pe_callB Rk.call_isW (by rfl) T.z_isinstance (by decide +kernel) (pa_cons (pv 1) (pa_cons (pe_glob (v := .ref (cs 2)) rfl (T.g 2 _ rfl) rfl) pa_nil))) (pa_cons (pe_callB Rk.call_isW (by rfl) T.z_isinstance (by decide +kernel) (pa_cons (pv 1) (pa_cons (pe_glob (v := .ref (cs 3)) rfl (T.g 3 _ rfl) rfl) pa_nil))) pa_nil)))))
      (pss_cons (ps_set (i := 3) scRef.nd rfl (.inl rfl) (pe_op op_catN (pv 3) (pe_lstN (pa_cons (pe_callB Rk.call_isW (by rfl) T.z_isinstance (by decide +kernel) (pa_cons (pv 1) (pa_cons (pe_glob (v := .ref (cs 4)) rfl (T.g 4 _ rfl) rfl) pa_nil))) (pa_cons (pe_callB Rk.call_isW (by rfl) T.z_isinstance (by decide +kernel) (pa_cons (pv 1) (pa_cons (pe_glob (v := .ref (cs 5)) rfl (T.g 5 _ rfl) rfl) pa_nil))) pa_nil)))))
      (Evl.pss_cut (ps_set (i := 3) scRef.nd rfl (.inl rfl) (pe_op op_catN (pv 3) (pe_lstN (pa_cons (pe_callB Rk.call_isW (by rfl) T.z_isinstance (by decide +kernel) (pa_cons (pv 1) (pa_cons (pe_glob (v := .ref (cs 6)) rfl (T.g 6 _ rfl) rfl) pa_nil))) (pa_cons (pe_callB Rk.call_isW (by rfl) T.z_isinstance (by decide +kernel) (pa_cons (pv 1) (pa_cons (pe_glob (v := .ref (cs 7)) rfl (T.g 7 _ rfl) rfl) pa_nil))) pa_nil)))))
      (Evl.pss_cut (ps_expr (pe_bm PySem.F.plainAttrs_list PySem.F.slot_list_append PySem.F.type_list_append mt_append (pv 3) (pa_cons (pe_callB Rk.call_isW (by rfl) T.z_isinstance (by decide +kernel) (pa_cons (pv 1) (pa_cons (pe_glob (v := .ref (cs 8)) rfl (T.g 8 _ rfl) rfl) pa_nil))) pa_nil)))
      (pss_cons (ps_if (PW.pt (pw_or (pt_cmpR op_ne (pe_bm PySem.F.plainAttrs_list PySem.F.slot_list_count PySem.F.type_list_count Rk.mt_countV (pv 3) (pa_cons pe_bl pa_nil)) pe_int (nomark _)) (pw_or1 (pt_not (pt_val (pe_callB Rk.call_isW (by rfl) T.z_isinstance (by decide +kernel) (pa_cons (pv 1) (pa_cons (pe_bltn (v := .ty "ValueError") (by rfl) T.z_ValueError PyProof.Rows.Boot.«ValueError» rfl) pa_nil)))))))) (pss_one (ps_ret pe_str)) pss_nil)
      (pss_cons (ps_set (i := 4) scRef.nd rfl (.inl rfl) (pe_lstN (pa_cons pe_str (pa_cons pe_str (pa_cons pe_str (pa_cons pe_str (pa_cons pe_str (pa_cons pe_str (pa_cons pe_str (pa_cons pe_str (pa_cons pe_str pa_nil)))))))))))
      (pss_one (ps_ret (pe_ix ix_list (pv 4) (pe_bm PySem.F.plainAttrs_list PySem.F.slot_list_index PySem.F.type_list_index mt_index (pv 3) (pa_cons pe_bl pa_nil)) (fun _ _ => rfl)))))))))))))), ?_⟩
    refine Evl.q_cut (M := fun σ' H' => σ' = [some (.ref t), some .non, none, none, none] ∧ H' = H) ⟨rfl, rfl⟩ ?_
    rintro σ' H' ⟨rfl, rfl⟩
    refine Evl.q_cut (M := fun σ' H1 => ∃ (a : Addr), σ' = [some (.ref t), some (.ref a), none, none, none] ∧ ExW H1 a (cs 1) ∧ Ke Nof H' H1) ?_ ?_
    · skip
      refine ⟨_, rfl, t, _, rfl, .inr (.of ht), rfl, false, rfl, ?_⟩
      refine ⟨_, rfl, t, _, rfl, .inr (.of ht), rfl, true, rfl, ?_⟩
      refine ⟨_, rfl, t, _, 0, .ref fa, rfl, rfl, .of ht, rfl, rfl, ?_⟩
      refine ⟨_, rfl, t, _, 1, b, rfl, rfl, .of ht, rfl, ?_⟩
      refine ⟨_, rfl, t, _, 2, .ref L, rfl, rfl, .of ht, rfl, ?_⟩
      refine ⟨b, L, css, ds, _, rfl, rfl, bad, fun dx rows cls H1 k1 ah hx => ?_⟩
      refine ⟨true, T.xm 1 (by decide), fun _ a na => ?_, fun z => nomatch z⟩
      exact ⟨.ref a, rfl, fun nb => ⟨a, rfl, .inr ⟨_, dx, upd_same, by rw [upd_ne (ne_of_none hx na)]; exact hx⟩, k1.trans (.same (same_new na))⟩⟩
    rintro σ' H1 ⟨a, rfl, hE, k1⟩
    refine ⟨_, rfl, rfl, false, rfl, ?_⟩
    obtain ⟨i, hi, ei⟩ : ∃ i, i < 9 ∧ 1 = i := ⟨1, by decide, rfl⟩
    rw [ei] at hE
    have q1 : ∀ (wd : Str) (H'' : Hp), wd9[i]? = some wd → Same H1 H'' → Q (.str wd) H'' := fun wd H'' e s2 => by
      rw [← ei] at e
      have ew : wd = "ladder" := (Option.some.inj e).symm
      rw [ew]
      exact q H'' (k1.trans (.same s2))
    refine ⟨_, rfl, a, cs i, .ref (cs 0), .ref (cs 0), decide (0 = i), rfl, hE, T.ec i hi, fun u r => r, T.ap i 0 hi (by decide), ?_⟩
    refine ⟨_, rfl, a, cs i, .ref (cs 1), .ref (cs 1), decide (1 = i), rfl, hE, T.ec i hi, fun u r => r, T.ap i 1 hi (by decide), ?_⟩
    refine ⟨by show 2 ≤ sizeLine; decide, fun q1' J1 nq1 u1 k1 _ => ?_⟩
    refine ⟨_, rfl, _, rfl, a, cs i, .ref (cs 2), .ref (cs 2), decide (2 = i), rfl, hE.same u1, T.ec i hi, fun u r => r, T.ap i 2 hi (by decide), ?_⟩
    refine ⟨_, rfl, a, cs i, .ref (cs 3), .ref (cs 3), decide (3 = i), rfl, hE.same u1, T.ec i hi, fun u r => r, T.ap i 3 hi (by decide), ?_⟩
    refine ⟨by show 2 ≤ sizeLine; decide, fun q2 J2 nq2 u2 k2 _ => ?_⟩
    refine ⟨q1', q2, _, _, rfl, rfl, u2 _ _ k1, k2, by show 4 ≤ sizeLine; decide, fun q3 J3 nq3 u3 k3 _ => ?_⟩
    have v3 := u1.trans (u2.trans u3)
    refine ⟨_, rfl, _, rfl, a, cs i, .ref (cs 4), .ref (cs 4), decide (4 = i), rfl, hE.same v3, T.ec i hi, fun u r => r, T.ap i 4 hi (by decide), ?_⟩
    refine ⟨_, rfl, a, cs i, .ref (cs 5), .ref (cs 5), decide (5 = i), rfl, hE.same v3, T.ec i hi, fun u r => r, T.ap i 5 hi (by decide), ?_⟩
    refine ⟨by show 2 ≤ sizeLine; decide, fun q4 J4 nq4 u4 k4 _ => ?_⟩
    refine ⟨q3, q4, _, _, rfl, rfl, u4 _ _ k3, k4, by show 6 ≤ sizeLine; decide, fun q5 J5 nq5 u5 k5 _ => ?_⟩
    have v5 := v3.trans (u4.trans u5)
    refine Evl.q_cut (M := fun σ' H2 => ∃ p : Addr, σ' = [some (.ref t), some (.ref a), none, some (.ref p), none] ∧ Same H1 H2 ∧ H1 p = none ∧ H2 p = some (.lst ((List.range 8).map fun j => V.bl (decide (j = i))))) ?_ ?_
    · refine ⟨_, rfl, _, rfl, a, cs i, .ref (cs 6), .ref (cs 6), decide (6 = i), rfl, hE.same v5, T.ec i hi, fun u r => r, T.ap i 6 hi (by decide), ?_⟩
      refine ⟨_, rfl, a, cs i, .ref (cs 7), .ref (cs 7), decide (7 = i), rfl, hE.same v5, T.ec i hi, fun u r => r, T.ap i 7 hi (by decide), ?_⟩
      refine ⟨by show 2 ≤ sizeLine; decide, fun q6 J6 nq6 u6 k6 _ => ?_⟩
      refine ⟨q5, q6, _, _, rfl, rfl, u6 _ _ k5, k6, by show 8 ≤ sizeLine; decide, fun q7 J7 nq7 u7 k7 _ => ?_⟩
      exact ⟨q7, rfl, v5.trans (u6.trans u7), (v5.trans u6).free nq7, k7⟩
    rintro σ' H2 ⟨p, rfl, s2, np, hp⟩
    refine Evl.q_cut (M := fun σ' H3 => σ' = [some (.ref t), some (.ref a), none, some (.ref p), none] ∧ Same H1 H3 ∧ H3 p = some (.lst (tru9 i))) ?_ ?_
    · refine ⟨_, rfl, .inl ⟨rfl, _, .of hp⟩, _, rfl, a, cs i, .ref (cs 8), .ref (cs 8), decide (8 = i), rfl, hE.same s2, T.ec i hi, fun u r => r, T.ap i 8 hi (by decide), ?_⟩
      refine ⟨p, _, _, rfl, rfl, hp, by show 8 < sizeLine; decide, rfl, fun b o e => ?_, upd_same⟩
      rw [upd_ne (ne_of_none e np)]
      exact s2 _ _ e
    rintro σ' H3 ⟨rfl, s3, hp3⟩
    refine ⟨_, rfl, .inl ⟨rfl, _, .of hp3⟩, p, _, .bl true, rfl, rfl, .of hp3, rfl, flat9 ⟨i, hi⟩, ?_⟩
    rw [cnt9 ⟨i, hi⟩]
    refine ⟨rfl, false, by simp, ?_⟩
    refine ⟨_, rfl, a, cs i, .ty "ValueError", .type "ValueError", true, rfl, hE.same s3, T.ec i hi, fun u r => r, T.kv i hi, _, rfl, ?_⟩
    refine ⟨by show 9 ≤ sizeLine; decide, fun pw H4 npw u4 kw _ => ?_⟩
    have lw : i < wd9.length := hi
    have ew : (wd9.map V.str)[i]? = some (V.str wd9[i]) := by rw [List.getElem?_map, List.getElem?_eq_getElem lw]; rfl
    refine ⟨_, rfl, _, rfl, .inl ⟨rfl, _, .of (u4 _ _ hp3)⟩, p, _, .bl true, i, .bl true, rfl, rfl, .of (u4 _ _ hp3), rfl, flat9 ⟨i, hi⟩, ix9 ⟨i, hi⟩, rfl, fun m z hm hz => no9 hm hi hz, ?_⟩
    refine ⟨pw, _, _, .str wd9[i], rfl, rfl, .of kw, at_of (j := i) rfl ew, ?_⟩
    exact q1 _ _ (List.getElem?_eq_getElem lw) (s3.trans u4)
theorem lat_0 {f fa S Po : Addr} {cs : Nat → Addr} {fd fda : FuncData} {ps : List Str} {ka : Nat} (F : Fun K "_law_sladder_at" "_law_sladder_at" sLat f fd) (T : Txt K mg cs S) (x1 : PySem.W.exmOne K (.ref (cs 1)) (.ref (cs 1)) = some true) (nf : PySem.W.findIn K (.ref (cs 1)) "at" = some none) (kpA : PySem.W.keepIn K (.ref fa) = true) (bA : Binds K fda ps []) (GA : Gx2.FnX P w K mg base (L2.CX P w) ka fa fda ps (spBad (cs 1) Po 0)) :
    Gx2.FnX P w K mg base CX0 (ka + 1) f fd ["act"] (spLtB fa Po 0) := by
  have XF : XfC K (cs 1) := ⟨(T.ec 1 (by decide)).hg, (T.ec 1 (by decide)).hk, (T.ec 1 (by decide)).hs, (T.ec 1 (by decide)).hd⟩
  refine Gx2.okX F scLat (fun vs H Q E h => ?_) (fun cdv A outer s H vs Q E gd0 hr h => ?_)
  · obtain ⟨t, b, L, css, ds, zs, rfl, _⟩ := h
    rfl
  · obtain ⟨t, b, L, css, ds, zs, rfl, ht, lz, bad, q⟩ := h
    obtain rfl : zs = [] := List.eq_nil_of_length_eq_zero (by first | exact lz | (simp only [List.length_cons] at lz; omega))
    have hrA : Room ka _ := hr
    have gd : (A.deeper (envOfC "_law_sladder_at" (defScope sLat) s.heap.objs.size f cdv)).guards = some [] := gd0
    refine ⟨_, (Evl.pss_cut (ps_set (i := 1) scLat.nd rfl (.inl rfl) (pe_un un_neg pe_int))
      (Evl.pss_cut (ps_try_as (i := 2) rfl rfl scLat.nd rfl rfl ⟨rfl, by decide, .inl (T.g 1 _ rfl)⟩ Rk.takes0 (fun W pn xe tk _ => (pss_one (ps_if (pt_cmpR op_eq (pe_callB (call_len_seqB (K := K) rfl) (by rfl) T.z_len (by decide +kernel) (pa_cons (pv 0) pa_nil)) pe_int (nomark _)) (pss_one (ps_expr (Rk.pe_callV GA gd hrA kpA bA (fun σ => passAt tk σ) (pe_ix (ix_tupB (K := K) rfl) (pv 0) pe_int (fun _ _ => rfl)) (pa_cons (pe_ix (ix_tupB (K := K) rfl) (pv 0) pe_int (fun _ _ => rfl)) (pa_cons (pe_ix (ix_tupB (K := K) rfl) (pv 0) pe_int (fun _ _ => rfl)) pa_nil))))) pss_never))) (fun a oe cls d pn hz hf => (pss_one (ps_set (i := 1) scLat.nd rfl (.inl rfl) (pe_xf XF nf hz hf (pv 2))))))
      (pss_one (ps_ret (pv 1))))), ?_⟩
    refine Evl.q_cut (M := fun σ' H' => σ' = [some (.ref t), some (.int (-1)), none] ∧ H' = H) ⟨_, rfl, rfl, rfl⟩ ?_
    rintro σ' H' ⟨rfl, rfl⟩
    refine Evl.q_cut (M := fun σ' H1 => ∃ (rows : List Rw) (cls : List (List Int)), σ' = [some (.ref t), some (.int (rows.length : Nat)), none] ∧ Ke Nof H' H1 ∧ Ahead css ds rows cls) ?_ ?_
    · skip
      refine ⟨_, rfl, t, _, rfl, .inr (.of ht), rfl, true, rfl, ?_⟩
      refine ⟨_, rfl, t, _, 0, .ref fa, rfl, rfl, .of ht, rfl, rfl, ?_⟩
      refine ⟨_, rfl, t, _, 1, b, rfl, rfl, .of ht, rfl, ?_⟩
      refine ⟨_, rfl, t, _, 2, .ref L, rfl, rfl, .of ht, rfl, ?_⟩
      refine ⟨b, L, css, ds, _, rfl, rfl, bad, fun dx rows cls H1 k1 ah hx => ?_⟩
      refine ⟨true, x1, fun _ a na => ?_, fun z => nomatch z⟩
      exact ⟨_, rfl, rfl, rfl, dx, _, _, rfl, hx, rfl, rows, cls, rfl, k1, ah⟩
    rintro σ' H1 ⟨rows, cls, rfl, k1, ah⟩
    exact ⟨_, rfl, q rows cls H1 k1 ah⟩

end
end Wf
namespace Wp
open PySem PySem.Spec PyProof.Rows L2 GxR Nw Dr Kp Se Cl Ct Lr Lp Ll Od Wg Wl Wo Wk Rf Wn Wf
structure Zv (mg : Str → Option Value) : Prop where
  z_len : mg "len" = none
  z_list : mg "list" = none
  z_repr : mg "repr" = none
section
variable {P : Program} {w : World} {K : PySem.W.Frag} {mg : Str → Option Value} {base : Heap}
abbrev sSsp : Stmt := topS 45
theorem scSsp : FnScope ["feed", "book", "ladder", "way", "at", "odd", "row", "thing", "other"] ["feed", "book", "ladder"] (defScope sSsp) := ⟨rfl, rfl, rfl, by decide +kernel, rfl, by decide +kernel, by decide +kernel⟩
/-- a list that is no ladder, and the number of its first fault -/
def spSsp : Sp := fun vs H Q _ => ∃ (fe c : Addr) (b : V) (L : Addr) (css cls : List (List Int)) (rows : List Rw) (B : Nat), vs = [.ref fe, b, .ref L] ∧ Feed H fe c B ∧ B ≤ 2 ^ 50 ∧ BL H b L css rows cls ∧ L ≠ fe ∧ 1 ≤ css.length ∧ css.length ≤ 16 ∧ 1 ≤ rows.length ∧ rows.length ≤ 200 ∧
  ∀ (t T : Addr) (ds : List PyData) (rws : List Rw) (cs : List (List Int)) (H' : Hp), Feed H' fe c (B + 10) → Ke (· = fe) H H' → H' t = some (.tup [.ref T, .int (rws.length : Nat)]) → OdV (· = fe) H' (.ref T) (.list ds) → Th ds → ¬ IsLad css (.list ds) → Ahead css ds rws cs → Q (.ref t) H'
/-- what stands -/
structure Sp1 (fe c : Addr) (b : V) (L : Addr) (css cls : List (List Int)) (rows : List Rw) (B : Nat) (H H' : Hp) : Prop where
  k : Ke (· = fe) H H'
  bl : BL H' b L css rows cls
  fe : Feed H' fe c B
section
variable {fe c : Addr} {b : V} {L : Addr} {css cls : List (List Int)} {rows : List Rw} {B B' : Nat} {H H1 H2 : Hp}
theorem Sp1.ke (x : Sp1 fe c b L css cls rows B H H1) (nL : L ≠ fe) (k : Ke (· = fe) H1 H2) (F : Feed H2 fe c B') : Sp1 fe c b L css cls rows B' H H2 := ⟨x.k.trans k, x.bl.ke k nL, F⟩
theorem Sp1.no (x : Sp1 fe c b L css cls rows B H H1) (k : Ke Nof H1 H2) : Sp1 fe c b L css cls rows B H H2 := ⟨x.k.trans k.all, x.bl.ke k fun z => z, k.feed x.fe⟩
theorem Sp1.mono (x : Sp1 fe c b L css cls rows B H H1) (l : B ≤ B') : Sp1 fe c b L css cls rows B' H H1 := ⟨x.k, x.bl, x.fe.mono l⟩
end
theorem kn_nf {H H' : Hp} {fe c D : Addr} {B : Nat} {us : List V} {ds : List PyData} (F : Feed H fe c B) (od : OdAll (Kn H) H' us ds) : OdAll (· = fe) H' us ds := od.un fun b z => by
  obtain ⟨_, _, _, h, _⟩ := F
  rw [z]
  exact ⟨_, h⟩
theorem none_no {css : List (List Int)} {es : List PyData} : ¬ IsLad css (.list (es ++ [.none])) := fun ⟨rs, cs, e, _⟩ => by
  have e := PyData.list.inj e
  have m : PyData.none ∈ rs.map dat := by
    rw [← e]
    simp
  obtain ⟨r, _, er⟩ := List.mem_map.mp m
  obtain ⟨ds, z⟩ := dat_tup er.symm
  cases z
theorem ok_ssp {f fD fR fT : Addr} {fd fdD fdR fdT : FuncData} {k : Nat} (F : Fun K "_law_sspoilt" "_law_sspoilt" sSsp f fd) (T : Zv mg)
    (FD : Fun K "_law_sdraw" "_law_sdraw" sDrw fD fdD) (bD : Binds K fdD ["feed", "many"] []) (gD : mg "_law_sdraw" = some (.ref fD)) (GD : FnOk P w K mg base CX0 2 fD fdD ["feed", "many"] spDrw)
    (FR : Fun K "_law_sodd_rows" "_law_sodd_rows" sSor fR fdR) (bR : Binds K fdR ["n", "number", "row"] []) (gR : mg "_law_sodd_rows" = some (.ref fR)) (GR : FnOk P w K mg base CX0 2 fR fdR ["n", "number", "row"] spSor)
    (FT : Fun K "_law_stold" "_law_stold" sSto fT fdT) (bT : Binds K fdT ["book", "rows"] []) (gT : mg "_law_stold" = some (.ref fT)) (GT : FnOk P w K mg base CX0 3 fT fdT ["book", "rows"] spSto) :
    FnOk P w K mg base CX0 (k + 4) f fd ["feed", "book", "ladder"] spSsp := by
  refine F.ok scSsp (fun vs H Q E h => ?_) (fun cdv A outer s H vs Q E hr h => ?_)
  · obtain ⟨fe, c, b, L, css, cls, rows, B, rfl, _⟩ := h
    rfl
  · obtain ⟨fe, c, b, L, css, cls, rows, B, rfl, hF, hB, bl, nLf, c1, c16, r1, r200, q⟩ := h
    have hr2 : Room 2 _ := hr.mono (by omega)
    have hr3 : Room 3 _ := hr.mono (by omega)
    refine ⟨_, (Evl.pss_cut (ps_set (i := 3) scSsp.nd rfl (.inl rfl) (pe_call GD hr2 (by rfl) gD FD.kp bD .nil pass0 (pa_cons (pv 0) (pa_cons pe_int pa_nil))))
      (Evl.pss_cut (ps_set (i := 4) scSsp.nd rfl (.inl rfl) (pe_call GD hr2 (by rfl) gD FD.kp bD .nil pass0 (pa_cons (pv 0) (pa_cons (pe_callB call_len_seq (by rfl) T.z_len (by decide +kernel) (pa_cons (pv 2) pa_nil)) pa_nil))))
      (Evl.pss_cut (ps_set (i := 5) scSsp.nd rfl (.inl rfl) (pe_call GR hr2 (by rfl) gR FR.kp bR .nil pass0 (pa_cons (pe_callB call_len_seq (by rfl) T.z_len (by decide +kernel) (pa_cons (pv 1) pa_nil)) (pa_cons (pv 4) (pa_cons (pe_ix ix_list (pv 2) (pv 4) (fun _ _ => rfl)) pa_nil)))))
      (Evl.pss_cut (ps_set (i := 6) scSsp.nd rfl (.inl rfl) (pe_ix ix_list (pv 5) (pe_call GD hr2 (by rfl) gD FD.kp bD .nil pass0 (pa_cons (pv 0) (pa_cons (pe_callB call_len_seq (by rfl) T.z_len (by decide +kernel) (pa_cons (pv 5) pa_nil)) pa_nil))) (fun _ _ => rfl)))
      (Evl.pss_cut (ps_set (i := 7) scSsp.nd rfl (.inl rfl) (pe_op op_catN (pe_op op_catN (pe_slice sl_listN (pv 2) po_none (po_some (pv 4))) (pe_lstN (pa_cons (pv 6) pa_nil))) (pe_slice sl_listN (pv 2) (po_some (pe_op op_add (pv 4) (pe_call GD hr2 (by rfl) gD FD.kp bD .nil pass0 (pa_cons (pv 0) (pa_cons pe_int pa_nil))))) po_none)))
      (Evl.pss_cut (ps_if (pt_cmpR op_lt (pv 3) pe_int (nomark _)) (Evl.pss_cut (ps_set (i := 8) scSsp.nd rfl (.inl rfl) (pe_call GD hr2 (by rfl) gD FD.kp bD .nil pass0 (pa_cons (pv 0) (pa_cons (pe_callB call_len_seq (by rfl) T.z_len (by decide +kernel) (pa_cons (pv 2) pa_nil)) pa_nil))))
      (Evl.pss_cut (ps_set (i := 5) scSsp.nd rfl (.inl rfl) (pe_call GR hr2 (by rfl) gR FR.kp bR .nil pass0 (pa_cons (pe_callB call_len_seq (by rfl) T.z_len (by decide +kernel) (pa_cons (pv 1) pa_nil)) (pa_cons (pv 8) (pa_cons (pe_ix ix_list (pv 2) (pv 8) (fun _ _ => rfl)) pa_nil)))))
      (Evl.pss_cut (ps_set (i := 6) scSsp.nd rfl (.inl rfl) (pe_ix ix_list (pv 5) (pe_call GD hr2 (by rfl) gD FD.kp bD .nil pass0 (pa_cons (pv 0) (pa_cons (pe_callB call_len_seq (by rfl) T.z_len (by decide +kernel) (pa_cons (pv 5) pa_nil)) pa_nil))) (fun _ _ => rfl)))
      (pss_one (ps_set (i := 7) scSsp.nd rfl (.inl rfl) (pe_op op_catN (pe_op op_catN (pe_slice sl_listN (pv 7) po_none (po_some (pv 8))) (pe_lstN (pa_cons (pv 6) pa_nil))) (pe_slice sl_listN (pv 7) (po_some (pv 8)) po_none))))))) pss_nil)
      (Evl.pss_cut (ps_if (pt_cmpR op_eq (pv 3) pe_int (nomark _)) (pss_one (ps_set (i := 7) scSsp.nd rfl (.inl rfl) (pe_callTy call_list_ofN (by rfl) T.z_list (by decide +kernel) (pa_cons (pv 2) pa_nil)))) pss_nil)
      (Evl.pss_cut (ps_if (pt_chain op_lt op_lt pe_int (pv 3) pe_int) (pss_one (ps_set (i := 7) scSsp.nd rfl (.inl rfl) (pe_op op_catN (pv 7) (pe_op op_rep (pe_lstN (pa_cons (pe_tupN (pa_cons pe_str (pa_cons pe_int pa_nil))) pa_nil)) (pe_op op_sub (pe_op op_add pe_int (pe_call GD hr2 (by rfl) gD FD.kp bD .nil pass0 (pa_cons (pv 0) (pa_cons pe_int pa_nil)))) (pe_callB call_len_seq (by rfl) T.z_len (by decide +kernel) (pa_cons (pv 7) pa_nil))))))) pss_nil)
      (Evl.pss_cut (ps_if (pt_cmpR op_eq (pv 3) pe_int (nomark _)) (pss_one (ps_set (i := 7) scSsp.nd rfl (.inl rfl) (pe_lstN pa_nil))) pss_nil)
      (Evl.pss_cut (ps_if (pt_cmpR op_isN (pe_ix ix_tup (pe_call GT hr3 (by rfl) gT FT.kp bT .nil pass0 (pa_cons (pv 1) (pa_cons (pv 7) pa_nil))) pe_int (fun _ _ => rfl)) pe_non (nomark _)) (pss_one (ps_set (i := 7) scSsp.nd rfl (.inl rfl) (pe_op op_catN (pe_slice sl_listN (pv 2) po_none (po_some (pv 4))) (pe_lstN (pa_cons pe_non pa_nil))))) pss_nil)
      (pss_one (ps_ret (pe_tupN (pa_cons (pv 7) (pa_cons (pe_ix ix_tup (pe_call GT hr3 (by rfl) gT FT.kp bT .nil pass0 (pa_cons (pv 1) (pa_cons (pv 7) pa_nil))) pe_int (fun _ _ => rfl)) pa_nil))))))))))))))), ?_⟩
    have ib := bl.ib
    have rb := lad_b ib bl.ld c16 r200
    have orr := or_rows rb
    have lrd : (rows.map dat).length = rows.length := List.length_map ..
    -- an odd row for a place
    have C0 : Sp1 fe c b L css cls rows B H H := ⟨.refl _ _, bl, hF⟩
    -- way
    refine Evl.q_cut (M := fun σ' H' => ∃ wy : Int, σ' = [some (.ref fe), some b, some (.ref L), some (.int wy), none, none, none, none, none] ∧ Sp1 fe c b L css cls rows (B + 1) H H') ?_ ?_
    · exact ⟨_, rfl, fe, c, 10, B, rfl, by decide, by decide, hF, by omega, fun d H1 d0 d1 F1 b1 => ⟨d, rfl, C0.ke nLf (.but hF b1) F1⟩⟩
    clear C0
    rintro σ' H1 ⟨wy, rfl, C1⟩
    -- at
    refine Evl.q_cut (M := fun σ' H' => ∃ m : Nat, σ' = [some (.ref fe), some b, some (.ref L), some (.int wy), some (.int (m : Int)), none, none, none, none] ∧ m < rows.length ∧ Sp1 fe c b L css cls rows (B + 2) H H') ?_ ?_
    · obtain ⟨rvs, hL, aR⟩ := C1.bl.rw
      have lr := aR.1
      refine ⟨_, rfl, _, rfl, L, _, rfl, .inl (.of hL), fe, c, _, _, rfl, by omega, by omega, C1.fe, by omega, fun d H2 d0 d1 F2 b2 => ⟨d.toNat, ?_, by omega, C1.ke nLf (.but C1.fe b2) F2⟩⟩
      rw [Int.toNat_of_nonneg d0]
      rfl
    clear C1 H1
    rintro σ' H1 ⟨m, rfl, hm, C1⟩
    -- odd
    refine Evl.q_cut (M := fun σ' H' => ∃ (D : Addr) (us : List V) (ds : List PyData), σ' = [some (.ref fe), some b, some (.ref L), some (.int wy), some (.int (m : Int)), some (.ref D), none, none, none] ∧ Sp1 fe c b L css cls rows (B + 2) H H' ∧ D ≠ fe ∧ H' D = some (.lst us) ∧ OdAll (· = fe) H' us ds ∧ (∀ d ∈ ds, Or d) ∧ 1 ≤ us.length ∧ us.length ≤ 120) ?_ ?_
    · obtain ⟨rvs, hL, aR⟩ := C1.bl.rw
      have lr := aR.1
      obtain ⟨ba, bvs, rfl, hbt, aB⟩ := bk_all C1.bl.bk
      have lb := aB.1
      have hmv : m < rvs.length := by omega
      obtain ⟨r, hr', rv⟩ := aR.at (List.getElem?_eq_getElem hmv)
      refine ⟨_, rfl, ba, _, rfl, .inr (.of hbt), _, rfl, _, rfl, _, rfl, L, _, _, rvs[m], rfl, rfl, .of hL, at_of (j := m) rfl (List.getElem?_eq_getElem hmv), ?_⟩
      refine ⟨bvs.length, m, _, r, rfl, by omega, by omega, rv, rb r (List.mem_of_getElem? hr'), fun D us N H2 ob n1 n2 => ?_⟩
      obtain ⟨ds, od, al⟩ := ob.od
      exact ⟨D, us, ds, rfl, C1.no (.same ob.s), C1.fe.nf ob.n, ob.h, kn_nf (D := D) C1.fe od, al.mem, by have := ob.l; omega, by have := ob.l; omega⟩
    clear C1 H1
    rintro σ' H1 ⟨D, us, ds, rfl, C1, nD, hD, od, al, u1, u120⟩
    -- row
    refine Evl.q_cut (M := fun σ' H' => ∃ (rv : V) (d : PyData), σ' = [some (.ref fe), some b, some (.ref L), some (.int wy), some (.int (m : Int)), some (.ref D), some rv, none, none] ∧ Sp1 fe c b L css cls rows (B + 3) H H' ∧ OdV (· = fe) H' rv d ∧ Or d) ?_ ?_
    · refine ⟨_, rfl, _, rfl, _, rfl, D, _, rfl, .inl (.of hD), fe, c, _, _, rfl, by omega, by omega, C1.fe, by omega, fun d H2 d0 d1 F2 b2 => ?_⟩
      have k2 : Ke (· = fe) H1 H2 := .but C1.fe b2
      have dl : d.toNat < us.length := by omega
      obtain ⟨e, he, oe⟩ := od.at (List.getElem?_eq_getElem dl)
      refine ⟨D, _, d, us[d.toNat], rfl, rfl, .of (k2.lst hD nD), at_of (j := d.toNat) (by omega) (List.getElem?_eq_getElem dl), ?_⟩
      exact ⟨_, e, rfl, C1.ke nLf k2 F2, oe.ke k2, al e (List.mem_of_getElem? he)⟩
    clear C1 hD od al u1 u120 us ds H1
    rintro σ' H1 ⟨rv, d, rfl, C1, ov, ord⟩
    -- thing
    refine Evl.q_cut (M := fun σ' H' => ∃ (t : Addr) (ds : List PyData), σ' = [some (.ref fe), some b, some (.ref L), some (.int wy), some (.int (m : Int)), some (.ref D), some rv, some (.ref t), none] ∧ Sp1 fe c b L css cls rows (B + 4) H H' ∧ OdV (· = fe) H' (.ref t) (.list ds) ∧ (∀ d ∈ ds, Or d) ∧ ds.length ≤ 401) ?_ ?_
    · obtain ⟨rvs, hL, aR⟩ := C1.bl.rw
      have lr := aR.1
      have c1' := cut_len rvs none (some (m : Int))
      refine ⟨_, rfl, _, rfl, (m : Int), rfl, L, _, rfl, .of hL, fun p1 G1 n1 u1 h1 _ => ?_⟩
      refine ⟨_, rfl, by show 1 ≤ sizeLine; decide, fun p2 G2 n2 u2 h2 _ => ?_⟩
      refine ⟨p1, p2, _, _, rfl, rfl, u2 _ _ h1, h2, small1000' (by show _ + 1 ≤ 1000; omega), fun p3 G3 n3 u3 h3 _ => ?_⟩
      have w3 := u1.trans (u2.trans u3)
      have C3 := C1.no (.same w3)
      have F2' := (C1.no (Ke.same (u1.trans u2))).fe
      refine ⟨_, rfl, _, rfl, _, rfl, fe, c, 2, _, rfl, by decide, by decide, C3.fe, by omega, fun e G4 e0 e1 F4 b4 => ?_⟩
      have k4 : Ke (· = fe) G3 G4 := .but C3.fe b4
      have C4 := C3.ke nLf k4 F4
      have c2' := cut_len rvs (some ((m : Int) + e)) none
      have hL4 := k4.lst (w3 _ _ hL) nLf
      have h34 := k4.lst h3 (F2'.nf n3)
      refine ⟨_, _, rfl, rfl, (m : Int) + e, rfl, L, _, rfl, .of hL4, fun p5 G5 n5 u5 h5 _ => ?_⟩
      refine ⟨p3, p5, _, _, rfl, rfl, u5 _ _ h34, h5, small1000' (by rw [List.length_append]; show _ + 1 + _ ≤ 1000; omega), fun p6 G6 n6 u6 h6 _ => ?_⟩
      have k6 : Ke (· = fe) H1 G6 := ((Ke.same w3).trans k4).trans (.same (u5.trans u6))
      have odr : OdAll (· = fe) G6 rvs (rows.map dat) := (rows_od aR).ke k6
      obtain ⟨e1', o1, m1, i1⟩ := od_cut odr none (some (m : Int))
      obtain ⟨e2', o2, m2, i2⟩ := od_cut odr (some ((m : Int) + e)) none
      have C6 := C4.no (.same (u5.trans u6))
      have F5 := (C4.no (.same u5)).fe
      refine ⟨p6, e1' ++ [d] ++ e2', rfl, C6.mono (by omega), .lst h6 (F5.nf n6) ((o1.cat (.one (ov.ke k6))).cat o2), fun y hy => ?_, by rw [List.length_append, List.length_append]; show _ + 1 + _ ≤ 401; omega⟩
      rcases List.mem_append.mp hy with z | z
      · rcases List.mem_append.mp z with z | z
        · exact orr y (i1 y z)
        · rw [List.mem_singleton.mp z]
          exact ord
      · exact orr y (i2 y z)
    clear C1 ov H1
    rintro σ' H1 ⟨t, ds, rfl, C1, ot, ta, tl⟩
    -- another row
    refine Evl.q_cut (M := fun σ' H' => ∃ (t : Addr) (ds : List PyData) (y5 y6 y8 : Option V), σ' = [some (.ref fe), some b, some (.ref L), some (.int wy), some (.int (m : Int)), y5, y6, some (.ref t), y8] ∧ Sp1 fe c b L css cls rows (B + 6) H H' ∧ OdV (· = fe) H' (.ref t) (.list ds) ∧ (∀ d ∈ ds, Or d) ∧ ds.length ≤ 402) ?_ ?_
    · refine ⟨_, rfl, _, _, rfl, rfl, _, rfl, ite2 (fun _ => ?_) (fun _ => ?_)⟩
      · -- other
        refine Evl.q_cut (M := fun σ' H' => ∃ n : Nat, σ' = [some (.ref fe), some b, some (.ref L), some (.int wy), some (.int (m : Int)), some (.ref D), some rv, some (.ref t), some (.int (n : Int))] ∧ n < rows.length ∧ Sp1 fe c b L css cls rows (B + 5) H H' ∧ Ke (· = fe) H1 H') ?_ ?_
        · obtain ⟨rvs, hL, aR⟩ := C1.bl.rw
          have lr := aR.1
          refine ⟨_, rfl, _, rfl, L, _, rfl, .inl (.of hL), fe, c, _, _, rfl, by omega, by omega, C1.fe, by omega, fun d H2 d0 d1 F2 b2 => ⟨d.toNat, ?_, by omega, C1.ke nLf (.but C1.fe b2) F2, .but C1.fe b2⟩⟩
          rw [Int.toNat_of_nonneg d0]
          rfl
        rintro σ' H2 ⟨n, rfl, hn, C2, k2⟩
        have ot2 := ot.ke k2
        clear C1 ot k2
        -- odd
        refine Evl.q_cut (M := fun σ' H' => ∃ (D : Addr) (us : List V) (es : List PyData), σ' = [some (.ref fe), some b, some (.ref L), some (.int wy), some (.int (m : Int)), some (.ref D), some rv, some (.ref t), some (.int (n : Int))] ∧ Sp1 fe c b L css cls rows (B + 5) H H' ∧ D ≠ fe ∧ H' D = some (.lst us) ∧ OdAll (· = fe) H' us es ∧ (∀ d ∈ es, Or d) ∧ 1 ≤ us.length ∧ us.length ≤ 120 ∧ OdV (· = fe) H' (.ref t) (.list ds)) ?_ ?_
        · obtain ⟨rvs, hL, aR⟩ := C2.bl.rw
          have lr := aR.1
          obtain ⟨ba, bvs, rfl, hbt, aB⟩ := bk_all C2.bl.bk
          have lb := aB.1
          have hmv : n < rvs.length := by omega
          obtain ⟨r, hr', rv⟩ := aR.at (List.getElem?_eq_getElem hmv)
          refine ⟨_, rfl, ba, _, rfl, .inr (.of hbt), _, rfl, _, rfl, _, rfl, L, _, _, rvs[n], rfl, rfl, .of hL, at_of (j := n) rfl (List.getElem?_eq_getElem hmv), ?_⟩
          refine ⟨bvs.length, n, _, r, rfl, by omega, by omega, rv, rb r (List.mem_of_getElem? hr'), fun D us N H3 ob n1 n2 => ?_⟩
          obtain ⟨es, od, al⟩ := ob.od
          exact ⟨D, us, es, rfl, C2.no (.same ob.s), C2.fe.nf ob.n, ob.h, kn_nf (D := D) C2.fe od, al.mem, by have := ob.l; omega, by have := ob.l; omega, ot2.ke (.same ob.s)⟩
        clear C2 ot2
        rintro σ' H3 ⟨D, us, es, rfl, C3, nD, hD, od, al, u1, u120, ot3⟩
        -- row
        refine Evl.q_cut (M := fun σ' H' => ∃ (rv : V) (d : PyData), σ' = [some (.ref fe), some b, some (.ref L), some (.int wy), some (.int (m : Int)), some (.ref D), some rv, some (.ref t), some (.int (n : Int))] ∧ Sp1 fe c b L css cls rows (B + 6) H H' ∧ OdV (· = fe) H' rv d ∧ Or d ∧ OdV (· = fe) H' (.ref t) (.list ds)) ?_ ?_
        · refine ⟨_, rfl, _, rfl, _, rfl, D, _, rfl, .inl (.of hD), fe, c, _, _, rfl, by omega, by omega, C3.fe, by omega, fun d H4 d0 d1 F4 b4 => ?_⟩
          have k4 : Ke (· = fe) H3 H4 := .but C3.fe b4
          have dl : d.toNat < us.length := by omega
          obtain ⟨e, he, oe⟩ := od.at (List.getElem?_eq_getElem dl)
          refine ⟨D, _, d, us[d.toNat], rfl, rfl, .of (k4.lst hD nD), at_of (j := d.toNat) (by omega) (List.getElem?_eq_getElem dl), ?_⟩
          exact ⟨_, e, rfl, C3.ke nLf k4 F4, oe.ke k4, al e (List.mem_of_getElem? he), ot3.ke k4⟩
        clear C3 hD od al u1 u120 ot3
        rintro σ' H4 ⟨rv, d, rfl, C4, ov, ord, ot4⟩
        -- thing
        cases id ot4 with
        | lst hT nT oT =>
          rename_i xs
          have lx := oT.len
          have c1' := cut_len xs none (some (n : Int))
          have c2' := cut_len xs (some (n : Int)) none
          refine ⟨_, rfl, _, rfl, (n : Int), rfl, t, _, rfl, .of hT, fun p1 G1 n1 u1 h1 _ => ?_⟩
          refine ⟨_, rfl, by show 1 ≤ sizeLine; decide, fun p2 G2 n2 u2 h2 _ => ?_⟩
          refine ⟨p1, p2, _, _, rfl, rfl, u2 _ _ h1, h2, small1000' (by show _ + 1 ≤ 1000; omega), fun p3 G3 n3 u3 h3 _ => ?_⟩
          have w3 := u1.trans (u2.trans u3)
          refine ⟨_, rfl, _, rfl, (n : Int), rfl, t, _, rfl, .of (w3 _ _ hT), fun p5 G5 n5 u5 h5 _ => ?_⟩
          refine ⟨p3, p5, _, _, rfl, rfl, u5 _ _ h3, h5, small1000' (by rw [List.length_append]; show _ + 1 + _ ≤ 1000; omega), fun p6 G6 n6 u6 h6 _ => ?_⟩
          have w6 := w3.trans (u5.trans u6)
          have odt : OdAll (· = fe) G6 xs ds := oT.ke (.same w6)
          have F5 := (C4.no (.same (w3.trans u5))).fe
          have th := od_put odt n (ov.ke (.same w6)) ta ord
          obtain ⟨es, oes, aes, les⟩ := th
          exact ⟨p6, es, _, _, _, rfl, C4.no (.same w6), .lst h6 (F5.nf n6) oes, aes, by omega⟩
      · exact ⟨t, ds, _, _, _, rfl, C1.mono (by omega), ot, ta, by omega⟩
    clear C1 ot ta tl t ds H1
    rintro σ' H1 ⟨t, ds, y5, y6, y8, rfl, C1, ot, ta, tl⟩
    -- the ladder itself
    refine Evl.q_cut (M := fun σ' H' => ∃ (t : Addr) (ds : List PyData), σ' = [some (.ref fe), some b, some (.ref L), some (.int wy), some (.int (m : Int)), y5, y6, some (.ref t), y8] ∧ Sp1 fe c b L css cls rows (B + 6) H H' ∧ OdV (· = fe) H' (.ref t) (.list ds) ∧ (∀ d ∈ ds, Or d) ∧ ds.length ≤ 402) ?_ ?_
    · refine ⟨_, rfl, rfl, _, rfl, ite2 (fun _ => ?_) (fun _ => ?_)⟩
      · obtain ⟨rvs, hL, aR⟩ := C1.bl.rw
        refine ⟨_, rfl, L, _, rfl, .inl (.of hL), fun p G np u hp _ => ?_⟩
        exact ⟨p, _, rfl, C1.no (.same u), .lst hp (C1.fe.nf np) ((rows_od aR).ke (.same u)), orr, by omega⟩
      · exact ⟨t, ds, rfl, C1, ot, ta, tl⟩
    clear C1 ot ta tl t ds H1
    rintro σ' H1 ⟨t, ds, rfl, C1, ot, ta, tl⟩
    -- many rows
    refine Evl.q_cut (M := fun σ' H' => ∃ (t : Addr) (ds : List PyData), σ' = [some (.ref fe), some b, some (.ref L), some (.int wy), some (.int (m : Int)), y5, y6, some (.ref t), y8] ∧ Sp1 fe c b L css cls rows (B + 7) H H' ∧ OdV (· = fe) H' (.ref t) (.list ds) ∧ Th ds) ?_ ?_
    · refine ⟨_, rfl, _, _, rfl, rfl, decide (2 < wy), rfl, ?_⟩
      by_cases w2 : 2 < wy
      · rw [decide_eq_true w2]
        refine ⟨_, _, rfl, rfl, _, rfl, ite2 (fun _ => ?_) (fun _ => ⟨t, ds, rfl, C1.mono (by omega), ot, ta, by omega⟩)⟩
        cases id ot with
        | lst hT nT oT =>
          rename_i xs
          have lx := oT.len
          refine ⟨_, rfl, by show 2 ≤ sizeLine; decide, fun p1 G1 n1 u1 h1 _ => ?_⟩
          refine ⟨by show 1 ≤ sizeLine; decide, fun p2 G2 n2 u2 h2 _ => ?_⟩
          have w2' := u1.trans u2
          have C2 := C1.no (.same w2')
          refine ⟨_, rfl, fe, c, 30, _, rfl, by decide, by decide, C2.fe, by omega, fun e G3 e0 e1 F3 b3 => ?_⟩
          have k3 : Ke (· = fe) G2 G3 := .but C2.fe b3
          have C3 := C2.ke nLf k3 F3
          have hT3 := k3.lst (w2' _ _ hT) nT
          have h13 := k3.tups _ _ (u2 _ _ h1)
          have F1' := (C1.no (Ke.same u1)).fe
          have h23 := k3.lst h2 (F1'.nf n2)
          refine ⟨_, _, rfl, rfl, _, rfl, t, _, rfl, .inl (.of hT3), _, _, rfl, rfl, p2, _, _, rfl, rfl, h23, by omega, by omega, ?_, fun p4 n4 => ?_⟩
          · show 1 * _ ≤ sizeLine
            exact small1000' (by omega)
          have u4 : Same G3 (upd G3 p4 (.lst (List.replicate (201 + e - (xs.length : Int)).toNat [V.ref p1]).flatten)) := same_new n4
          have h4 : (upd G3 p4 (.lst (List.replicate (201 + e - (xs.length : Int)).toNat [V.ref p1]).flatten)) p4 = _ := upd_same
          generalize upd G3 p4 (.lst (List.replicate (201 + e - (xs.length : Int)).toNat [V.ref p1]).flatten) = G4 at u4 h4 ⊢
          have l4 := rep_len [V.ref p1] (201 + e - (xs.length : Int)).toNat
          have l4' : xs.length + (List.replicate (201 + e - (xs.length : Int)).toNat [V.ref p1]).flatten.length ≤ 450 := by
            rw [l4]
            show _ + _ * 1 ≤ 450
            omega
          refine ⟨t, p4, _, _, rfl, rfl, u4 _ _ hT3, h4, small1000' (by omega), fun p5 G5 n5 u5 h5 _ => ?_⟩
          have k5 : Ke (· = fe) H1 G5 := ((Ke.same w2').trans k3).trans (.same (u4.trans u5))
          have C5 := C3.no (.same (u4.trans u5))
          have F4 := (C3.no (Ke.same u4)).fe
          have ob0 : OdAll (· = fe) G5 [V.ref p1] [.tuple [.str "book", .int 0]] := .one (.tup ((u4.trans u5) _ _ h13) (.cons (.str _) (.cons (.int _) .nil)))
          refine ⟨p5, ds ++ (List.replicate (201 + e - (xs.length : Int)).toNat [PyData.tuple [.str "book", .int 0]]).flatten, rfl, C5, .lst h5 (F4.nf n5) ((oT.ke k5).cat (od_rep ob0 _)), .cat ta (fun y hy => by rw [List.mem_singleton.mp (rep_mem hy)]; exact or_b0) ?_⟩
          rw [rep_len]
          show _ + _ * 1 ≤ 500
          omega
      · rw [decide_eq_false w2]
        exact ⟨false, rfl, t, ds, rfl, C1.mono (by omega), ot, ta, by omega⟩
    clear C1 ot ta tl t ds H1
    rintro σ' H1 ⟨t, ds, rfl, C1, ot, th⟩
    -- nothing
    refine Evl.q_cut (M := fun σ' H' => ∃ (t : Addr) (ds : List PyData), σ' = [some (.ref fe), some b, some (.ref L), some (.int wy), some (.int (m : Int)), y5, y6, some (.ref t), y8] ∧ Sp1 fe c b L css cls rows (B + 7) H H' ∧ OdV (· = fe) H' (.ref t) (.list ds) ∧ Th ds) ?_ ?_
    · refine ⟨_, rfl, rfl, _, rfl, ite2 (fun _ => ?_) (fun _ => ?_)⟩
      · refine ⟨Nat.zero_le _, fun p G np u hp _ => ?_⟩
        exact ⟨p, [], rfl, C1.no (.same u), .lst hp (C1.fe.nf np) .nil, fun d hd => (nomatch hd), Nat.zero_le _⟩
      · exact ⟨t, ds, rfl, C1, ot, th⟩
    clear C1 ot th t ds H1
    rintro σ' H1 ⟨t, ds, rfl, C1, ot, th⟩
    -- no ladder
    refine Evl.q_cut (M := fun σ' H' => ∃ (t : Addr) (ds : List PyData), σ' = [some (.ref fe), some b, some (.ref L), some (.int wy), some (.int (m : Int)), y5, y6, some (.ref t), y8] ∧ Sp1 fe c b L css cls rows (B + 7) H H' ∧ OdV (· = fe) H' (.ref t) (.list ds) ∧ Th ds ∧ ¬ IsLad css (.list ds)) ?_ ?_
    · refine ⟨_, rfl, _, rfl, _, b, .ref t, css, ds, rfl, C1.bl.bk, ib, ot, th.shaped, th.l60, fun tt p av rs cs H2 k2 np ht hp tld => ?_⟩
      have C2 := C1.no k2
      refine ⟨tt, _, 1, av, rfl, rfl, .of ht, rfl, ?_⟩
      rcases tld.at_ with ⟨rfl, il⟩ | ⟨rfl, il⟩
      · refine ⟨rfl, true, rfl, ?_⟩
        obtain ⟨rvs, hL, aR⟩ := C2.bl.rw
        have lr := aR.1
        have c1' := cut_len rvs none (some (m : Int))
        refine ⟨_, rfl, _, rfl, (m : Int), rfl, L, _, rfl, .of hL, fun p1 G1 n1 u1 h1 _ => ?_⟩
        refine ⟨by show 1 ≤ sizeLine; decide, fun p2 G2 n2 u2 h2 _ => ?_⟩
        refine ⟨p1, p2, _, _, rfl, rfl, u2 _ _ h1, h2, small1000' (by show _ + 1 ≤ 1000; omega), fun p3 G3 n3 u3 h3 _ => ?_⟩
        have w3 := u1.trans (u2.trans u3)
        obtain ⟨e1', o1, m1, i1⟩ := od_cut (((rows_od aR).ke (.same w3) : OdAll (· = fe) G3 rvs (rows.map dat))) none (some (m : Int))
        have F2 := (C2.no (.same (u1.trans u2))).fe
        exact ⟨p3, e1' ++ [.none], rfl, C2.no (.same w3), .lst h3 (F2.nf n3) (o1.cat (.one .non)), .cat (fun d hd => orr d (i1 d hd)) (fun d hd => by rw [List.mem_singleton.mp hd]; exact or_of (by decide +kernel)) (by show _ + 1 ≤ 500; omega), none_no⟩
      · refine ⟨rfl, false, rfl, ?_⟩
        exact ⟨t, ds, rfl, C2, ot.ke k2.all, th, il⟩
    clear C1 ot th t ds H1
    rintro σ' H1 ⟨t, ds, rfl, C1, ot, th, no⟩
    refine ⟨_, rfl, _, rfl, _, rfl, _, b, .ref t, css, ds, rfl, C1.bl.bk, ib, ot, th.shaped, th.l60, fun tt p av rs cs H2 k2 np ht hp tld => ?_⟩
    have C2 := C1.no k2
    refine ⟨tt, _, 1, av, rfl, rfl, .of ht, rfl, ?_⟩
    rcases tld.at_ with ⟨rfl, il⟩ | ⟨rfl, il⟩
    · exact absurd il no
    · refine ⟨by show 2 ≤ sizeLine; decide, fun p3 G3 n3 u3 h3 _ => ?_⟩
      have C3 := C2.no (.same u3)
      exact q p3 t ds rs cs G3 (C3.fe.mono (by omega)) C3.k h3 ((ot.ke k2.all).ke (.same u3)) th no tld.ah
def spAny (As : List (Addr × Nat)) (sp : Addr → Nat → Sp) : Sp := fun vs H Q E => ∃ p ∈ As, sp p.1 p.2 vs H Q E
theorem anyX {CX : CXT} {k : Nat} {f : Addr} {fd : FuncData} {ps : List Str} {As : List (Addr × Nat)} {sp : Addr → Nat → Sp} (h : ∀ p ∈ As, Gx2.FnX P w K mg base CX k f fd ps (sp p.1 p.2)) : Gx2.FnX P w K mg base CX k f fd ps (spAny As sp) :=
  ⟨fun us H Q E ⟨p, hp, z⟩ => (h p hp).len us H Q E z, fun A outer s H args us vs Q E gd room env bind rel ⟨p, hp, z⟩ => (h p hp).run A outer s H args us vs Q E gd room env bind rel z⟩
abbrev sSno : Stmt := topS 50
theorem scSno : FnScope ["acts", "book", "spoilt", "thing", "at", "seen", "act", "many", "call"] ["acts", "book", "spoilt"] (defScope sSno) := ⟨rfl, rfl, rfl, by decide +kernel, rfl, by decide +kernel, by decide +kernel⟩
/-- a def that is asked, and how many things more it takes -/
def ActAt (H : Hp) (v : V) (p : Addr × Nat) : Prop := ∃ a, v = .ref a ∧ H a = some (.tup [.ref p.1, .int (p.2 : Nat)])
theorem ActAt.ke {F : Addr → Prop} {H H' : Hp} {v : V} {p : Addr × Nat} (h : ActAt H v p) (k : Ke F H H') : ActAt H' v p := by
  obtain ⟨a, e, h⟩ := h
  exact ⟨a, e, k.tups _ _ h⟩
def spSno (As : List (Addr × Nat)) (Po : Addr) : Sp := fun vs H Q _ => ∃ (X : Addr) (b : V) (t T : Addr) (css : List (List Int)) (ds : List PyData) (rws : List Rw) (cs : List (List Int)) (avs : List V), vs = [.ref X, b, .ref t] ∧ H X = some (.lst avs) ∧ All2 (ActAt H) avs As ∧ H t = some (.tup [.ref T, .int (rws.length : Nat)]) ∧ Bad Po H b T css ds ∧ Th ds ∧ Ahead css ds rws cs ∧ ∀ H', Ke Nof H H' → Q (.bl true) H'
theorem ok_sno {f fR fL Po : Addr} {fd fdR fdL : FuncData} {As : List (Addr × Nat)} {kr : Nat} (F : Fun K "_law_sno_ladder" "_law_sno_ladder" sSno f fd) (T : Zv mg) (am : ∀ p ∈ As, p.2 = 0 ∨ p.2 = 1 ∨ (2 ≤ p.2 ∧ p.2 ≤ 10))
    (FR : Fun K "_law_srefused" "_law_srefused" sRef fR fdR) (bR : Binds K fdR ["act"] []) (gR : mg "_law_srefused" = some (.ref fR)) (GR : Gx2.FnX P w K mg base CX0 kr fR fdR ["act"] (spAny As fun fa m => spRfB fa Po m))
    (FL : Fun K "_law_sladder_at" "_law_sladder_at" sLat fL fdL) (bL : Binds K fdL ["act"] []) (gL : mg "_law_sladder_at" = some (.ref fL)) (GL : Gx2.FnX P w K mg base CX0 kr fL fdL ["act"] (spAny As fun fa m => spLtB fa Po m)) :
    Gx2.FnX P w K mg base CX0 (kr + 1) f fd ["acts", "book", "spoilt"] (spSno As Po) := by
  refine Gx2.okX F scSno (fun vs H Q E h => ?_) (fun cdv A outer s H vs Q E gd0 hr h => ?_)
  · obtain ⟨X, b, t, Tt, css, ds, rws, cs, avs, rfl, _⟩ := h
    rfl
  · obtain ⟨X, b, t, Tt, css, ds, rws, cs, avs, rfl, hX, aX, ht, bad, th, ah, q⟩ := h
    have gd : (A.deeper (envOfC "_law_sno_ladder" (defScope sSno) s.heap.objs.size f cdv)).guards = some [] := gd0
    have hu : (A.deeper (envOfC "_law_sno_ladder" (defScope sSno) s.heap.objs.size f cdv)).units + 70 < cLine := by
      have := hr.un
      omega
    have hrR : Room kr _ := hr
    refine ⟨_, (PSs.nox (Evl.pss_cut (ps_asg (pv 2) (pg_tup rfl (pgs_cons (pg_name (i := 3) scSno.nd rfl (.inl rfl)) (pgs_cons (pg_name (i := 4) scSno.nd rfl (.inl rfl)) pgs_nil))))
      (Evl.pss_cut (ps_set (i := 5) scSno.nd rfl (.inl rfl) (pe_callB (Rpa.cr_reprA gd hu) (by rfl) T.z_repr (by decide +kernel) (pa_cons (pv 3) pa_nil)))
      (Evl.pss_cut (ps_for PassesOwn.never rfl (pi_list (pv 0)) (pg_tup rfl (pgs_cons (pg_name (i := 6) scSno.nd rfl (.inl rfl)) (pgs_cons (pg_name (i := 7) scSno.nd rfl (.inl rfl)) pgs_nil))) (Evl.pss_cut (ps_set (i := 8) scSno.nd rfl (.inl rfl) (pe_op op_catTN (pe_tupN (pa_cons (pv 6) (pa_cons (pv 1) (pa_cons (pe_callTy call_list_ofN (by rfl) T.z_list (by decide +kernel) (pa_cons (pv 3) pa_nil)) pa_nil)))) (pe_op Tz.op_repA (pe_tupN (pa_cons pe_int pa_nil)) (pv 7))))
      (Evl.pss_cut (ps_if (pt_cmpR op_ne (Gx2.pe_callX GR gd hrR (by rfl) gR FR.kp bR .nil pass0 (pa_cons (pv 8) pa_nil)) pe_str (nomark _)) (pss_one (ps_ret pe_bl)) pss_nil)
      (pss_one (ps_if (PW.pt (pw_or (pt_cmpR op_ne (pe_callB (Rpa.cr_reprA gd hu) (by rfl) T.z_repr (by decide +kernel) (pa_cons (Gx2.pe_callX GL gd hrR (by rfl) gL FL.kp bL .nil pass0 (pa_cons (pv 8) pa_nil)) pa_nil)) (pe_callB (Rpa.cr_reprA gd hu) (by rfl) T.z_repr (by decide +kernel) (pa_cons (pv 4) pa_nil)) (nomark _)) (pw_or1 (pt_cmpR op_ne (pe_callB (Rpa.cr_reprA gd hu) (by rfl) T.z_repr (by decide +kernel) (pa_cons (pe_ix ix_tup (pv 8) pe_int (fun _ _ => rfl)) pa_nil)) (pv 5) (nomark _))))) (pss_one (ps_ret pe_bl)) pss_nil)))))
      (pss_one (ps_ret pe_bl)))))), ?_⟩
    have sm := th.sm
    have li := ah.le
    have si := sm_mid (n := (rws.length : Nat)) (by omega) (by omega)
    refine Evl.q_cut (M := fun σ' H' => σ' = [some (.ref X), some b, some (.ref t), some (.ref Tt), some (.int (rws.length : Nat)), none, none, none, none] ∧ H' = H) ?_ ?_
    · exact ⟨_, rfl, t, _, rfl, .of ht, rfl, _, _, rfl, _, _, rfl, rfl, rfl, rfl⟩
    rintro σ' H' ⟨rfl, rfl⟩
    refine Evl.q_cut (M := fun σ' H1 => σ' = [some (.ref X), some b, some (.ref t), some (.ref Tt), some (.int (rws.length : Nat)), some (.str (PyData.shown (.list ds))), none, none, none] ∧ H1 = H') ?_ ?_
    · exact ⟨_, rfl, .ref Tt, .list ds, rfl, bad.od.dp, sm.sh, sm.nd, Nat.le_trans sm.dp (by decide), Nat.le_trans sm.sz (by decide), rfl, rfl⟩
    rintro σ' H1 ⟨rfl, rfl⟩
    refine Evl.q_cut (M := fun σ' H2 => ∃ y6 y7 y8 : Option V, σ' = [some (.ref X), some b, some (.ref t), some (.ref Tt), some (.int (rws.length : Nat)), some (.str (PyData.shown (.list ds))), y6, y7, y8] ∧ Ke Nof H1 H2) ?_ ?_
    · refine ⟨_, rfl, X, rfl, ⟨_, .of hX⟩, for_list (K := K) (a := X) (xs := avs) (Pv := fun j σ H2 => ∃ y6 y7 y8 : Option V, σ = [some (.ref X), some b, some (.ref t), some (.ref Tt), some (.int (rws.length : Nat)), some (.str (PyData.shown (.list ds))), y6, y7, y8] ∧ Ke Nof H1 H2) ?_ (fun j σ H' _ p => ?_) ?_ ?_⟩
      · exact ⟨none, none, none, rfl, .refl _ _⟩
      · obtain ⟨_, _, _, _, k⟩ := p
        exact .of (k.lst hX fun z => z)
      · rintro j x σ H2 hx ⟨y6, y7, y8, rfl, k2⟩
        obtain ⟨⟨fa, m⟩, hp, a, rfl, ha⟩ := aX.at hx
        have mp := List.mem_of_getElem? hp
        have hm := am _ mp
        have ha2 := k2.tups _ _ ha
        refine ⟨a, _, rfl, .of ha2, rfl, _, _, rfl, _, _, rfl, rfl, ?_⟩
        have bad2 := bad.ke k2
        -- call
        refine Evl.q_cut (M := fun σ' H3 => ∃ (Z cc : Addr) (zs : List V), σ' = [some (.ref X), some b, some (.ref t), some (.ref Tt), some (.int (rws.length : Nat)), some (.str (PyData.shown (.list ds))), some (.ref fa), some (.int (m : Nat)), some (.ref cc)] ∧ Ke Nof H1 H3 ∧ H3 cc = some (.tup (.ref fa :: b :: .ref Z :: zs)) ∧ zs.length = m ∧ Bad Po H3 b Z css ds) ?_ ?_
        · cases id bad2.od with
          | lst hT nT oT =>
            rename_i xs
            refine ⟨_, rfl, _, rfl, _, rfl, Tt, _, rfl, .inl (.of hT), fun Z G1 nZ u1 hZ _ => ?_⟩
            refine ⟨by show 3 ≤ sizeLine; decide, fun c1 G2 n2 u2 h2 _ => ?_⟩
            refine ⟨by show 1 ≤ sizeLine; decide, fun c2 G3 n3 u3 h3 _ => ?_⟩
            have w3 := u1.trans (u2.trans u3)
            have fin : ∀ (zs : List V) (c4 : Addr) (G4 : Hp), Same G3 G4 → G4 c4 = some (.tup zs) → zs.length = m → ∀ (c5 : Addr) (G5 : Hp), Same G4 G5 → G5 c5 = some (.tup ([.ref fa, b, .ref Z] ++ zs)) → ∃ (Z cc : Addr) (zs : List V), [some (V.ref X), some b, some (.ref t), some (.ref Tt), some (.int (rws.length : Nat)), some (.str (PyData.shown (.list ds))), some (.ref fa), some (.int (m : Nat)), some (.ref c5)] = [some (.ref X), some b, some (.ref t), some (.ref Tt), some (.int (rws.length : Nat)), some (.str (PyData.shown (.list ds))), some (.ref fa), some (.int (m : Nat)), some (.ref cc)] ∧ Ke Nof H1 G5 ∧ G5 cc = some (.tup (.ref fa :: b :: .ref Z :: zs)) ∧ zs.length = m ∧ Bad Po G5 b Z css ds := fun zs c4 G4 u4 h4 lz c5 G5 u5 h5 => by
              have w5 : Same H2 G5 := w3.trans (u4.trans u5)
              have b5 := bad2.ke (.same w5)
              exact ⟨Z, c5, zs, rfl, k2.trans (.same w5), h5, lz, ⟨b5.bk, b5.ib, .lst ((u2.trans (u3.trans (u4.trans u5))) _ _ hZ) (fun z => z) (oT.ke (.same w5)), b5.sh, b5.no, b5.to⟩⟩
            refine ⟨_, rfl, c2, (m : Nat), _, rfl, rfl, h3, by simp, ?_⟩
            rcases hm with h0 | h0 | ⟨h2', h10⟩
            · have h0 : m = 0 := h0
              refine .inl ⟨by rw [h0]; rfl, fun c4 G4 n4 u4 h4 _ => ?_⟩
              refine ⟨c1, c4, _, _, rfl, rfl, (u3.trans u4) _ _ h2, h4, by show 3 ≤ sizeLine; decide, fun c5 G5 u5 h5 => ?_⟩
              exact fin [] c4 G4 u4 h4 h0.symm c5 G5 u5 h5
            · have h0 : m = 1 := h0
              refine .inr (.inl ⟨by rw [h0]; rfl, ?_⟩)
              refine ⟨c1, c2, _, _, rfl, rfl, u3 _ _ h2, h3, by show 4 ≤ sizeLine; decide, fun c5 G5 u5 h5 => ?_⟩
              exact fin [.int 0] c2 G3 (Same.refl _) h3 h0.symm c5 G5 u5 h5
            · have h2' : 2 ≤ m := h2'
              have h10 : m ≤ 10 := h10
              refine .inr (.inr ⟨by omega, by omega, by show 1 ≤ 1000; decide, fun c4 G4 u4 h4 => ?_⟩)
              have lz : (List.replicate ((m : Nat) : Int).toNat [V.int 0]).flatten.length = m := by
                rw [rep_len, Int.toNat_natCast]
                show m * 1 = m
                omega
              refine ⟨c1, c4, _, _, rfl, rfl, (u3.trans u4) _ _ h2, h4, small1000' (by rw [lz]; show 3 + m ≤ 1000; omega), fun c5 G5 u5 h5 => ?_⟩
              exact fin _ c4 G4 u4 h4 lz c5 G5 u5 h5
        clear bad2 k2
        rintro σ' H3 ⟨Z, cc, zs, rfl, k3, hcc, lz, bad3⟩
        -- refused as no ladder
        refine Evl.q_cut (M := fun σ' H4 => σ' = [some (.ref X), some b, some (.ref t), some (.ref Tt), some (.int (rws.length : Nat)), some (.str (PyData.shown (.list ds))), some (.ref fa), some (.int (m : Nat)), some (.ref cc)] ∧ Ke Nof H1 H4 ∧ H4 cc = some (.tup (.ref fa :: b :: .ref Z :: zs)) ∧ Bad Po H4 b Z css ds) ?_ ?_
        · refine ⟨_, rfl, (fa, m), mp, cc, b, Z, css, ds, zs, rfl, hcc, lz, bad3, fun H4 k4 => ?_⟩
          exact ⟨rfl, _, rfl, ite2 (fun e => absurd e (by simp)) (fun e => ⟨rfl, k3.trans k4, k4.tups _ _ hcc, bad3.ke k4⟩)⟩
        clear bad3 hcc k3
        rintro σ' H4 ⟨rfl, k4, hcc, bad4⟩
        refine ⟨_, rfl, (fa, m), mp, cc, b, Z, css, ds, zs, rfl, hcc, lz, bad4, fun rows cls H5 k5 ah5 => ?_⟩
        obtain ⟨er, _⟩ := Ahead.one ah ah5
        subst er
        refine ⟨.int (rws.length : Nat), .int (rws.length : Nat), rfl, .int _, si.sh, si.nd, Nat.le_trans si.dp (by decide), Nat.le_trans si.sz (by decide), ?_⟩
        refine ⟨_, rfl, .int (rws.length : Nat), .int (rws.length : Nat), rfl, .int _, si.sh, si.nd, Nat.le_trans si.dp (by decide), Nat.le_trans si.sz (by decide), rfl, _, rfl, ite2 (fun e => absurd e (by simp)) (fun e => ?_)⟩
        refine ⟨_, rfl, cc, _, 2, .ref Z, rfl, rfl, .of (k5.tups _ _ hcc), at_of (j := 2) rfl rfl, .ref Z, .list ds, rfl, (bad4.ke k5).od.dp, sm.sh, sm.nd, Nat.le_trans sm.dp (by decide), Nat.le_trans sm.sz (by decide), ?_⟩
        exact ⟨_, rfl, rfl, _, rfl, ite2 (fun e => absurd e (by simp)) (fun e => ⟨_, _, _, rfl, k4.trans k5⟩)⟩
      · rintro σ H2 ⟨y6, y7, y8, rfl, k2⟩
        exact ⟨y6, y7, y8, rfl, k2⟩
    rintro σ' H2 ⟨y6, y7, y8, rfl, k2⟩
    exact q H2 k2
end
end Wp
namespace Sg
open PySem PySem.Spec PyProof.Rows L2 Nw
/-! ### sorted(a set), sorted(a dict): whole numbers, any number of them; set(xs) of many -/
theorem cr_setLB {X : Cx} (hc : X.calm = true) : CallR X (.type "set") (fun xs H Q => ∃ (a : Addr) (ns : List Int), xs = [.ref a] ∧ SqL X.K H a (ns.map V.int) ∧ ns.length ≤ 2000 ∧ ∀ p H2 n, H p = none → Same H H2 → H2 p = some (SetO X.w p (fun j => decide (j ∈ ns)) n) → n ≤ ns.length → Q (.ref p) H2) := by
  intro pins s σ H xs us Q I r ask
  obtain ⟨a, ns, rfl, hs, hl, q⟩ := ask
  obtain ⟨u, rfl, ru⟩ := Vals.one r
  cases ru
  obtain ⟨its, ri, pl, _⟩ := I.list hs
  have hn : H s.heap.objs.size = none := I.hok.fresh (Nat.le_refl _)
  refine St.set_of_list ns (I.ok.hd hc) (PlainL.isList pl) (by rw [List.toList_toArray]; exact Vals.ints ri) (by unfold scanBound; omega) fun h' tk c R lc k => ?_
  exact ⟨.ref s.heap.objs.size, upd H s.heap.objs.size (SetO X.w s.heap.objs.size (fun j => decide (j ∈ ns)) c), I.laid (t' := tk) k (Nat.le_refl _) (setO_new R), rfl, q _ _ c hn (same_new hn) upd_same lc⟩
theorem cr_sortedSA {X : Cx} (hc : X.calm = true) : CallR X (.builtin "sorted") (fun vs H Q => ∃ (a : Addr) (S : Int → Bool) (n : Nat), vs = [V.ref a] ∧ H a = some (SetO X.w a S n) ∧ ∀ ns : List Int, ns.Pairwise (· < ·) → (∀ k : Int, k ∈ ns ↔ S k = true) → ns.length = n → New H (.lst (ns.map V.int)) Q) := by
  intro pins s σ H vs us Q I r ask
  obtain ⟨a, S, n, rfl, ha, q⟩ := ask
  have R := setO_get I ha
  rw [Vals.ref1 r]
  obtain ⟨o, es, ep, t, ho, hex, hd, g, nd, hm, hb, hf, hn, hr, hl⟩ := R
  refine Calls.call_function_entry kind_sorted plain_sorted entry_sorted (args_sorted1 _) ?_
  unfold Builtin.«sorted»
  refine wpAny_bind (m := checkCount "sorted" 1 1 _) (wpAny_pure (wpAny_bind (collect_set (A := X.A.in1) (I.ok.hd hc) ⟨o, ho, hex.1, hd⟩ hf hb hr hl fun s1 ws k1 hz g1 o1 pm => ?_)))
  have lw : ws.length = n := by
    rw [pm.length_eq, List.length_map, Array.length_toList]
    exact hn
  have lz : ws.length ≤ sizeLine := by
    rw [lw, ← hn]
    unfold scanBound at hb
    exact Nat.le_trans (by omega : es.size ≤ 4096) (by decide)
  have hI : IntsAre ws (ws.map Builtin.Re.reRawOf) := ints_of ws fun v hv => by
    obtain ⟨e, he, z⟩ := List.mem_map.mp (pm.mem_iff.mp hv)
    obtain ⟨k, tk, h1, _⟩ := g e he
    exact ⟨k, tk, z ▸ h1⟩
  have pk : (ws.map Builtin.Re.reRawOf).Perm (es.toList.map keyOf) := by
    have z := pm.map Builtin.Re.reRawOf
    rw [List.map_map] at z
    exact z
  refine wpAny_bind (wpAny_newList ?_ lz)
  have at1 : (s1.heap.push (seqObj "list" ws.toArray 0)).get? s1.heap.objs.size = some (seqObj "list" ws.toArray 0) := Heap.get?_push_size _ rfl
  refine wpAny_bind (wpAny_holding (wpAny_call_entry slot_list_sort ⟨_, at1, rfl⟩ entry_list_sort (SrtO.list_sort_ord SrtO.swo_int at1 lz (fun h2 => SrtO.ints_sortable hI h2) fun out c1 c2 => ⟨_, rfl, ?_⟩) (args_list_sort _)))
  obtain ⟨d1, d2, d3⟩ := SrtO.ints_out hI c1 c2
  obtain ⟨c, hcc⟩ := sortedHeap_at (vs := ws) (out := out.toArray) at1
  have pn : (out.map SrtO.iv).Perm (es.toList.map keyOf) := d2.trans pk
  have up : (out.map SrtO.iv).Pairwise (· < ·) := lt_of_le_nodup _ d3 (pn.nodup_iff.mpr nd)
  have ll : (out.map SrtO.iv).length = n := by
    rw [pn.length_eq, List.length_map, Array.length_toList]
    exact hn
  have hlen : ((out.map SrtO.iv).map V.int).length ≤ sizeLine := by
    rw [List.length_map, ll, ← lw]
    exact lz
  have gone : s.heap.get? s1.heap.objs.size = none := by
    cases e : s.heap.get? s1.heap.objs.size with
    | none => rfl
    | some ob => exact absurd (Heap.lt_size (k1 _ ob e)) (Nat.lt_irrefl _)
  have hn' : H s1.heap.objs.size = none := I.hok.gone gone
  have kept : ∀ b u, s.heap.get? b = some u → (sortedHeap (s1.heap.push (seqObj "list" ws.toArray 0)) s1.heap.objs.size ws out.toArray).get? b = some u := fun b u e => by
    have z := k1 b u e
    have hlt := Heap.lt_size z
    rw [sortedHeap_old (Nat.ne_of_lt hlt) (by rw [size_push']; exact Nat.lt_succ_of_lt hlt)]
    exact Heap.get?_push_of_some _ z
  have J : Inv X pins σ (upd H s1.heap.objs.size (.lst ((out.map SrtO.iv).map V.int))) { s with heap := sortedHeap (s1.heap.push (seqObj "list" ws.toArray 0)) s1.heap.objs.size ws out.toArray, gens := s1.gens, drawn := s1.drawn, toks := s1.toks } :=
    I.call (ch := []) (Un.laid kept hz hn') (I.hok.laid kept hz ⟨hlen, out, c, vals_of_ints d1, hcc⟩) (by rw [g1]; exact I.bare) (fun _ z => nomatch z)
  have e : ({ s1 with heap := sortedHeap (s1.heap.push (seqObj "list" ws.toArray 0)) s1.heap.objs.size ws out.toArray } : Shared) = { s with heap := sortedHeap (s1.heap.push (seqObj "list" ws.toArray 0)) s1.heap.objs.size ws out.toArray, gens := s1.gens, drawn := s1.drawn, toks := s1.toks } := by
    cases s1
    cases s
    cases o1
    rfl
  show wpAny _ _ _ _ _ ({ s1 with heap := sortedHeap (s1.heap.push (seqObj "list" ws.toArray 0)) s1.heap.objs.size ws out.toArray } : Shared)
  rw [e]
  exact wpAny_pure ⟨_, rfl, .ref _, _, J, rfl, (q _ up (fun k => by rw [pn.mem_iff, ← hm k]) ll).to _ hn'⟩
theorem cr_sortedDA {X : Cx} (hc : X.calm = true) : CallR X (.builtin "sorted") (fun xs H Q => ∃ (a : Addr) (kvs : List (Key × V)) (ks : List Int), xs = [.ref a] ∧ H a = some (.dK kvs) ∧ kvs.map (·.1) = ks.map Sum.inl ∧ ∀ ys : List Int, ys.Perm ks → ys.Pairwise (· ≤ ·) → New H (.lst (ys.map V.int)) Q) := by
  intro pins s σ H xs us Q I r ask
  obtain ⟨a, kvs, ks, rfl, ha, hks, q⟩ := ask
  rw [Vals.ref1 r]
  obtain ⟨z, lo, vs, rel, dd⟩ := dk_of I.hok ha
  obtain ⟨ep, hat⟩ := dd.dictAt
  have hkeys : vs.map (·.1) = ks.map Sum.inl := rel.keys.symm.trans hks
  have hl : vs.length = ks.length := by
    have e := congrArg List.length hkeys
    rw [List.length_map, List.length_map] at e
    exact e
  have lv : vs.length ≤ sizeLine := by
    rw [← rel.length]
    exact z
  refine Calls.call_function_entry kind_sorted plain_sorted entry_sorted (args_sorted1 _) ?_
  unfold Builtin.«sorted»
  refine wpAny_bind (m := checkCount "sorted" 1 1 _) (wpAny_pure (wpAny_bind (PySem.W.kdu_collect (A := X.A.in1) (PySem.W.kdl_dict (knd := mixKind X.prog X.w) (kvs := vs) (ep := ep) lo) (I.ok.hd hc) hat lv fun h' tk acc hk hacc => ?_)))
  have hal : acc.toList.length = ks.length := by rw [Array.length_toList, hacc.1, hl]
  have hS : IntsAre acc.toList ks := ints_each hal fun j v e => by
    obtain ⟨k, x, e1, e2⟩ := hacc.2 j v (by rw [← Array.getElem?_toList]; exact e)
    have e3 : (vs.map (·.1))[j]? = some k := by rw [List.getElem?_map, e1]; rfl
    rw [hkeys, List.getElem?_map] at e3
    cases e4 : ks[j]? with
    | none =>
      rw [e4] at e3
      cases e3
    | some y =>
      rw [e4] at e3
      obtain rfl : Sum.inl y = k := Option.some.inj e3
      rcases keyIs_shape (show keyIs (Sum.inl y) v = true from e2) with ⟨i, t, ek, ev⟩ | ⟨z, t, ek, ev⟩
      · cases ek
        exact ⟨y, t, rfl, ev⟩
      · cases ek
  have lz : acc.toList.length ≤ sizeLine := by
    rw [hal, ← hl]
    exact lv
  have I1 : Inv X pins σ H { s with heap := h', toks := tk } := I.kept hk
  refine wpAny_bind (wpAny_newList ?_ lz)
  have at1 : (h'.push (seqObj "list" acc.toList.toArray 0)).get? h'.objs.size = some (seqObj "list" acc.toList.toArray 0) := Heap.get?_push_size _ rfl
  show wpAny _ _ _ _ _ { s with heap := h'.push (seqObj "list" acc.toList.toArray 0), toks := tk }
  refine wpAny_bind (wpAny_holding (wpAny_call_entry slot_list_sort ⟨_, at1, rfl⟩ entry_list_sort (SrtO.list_sort_ord (s := { s with heap := h'.push (seqObj "list" acc.toList.toArray 0), toks := tk }) SrtO.swo_int at1 lz (fun h2 => SrtO.ints_sortable hS h2) fun out c1 c2 => ⟨_, rfl, ?_⟩) (args_list_sort _)))
  obtain ⟨d1, d2, d3⟩ := SrtO.ints_out hS c1 c2
  obtain ⟨c, hcc⟩ := sortedHeap_at (vs := acc.toList) (out := out.toArray) at1
  have hlen : ((out.map SrtO.iv).map V.int).length ≤ sizeLine := by
    rw [List.length_map, d2.length_eq, ← hal]
    exact lz
  refine wpAny_pure ⟨_, rfl, .ref h'.objs.size, upd H h'.objs.size (.lst ((out.map SrtO.iv).map V.int)), I1.laid (t' := tk) (fun b u e => ?_) (Nat.le_refl _) (show ObjOk X.prog X.w _ _ _ (.lst ((out.map SrtO.iv).map V.int)) from ⟨hlen, out, c, vals_of_ints d1, hcc⟩), rfl, (q _ d2 d3).to _ (I1.hok.fresh (Nat.le_refl _))⟩
  have hlt : b < h'.objs.size := Heap.lt_size e
  rw [sortedHeap_old (Nat.ne_of_lt hlt) (by rw [size_push']; exact Nat.lt_succ_of_lt hlt)]
  exact Heap.get?_push_of_some _ e
end Sg
namespace Un
open PySem PySem.Spec PyProof.Rows L2 GxR Nw Dr Kp Se Cl Ct Lr Lp Ll
/-! ### what a row stands on -/
theorem in_ints (k : Int) : ∀ cs : List Int, inV (.int k) (cs.map V.int) = true ↔ k ∈ cs
  | [] => by simp [inV]
  | c :: r => by
    have ih := in_ints k r
    unfold inV at ih ⊢
    rw [List.map_cons, List.any_cons, Bool.or_eq_true, ih, List.mem_cons]
    constructor
    · rintro (h | h)
      · exact .inl (of_decide_eq_true h).symm
      · exact .inr h
    · rintro (h | h)
      · exact .inl (decide_eq_true h.symm)
      · exact .inr h
theorem lt1 {n : Nat} (h : n + 64 < cLine) : n + 1 < cLine := by omega
theorem lad_parts {css cls : List (List Int)} {rows : List Rw} (h : Lad css rows cls) {n i j : Nat} {k : Int} (e : rows[n]? = some (.cut i j k)) : i < n ∧ j < n := by
  have l := (List.getElem?_eq_some_iff.mp e).1
  have l2 : n < cls.length := by rw [← h.1]; exact l
  have := (h.2 n _ _ e (List.getElem?_eq_getElem l2)).parts
  rw [List.length_take] at this
  omega
def Dn (rows : List Rw) : Prop := ∀ (n i j : Nat) (k : Int), rows[n]? = some (.cut i j k) → i < n ∧ j < n ∧ i ≠ j
theorem dn_lad {css cls : List (List Int)} {rows : List Rw} (h : Lad css rows cls) (ib : ∀ c ∈ css, IsCl c) : Dn rows := fun n i j k e => by
  have p := lad_parts h e
  refine ⟨p.1, p.2, fun z => ?_⟩
  subst z
  have l := (List.getElem?_eq_some_iff.mp e).1
  have l2 : n < cls.length := by rw [← h.1]; exact l
  obtain ⟨x, y, h1, h2, h3⟩ := h.2 n _ _ e (List.getElem?_eq_getElem l2)
  cases h1.symm.trans h2
  have ic := h.isCl ib x (List.mem_of_mem_take (List.mem_of_getElem? h1))
  exact ic.opp k h3.2.1 h3.2.2.1
inductive Und (rows : List Rw) (last : Nat) : Nat → Prop
  | self : Und rows last last
  | l {n i j : Nat} {k : Int} : Und rows last n → rows[n]? = some (.cut i j k) → Und rows last i
  | r {n i j : Nat} {k : Int} : Und rows last n → rows[n]? = some (.cut i j k) → Und rows last j
variable {rows : List Rw} {last : Nat}
theorem Und.le (d : Dn rows) {x : Nat} (h : Und rows last x) : x ≤ last := by
  induction h with
  | self => exact Nat.le_refl _
  | l _ e ih => have := d _ _ _ _ e; omega
  | r _ e ih => have := d _ _ _ _ e; omega
theorem Und.closed {S : Nat → Prop} (h0 : S last) (hc : ∀ n i j k, S n → rows[n]? = some (.cut i j k) → S i ∧ S j) {x : Nat} (h : Und rows last x) : S x := by
  induction h with
  | self => exact h0
  | l _ e ih => exact (hc _ _ _ _ ih e).1
  | r _ e ih => exact (hc _ _ _ _ ih e).2
theorem Und.trans {a b x : Nat} (h : Und rows a b) (g : Und rows b x) : Und rows a x := by
  induction g with
  | self => exact h
  | l _ e ih => exact .l ih e
  | r _ e ih => exact .r ih e
theorem und_book {n b x : Nat} (e : rows[n]? = some (.book b)) (h : Und rows n x) : x = n := by
  refine Und.closed (S := fun x => x = n) rfl (fun m i j k z e' => ?_) h
  rw [z, e] at e'
  cases e'
theorem und_cut {n i j x : Nat} {k : Int} (e : rows[n]? = some (.cut i j k)) : Und rows n x ↔ x = n ∨ Und rows i x ∨ Und rows j x := by
  constructor
  · refine Und.closed (S := fun x => x = n ∨ Und rows i x ∨ Und rows j x) (.inl rfl) fun m a b k' z e' => ?_
    rcases z with z | z | z
    · rw [z, e] at e'
      cases e'
      exact ⟨.inr (.inl .self), .inr (.inr .self)⟩
    · exact ⟨.inr (.inl (.l z e')), .inr (.inl (.r z e'))⟩
    · exact ⟨.inr (.inr (.l z e')), .inr (.inr (.r z e'))⟩
  · rintro (z | z | z)
    · exact z ▸ .self
    · exact Und.trans (.l .self e) z
    · exact Und.trans (.r .self e) z
/-- the numbers of a row and all on which it stands -/
structure UL (rows : List Rw) (last : Nat) (ns : List Int) : Prop where
  up : ns.Pairwise (· < ·)
  me : ∀ x : Int, x ∈ ns ↔ ∃ n : Nat, x = n ∧ Und rows last n
theorem UL.one {ns ms : List Int} (a : UL rows last ns) (b : UL rows last ms) : ns = ms := up_unique a.up b.up fun j => (a.me j).trans (b.me j).symm
/-- the book's numbers on which a row stands -/
structure BN (rows : List Rw) (last : Nat) (ns : List Int) : Prop where
  up : ns.Pairwise (· < ·)
  me : ∀ x : Int, x ∈ ns ↔ ∃ n b : Nat, x = b ∧ Und rows last n ∧ rows[n]? = some (.book b)
theorem BN.one {ns ms : List Int} (a : BN rows last ns) (b : BN rows last ms) : ns = ms := up_unique a.up b.up fun j => (a.me j).trans (b.me j).symm
theorem up_nodup : ∀ {ns : List Int}, ns.Pairwise (· < ·) → ns.Nodup := fun h => h.imp fun z => Int.ne_of_lt z
theorem up_of : ∀ {ns : List Int}, ns.Pairwise (· ≤ ·) → ns.Nodup → ns.Pairwise (· < ·)
  | [], _, _ => .nil
  | x :: t, h, n => by
    rw [List.pairwise_cons] at h ⊢
    rw [List.nodup_cons] at n
    exact ⟨fun y hy => by
      have := h.1 y hy
      have : x ≠ y := fun z => n.1 (z ▸ hy)
      omega, up_of h.2 n.2⟩
/-- a list of numbers below a bound, each once -/
theorem nd_len {ns : List Int} {m : Nat} (n : ns.Nodup) (h : ∀ x ∈ ns, 0 ≤ x ∧ x < m) : ns.length ≤ m := by
  have := Lr.len_sub ns ((List.range m).map fun i : Nat => (i : Int)) n fun x hx => by
    obtain ⟨h0, h1⟩ := h x hx
    exact List.mem_map.mpr ⟨x.toNat, List.mem_range.mpr (by omega), by omega⟩
  rwa [List.length_map, List.length_range] at this
theorem UL.len (d : Dn rows) {ns : List Int} (u : UL rows last ns) : ns.length ≤ last + 1 := nd_len (up_nodup u.up) fun x hx => by
  obtain ⟨n, rfl, h⟩ := (u.me x).mp hx
  have := h.le d
  omega
/-! ### a dict's keys -/
theorem keys_in {kvs : List (Key × V)} {ks : List Int} (h : kvs.map (·.1) = ks.map Sum.inl) (n : Int) : (valV kvs (Sum.inl n)).isSome = true ↔ n ∈ ks := by
  rw [← valV_any, List.any_eq_true]
  constructor
  · rintro ⟨kv, hm, hk⟩
    have hk := of_decide_eq_true hk
    have : kv.1 ∈ kvs.map (·.1) := List.mem_map.mpr ⟨kv, hm, rfl⟩
    rw [h, hk] at this
    obtain ⟨m, hm', e⟩ := List.mem_map.mp this
    cases e
    exact hm'
  · intro hn
    have : (Sum.inl n : Key) ∈ kvs.map (·.1) := by
      rw [h]
      exact List.mem_map.mpr ⟨n, hn, rfl⟩
    obtain ⟨kv, hm, e⟩ := List.mem_map.mp this
    exact ⟨kv, hm, decide_eq_true e⟩
theorem keys_put {kvs : List (Key × V)} {ks : List Int} (h : kvs.map (·.1) = ks.map Sum.inl) (nd : ks.Nodup) (n : Int) (v : V) : ∃ ks' : List Int, (putK kvs (Sum.inl n) v).map (·.1) = ks'.map Sum.inl ∧ ks'.Nodup ∧ ∀ x, x ∈ ks' ↔ x ∈ ks ∨ x = n := by
  have ki := keys_in h n
  rw [← valV_any] at ki
  unfold putK
  by_cases z : (kvs.any fun kv => decide (kv.1 = (Sum.inl n : Key))) = true
  · rw [if_pos z]
    refine ⟨ks, ?_, nd, fun x => ⟨.inl, fun y => y.elim id fun e => e ▸ ki.mp z⟩⟩
    rw [List.map_map, ← h]
    refine List.map_congr_left fun kv _ => ?_
    show (if kv.1 = Sum.inl n then (kv.1, v) else kv).1 = kv.1
    split <;> rfl
  · rw [if_neg z]
    refine ⟨ks ++ [n], by rw [List.map_append, List.map_append, h]; rfl, ?_, fun x => by rw [List.mem_append, List.mem_singleton]⟩
    rw [List.nodup_append]
    refine ⟨nd, by simp, fun a ha b hb e => ?_⟩
    rw [List.mem_singleton.mp hb] at e
    exact z (ki.mpr (e ▸ ha))
structure Zn (mg : Str → Option Value) : Prop where
  z_len : mg "len" = none
  z_range : mg "range" = none
  z_reversed : mg "reversed" = none
  z_sorted : mg "sorted" = none
  z_set : mg "set" = none
section
variable {P : Program} {w : World} {K : PySem.W.Frag} {mg : Str → Option Value} {base : Heap}
abbrev sRun : Stmt := topS 25
theorem scRun : FnScope ["ladder", "last", "found", "number", "row"] ["ladder", "last"] (defScope sRun) := ⟨rfl, rfl, rfl, by decide +kernel, rfl, by decide +kernel, by decide +kernel⟩
def spRun : Sp := fun vs H Q _ => ∃ (L : Addr) (rows : List Rw) (last : Nat), vs = [.ref L, .int (last : Nat)] ∧ RwL H L rows ∧ Dn rows ∧ last < rows.length ∧ rows.length ≤ 500 ∧ ∀ ns p H', UL rows last ns → H p = none → Same H H' → H' p = some (.lst (ns.map V.int)) → Q (.ref p) H'
/-- the keys found so far, behind the rows from m on -/
structure Fn (rows : List Rw) (last m : Nat) (ks : List Int) : Prop where
  nd : ks.Nodup
  la : (last : Int) ∈ ks
  so : ∀ x ∈ ks, ∃ n : Nat, x = n ∧ Und rows last n
  cl : ∀ (n i j : Nat) (k : Int), m ≤ n → (n : Int) ∈ ks → rows[n]? = some (.cut i j k) → (i : Int) ∈ ks ∧ (j : Int) ∈ ks
theorem Fn.len (d : Dn rows) {m : Nat} {ks : List Int} (f : Fn rows last m ks) : ks.length ≤ last + 1 := nd_len f.nd fun x hx => by
  obtain ⟨n, rfl, h⟩ := f.so x hx
  have := h.le d
  omega
theorem Fn.ul {ks ns : List Int} (f : Fn rows last 0 ks) (p : ns.Perm ks) (h : ns.Pairwise (· ≤ ·)) : UL rows last ns := ⟨up_of h (p.nodup_iff.mpr f.nd), fun x => by
  rw [p.mem_iff]
  refine ⟨f.so x, fun ⟨n, e, u⟩ => ?_⟩
  rw [e]
  exact Und.closed (S := fun n => (n : Int) ∈ ks) f.la (fun n i j k s e => f.cl n i j k (Nat.zero_le _) s e) u⟩
theorem ok_run {f : Addr} {fd : FuncData} {k : Nat} (F : Fun K "rows_under" "rows_under" sRun f fd) (T : Zn mg) : FnOk P w K mg base CX0 (k + 1) f fd ["ladder", "last"] spRun := by
  refine F.ok scRun (fun vs H Q E h => ?_) (fun cdv A outer s H vs Q E hr h => ?_)
  · obtain ⟨L, rows, last, rfl, _⟩ := h
    rfl
  · obtain ⟨L, rows, last, rfl, ⟨rvs, hL, aR⟩, dn, ll, l5, q⟩ := h
    refine ⟨_, (Evl.pss_cut (ps_set (i := 2) scRun.nd rfl (.inl rfl) (pe_disp (pps_cons (pv 1) pe_bl pps_nil) rfl rfl (by simp) (by decide)))
      (Evl.pss_cut (ps_for PassesOwn.never rfl (pi_revR (by rfl) T.z_reversed (prg_1 (by rfl) T.z_range (pe_op op_add (pv 1) pe_int))) (pg_name (i := 3) scRun.nd rfl (.inl rfl)) (Evl.pss_cut (ps_set (i := 4) scRun.nd rfl (.inl rfl) (pe_ix ix_list (pv 0) (pv 3) (fun _ _ => rfl)))
      (pss_one (ps_if (PW.pt (pw_and (pt_cmp (pc_din (lt1 hr.units) (pv 3) (pv 2))) (pw_and1 (pt_cmpR op_eq (pe_ix ix_tup (pv 4) pe_int (fun _ _ => rfl)) pe_str (nomark _))))) (pss_cons (ps_dput (lt1 hr.units) (pv 2) (pe_ix ix_tup (pv 4) pe_int (fun _ _ => rfl)) pe_bl rfl)
      (pss_one (ps_dput (lt1 hr.units) (pv 2) (pe_ix ix_tup (pv 4) pe_int (fun _ _ => rfl)) pe_bl rfl))) pss_nil))))
      (pss_one (ps_ret (pe_callB (Sg.cr_sortedDA rfl) (by rfl) T.z_sorted (by decide +kernel) (pa_cons (pv 2) pa_nil)))))), ?_⟩
    have lr := aR.1
    refine Evl.q_cut (M := fun σ' H' => ∃ D : Addr, σ' = [some (.ref L), some (.int (last : Nat)), some (.ref D), none, none] ∧ H D = none ∧ Same H H' ∧ H' D = some (.dK [(Sum.inl (last : Int), .bl true)])) ?_ ?_
    · refine fun D nD => ⟨_, rfl, upd_same, [(Sum.inl (last : Int), .bl true)], rfl, by show 1 ≤ 15; decide, D, rfl, nD, fun b o e => ?_, ?_⟩
      · rw [upd_ne (ne_of_none e nD), upd_ne (ne_of_none e nD)]
        exact e
      · rw [upd_same]
        rfl
    rintro σ' H1 ⟨D, rfl, nD, s1, hD⟩
    have nLD : L ≠ D := ne_of_none hL nD
    refine Evl.q_cut (M := fun σ' H' => ∃ (y3 y4 : Option V) (kvs : List (Key × V)) (ks : List Int), σ' = [some (.ref L), some (.int (last : Nat)), some (.ref D), y3, y4] ∧ Same H H' ∧ H' D = some (.dK kvs) ∧ kvs.map (·.1) = ks.map Sum.inl ∧ Fn rows last 0 ks) ?_ ?_
    · refine ⟨_, rfl, _, _, rfl, rfl, _, rfl, by omega, by omega, by omega, by omega, ?_⟩
      have en : ((((last : Nat) : Int) + 1) - 0).toNat = last + 1 := by omega
      rw [en]
      refine for_rangeC (n := last + 1) (Pv := fun i σ H' => ∃ (y3 y4 : Option V) (kvs : List (Key × V)) (ks : List Int), σ = [some (.ref L), some (.int (last : Nat)), some (.ref D), y3, y4] ∧ Same H H' ∧ H' D = some (.dK kvs) ∧ kvs.map (·.1) = ks.map Sum.inl ∧ Fn rows last (last + 1 - i) ks) ?_ ?_ ?_
      · refine ⟨none, none, _, [(last : Int)], rfl, s1, hD, rfl, by simp, List.mem_singleton_self _, fun x hx => ⟨last, List.mem_singleton.mp hx, .self⟩, fun n i j k hn hm e => ?_⟩
        have := List.mem_singleton.mp hm
        omega
      · rintro i σ H2 hi ⟨y3, y4, kvs, ks, rfl, s2, hD2, hk, fn⟩
        obtain ⟨n, hn⟩ : ∃ n, last = i + n := ⟨last - i, by omega⟩
        have e1 : last + 1 - i = n + 1 := by omega
        have e2 : last + 1 - (i + 1) = n := by omega
        have ei : (0 : Int) + ((last + 1 : Nat) : Int) - 1 + (i : Nat) * (-1) = (n : Nat) := by omega
        rw [e1] at fn
        rw [ei, e2]
        have ln : n < rows.length := by omega
        obtain ⟨rv, hrv, a, rfl, ha⟩ := aR.atR (List.getElem?_eq_getElem ln)
        generalize hg : rows[n] = r at ha
        have her : rows[n]? = some r := by rw [← hg]; exact List.getElem?_eq_getElem ln
        have ha2 := s2 _ _ ha
        refine Evl.q_cut (M := fun σ' H' => σ' = [some (.ref L), some (.int (last : Nat)), some (.ref D), some (.int (n : Nat)), some (.ref a)] ∧ H' = H2) ?_ ?_
        · exact ⟨_, rfl, _, rfl, L, _, (n : Nat), _, rfl, rfl, .of (s2 _ _ hL), at_of (j := n) rfl hrv, rfl, rfl⟩
        rintro σ' H' ⟨rfl, rfl⟩
        refine ⟨_, rfl, _, rfl, D, _, rfl, DGet.k (k := Sum.inl (n : Int)) hD2, _, rfl, ?_⟩
        have nDa : a ≠ D := ne_of_none ha nD
        have lk : kvs.length ≤ last + 1 := by
          have e := congrArg List.length hk
          rw [List.length_map, List.length_map] at e
          rw [e]
          exact fn.len dn
        refine ite2 (fun c1 => ?_) (fun c1 => ?_)
        · have inn : (n : Int) ∈ ks := (keys_in hk n).mp c1
          cases r with
          | book b =>
            refine ⟨_, rfl, a, _, 0, .str "book", rfl, rfl, .of ha2, rfl, rfl, false, by simp; decide, ?_⟩
            refine ⟨_, _, kvs, ks, rfl, s2, hD2, hk, fn.nd, fn.la, fn.so, fun m i' j' k' hm hi' e => ?_⟩
            by_cases z : m = n
            · rw [z, her] at e
              cases e
            · exact fn.cl m i' j' k' (by omega) hi' e
          | cut i' j' k' =>
            refine ⟨_, rfl, a, _, 0, .str "cut", rfl, rfl, .of ha2, rfl, rfl, true, by simp, ?_⟩
            obtain ⟨ks1, hk1, nd1, me1⟩ := keys_put hk fn.nd (i' : Int) (.bl true)
            obtain ⟨ks2, hk2, nd2, me2⟩ := keys_put hk1 nd1 (j' : Int) (.bl true)
            obtain ⟨u, e0, hu⟩ := fn.so _ inn
            obtain rfl : n = u := by omega
            refine ⟨_, rfl, _, rfl, a, _, 1, .int (i' : Nat), rfl, rfl, .of ha2, rfl, D, _, rfl, DPut.k (k := Sum.inl (i' : Int)) hD2 (small1000 (by omega)), ?_⟩
            have l1 := length_putK kvs (Sum.inl (i' : Int)) (.bl true)
            refine ⟨_, rfl, _, rfl, a, _, 2, .int (j' : Nat), rfl, rfl, .of (by rw [upd_ne nDa]; exact ha2), rfl, D, _, rfl, DPut.k (k := Sum.inl (j' : Int)) upd_same (small1000 (by omega)), ?_⟩
            have mem : ∀ x : Int, x ∈ ks2 ↔ x ∈ ks ∨ x = i' ∨ x = j' := fun x => by rw [me2, me1, or_assoc]
            refine ⟨_, _, _, ks2, rfl, fun b o e => ?_, upd_same, hk2, nd2, (mem _).mpr (.inl fn.la), fun x hx => ?_, fun m i2 j2 k2 hm hi2 e => ?_⟩
            · rw [upd_ne (ne_of_none e nD), upd_ne (ne_of_none e nD)]
              exact s2 _ _ e
            · rcases (mem x).mp hx with z | z | z
              · exact fn.so x z
              · exact ⟨i', z, .l hu her⟩
              · exact ⟨j', z, .r hu her⟩
            · by_cases z : m = n
              · rw [z, her] at e
                cases e
                exact ⟨(mem _).mpr (.inr (.inl rfl)), (mem _).mpr (.inr (.inr rfl))⟩
              · have lt := dn n i' j' k' her
                rcases (mem m).mp hi2 with y | y | y
                · obtain ⟨h1, h2⟩ := fn.cl m i2 j2 k2 (by omega) y e
                  exact ⟨(mem _).mpr (.inl h1), (mem _).mpr (.inl h2)⟩
                · omega
                · omega
        · have nin : (n : Int) ∉ ks := fun z => c1 ((keys_in hk n).mpr z)
          refine ⟨_, _, kvs, ks, rfl, s2, hD2, hk, fn.nd, fn.la, fn.so, fun m i' j' k' hm hi' e => ?_⟩
          by_cases z : m = n
          · rw [z] at hi'
            exact absurd hi' nin
          · exact fn.cl m i' j' k' (by omega) hi' e
      · rintro σ H2 ⟨y3, y4, kvs, ks, rfl, s2, hD2, hk, fn⟩
        rw [Nat.sub_self] at fn
        exact ⟨y3, y4, kvs, ks, rfl, s2, hD2, hk, fn⟩
    rintro σ' H2 ⟨y3, y4, kvs, ks, rfl, s2, hD2, hk, fn⟩
    exact ⟨_, rfl, D, kvs, ks, rfl, hD2, hk, fun ys pm le p H3 np s3 hp _ => q ys p H3 (fn.ul pm le) (s2.free np) (s2.trans s3) hp⟩
end
end Un
namespace Lo
open PySem PySem.Spec PyProof.Rows L2 GxR Nw Dr Kp Se Cl Ct Lr Lp Ll Un
/-! ### the law's long ladder -/
/-- four says of unlike things -/
structure F4 (s a b c : Int) : Prop where
  bs : 1 ≤ s.natAbs ∧ s.natAbs ≤ 8
  ba : 1 ≤ a.natAbs ∧ a.natAbs ≤ 8
  bb : 1 ≤ b.natAbs ∧ b.natAbs ≤ 8
  bc : 1 ≤ c.natAbs ∧ c.natAbs ≤ 8
  sa : s.natAbs ≠ a.natAbs
  sb : s.natAbs ≠ b.natAbs
  sc : s.natAbs ≠ c.natAbs
  ab : a.natAbs ≠ b.natAbs
  ac : a.natAbs ≠ c.natAbs
  bc' : b.natAbs ≠ c.natAbs
theorem f4_of {ks zs : List Int} (T : Thg ks) (l : ks.length = 4) (e : zs.map (fun z => (z.natAbs : Int)) = ks) : ∃ s a b c, zs = [s, a, b, c] ∧ F4 s a b c := by
  subst e
  rw [List.length_map] at l
  match zs, l with
  | [s, a, b, c], _ =>
    refine ⟨s, a, b, c, rfl, ?_⟩
    have nd := T.nd
    have o := T.one
    simp only [List.map_cons, List.map_nil, List.mem_cons, List.not_mem_nil, or_false, forall_eq_or_imp, forall_eq] at o
    simp only [List.map_cons, List.map_nil, List.nodup_cons, List.mem_cons, List.not_mem_nil, or_false, not_or] at nd
    constructor <;> omega
/-- what the cut of two claims by u tells: the two other says -/
def two (v w : Int) : List Int := if v < w then [v, w] else [w, v]
theorem two_mem {v w x : Int} : x ∈ two v w ↔ x = v ∨ x = w := by
  unfold two
  split
  · simp
  · simp [or_comm]
theorem two_up {v w : Int} (h : v ≠ w) : (two v w).Pairwise (· < ·) := by
  unfold two
  split
  · rename_i z
    simp [z]
  · rename_i z
    have : w < v := by omega
    simp [this]
def cutBy (l m : Nat) (u : Int) : Rw := if 0 < u then .cut l m u else .cut m l (0 - u)
theorem cut_row {css cls : List (List Int)} {l m : Nat} {x y : List Int} {u v w : Int} (e1 : cls[l]? = some x) (e2 : cls[m]? = some y) (hu : u ∈ x) (hx : ∀ j ∈ x, j = u ∨ j = v ∨ j = w) (hy : ∀ j, j ∈ y ↔ j = 0 - u ∨ j = v ∨ j = w) (u0 : 1 ≤ u.natAbs) (v0 : 1 ≤ v.natAbs) (w0 : 1 ≤ w.natAbs) (uv : u.natAbs ≠ v.natAbs) (uw : u.natAbs ≠ w.natAbs) (vw : v.natAbs ≠ w.natAbs) :
    RowCl css cls (cutBy l m u) (two v w) := by
  have key : ∀ (p q : List Int) (k : Int), (k = u ∧ p = x ∧ q = y ∨ k = 0 - u ∧ p = y ∧ q = x) → 0 < k → Comes p q k (two v w) := fun p q k h k0 => by
    have kn : k.natAbs = u.natAbs := by rcases h with ⟨h, _⟩ | ⟨h, _⟩ <;> omega
    have mem : ∀ j, (j ∈ p ∨ j ∈ q) ↔ (j ∈ x ∨ j ∈ y) := fun j => by
      rcases h with ⟨_, rfl, rfl⟩ | ⟨_, rfl, rfl⟩
      · exact Iff.rfl
      · exact or_comm
    have bes : ∀ j, Bes p q k j ↔ j = v ∨ j = w := fun j => by
      constructor
      · rintro ⟨h1, h2⟩
        rcases (mem j).mp h1 with z | z
        · rcases hx j z with z | z | z
          · omega
          · exact .inl z
          · exact .inr z
        · rcases (hy j).mp z with z | z | z
          · omega
          · exact .inl z
          · exact .inr z
      · intro z
        exact ⟨(mem j).mpr (.inr ((hy j).mpr (.inr z))), by rcases z with z | z <;> subst z <;> omega⟩
    refine ⟨by omega, ?_, ?_, fun j h1 h2 => ?_, two_up (by omega), fun j => by rw [two_mem, bes]⟩
    · rcases h with ⟨rfl, rfl, rfl⟩ | ⟨rfl, rfl, rfl⟩
      · exact hu
      · exact (hy _).mpr (.inl rfl)
    · rcases h with ⟨rfl, rfl, rfl⟩ | ⟨rfl, rfl, rfl⟩
      · exact (hy _).mpr (.inl (by omega))
      · rw [show -(0 - u) = u by omega]
        exact hu
    · have := (bes j).mp h1
      have := (bes (-j)).mp h2
      omega
  unfold cutBy
  split
  · rename_i z
    exact ⟨x, y, e1, e2, key x y u (.inl ⟨rfl, rfl, rfl⟩) z⟩
  · rename_i z
    exact ⟨y, x, e2, e1, key y x (0 - u) (.inr ⟨rfl, rfl, rfl⟩) (by omega)⟩
theorem cl_srt {says ns : List Int} (pn : ns.Perm says) (so : ns.Pairwise (· ≤ ·)) (nd : says.Nodup) (bd : ∀ k ∈ says, k ≠ 0 ∧ -8 ≤ k ∧ k ≤ 8) (op : ∀ k ∈ says, -k ∉ says) (l : says.length ≤ 8) : IsCl ns :=
  ⟨up_of so (pn.nodup_iff.mpr nd), fun k hk => bd k (pn.mem_iff.mp hk), fun k hk hn => op k (pn.mem_iff.mp hk) (pn.mem_iff.mp hn), by rw [pn.length_eq]; exact l⟩
def saysOf (s a b c : Int) : List (List Int) := [[s], [0 - s, a, b], [0 - a, b, c], [0 - c, a, b]]
/-- the long ladder's book -/
def Bks (s a b c : Int) (css : List (List Int)) : Prop := css.length = 4 ∧ ∀ (j : Nat) (cs zs : List Int), css[j]? = some cs → (saysOf s a b c)[j]? = some zs → cs.Perm zs ∧ cs.Pairwise (· ≤ ·)
theorem three_cl {x y z : Int} {ns : List Int} (pn : ns.Perm [0 - x, y, z]) (so : ns.Pairwise (· ≤ ·)) (bx : 1 ≤ x.natAbs ∧ x.natAbs ≤ 8) (by' : 1 ≤ y.natAbs ∧ y.natAbs ≤ 8) (bz : 1 ≤ z.natAbs ∧ z.natAbs ≤ 8) (xy : x.natAbs ≠ y.natAbs) (xz : x.natAbs ≠ z.natAbs) (yz : y.natAbs ≠ z.natAbs) : IsCl ns := by
  refine cl_srt pn so ?_ ?_ ?_ (by show 3 ≤ 8; decide)
  · simp only [List.nodup_cons, List.mem_cons, List.not_mem_nil, or_false, not_or]
    refine ⟨⟨by omega, by omega⟩, by omega, id, List.nodup_nil⟩
  · intro k hk
    simp only [List.mem_cons, List.not_mem_nil, or_false] at hk
    omega
  · intro k hk hn
    simp only [List.mem_cons, List.not_mem_nil, or_false] at hk hn
    omega
theorem bks_cl {s a b c : Int} {css : List (List Int)} (f : F4 s a b c) (h : Bks s a b c css) : ∃ c0 c1 c2 c3, css = [c0, c1, c2, c3] ∧ (∀ x ∈ css, IsCl x) ∧ (∀ j, j ∈ c0 ↔ j = s) ∧ (∀ j, j ∈ c1 ↔ j = 0 - s ∨ j = a ∨ j = b) ∧ (∀ j, j ∈ c2 ↔ j = 0 - a ∨ j = b ∨ j = c) ∧ ∀ j, j ∈ c3 ↔ j = 0 - c ∨ j = b ∨ j = a := by
  obtain ⟨l, p⟩ := h
  match css, l with
  | [c0, c1, c2, c3], _ =>
    obtain ⟨p0, o0⟩ := p 0 c0 _ rfl rfl
    obtain ⟨p1, o1⟩ := p 1 c1 _ rfl rfl
    obtain ⟨p2, o2⟩ := p 2 c2 _ rfl rfl
    obtain ⟨p3, o3⟩ := p 3 c3 _ rfl rfl
    refine ⟨c0, c1, c2, c3, rfl, fun x hx => ?_, fun j => ?_, fun j => ?_, fun j => ?_, fun j => ?_⟩
    · have i0 : IsCl c0 := cl_srt p0 o0 (by simp) (fun k hk => by have := List.mem_singleton.mp hk; have := f.bs; omega) (fun k hk hn => by
        have := List.mem_singleton.mp hk
        have := List.mem_singleton.mp hn
        have := f.bs
        omega) (by show 1 ≤ 8; decide)
      have i1 : IsCl c1 := three_cl p1 o1 f.bs f.ba f.bb f.sa f.sb f.ab
      have i2 : IsCl c2 := three_cl p2 o2 f.ba f.bb f.bc f.ab f.ac f.bc'
      have i3 : IsCl c3 := three_cl p3 o3 f.bc f.ba f.bb f.ac.symm f.bc'.symm f.ab
      simp only [List.mem_cons, List.not_mem_nil, or_false] at hx
      rcases hx with rfl | rfl | rfl | rfl <;> assumption
    · rw [p0.mem_iff, List.mem_singleton]
    · rw [p1.mem_iff]
      simp
    · rw [p2.mem_iff]
      simp
    · rw [p3.mem_iff]
      simp only [List.mem_cons, List.not_mem_nil, or_false]
      omega
/-- the rows as they grow -/
structure Gr (s a b c : Int) (css : List (List Int)) (rows : List Rw) (cls : List (List Int)) (last turn : Nat) : Prop where
  ld : Lad css rows cls
  c2 : cls[2]? = css[2]?
  c3 : cls[3]? = css[3]?
  l5 : 5 ≤ rows.length
  tn : turn = 0 ∧ cls[last]? = some (two a b) ∨ turn = 1 ∧ cls[last]? = some (two b c)
theorem gr_0 {s a b c : Int} {css : List (List Int)} (f : F4 s a b c) (h : Bks s a b c css) : ∃ cls, Gr s a b c css [.book 0, .book 1, .book 2, .book 3, cutBy 0 1 s] cls 4 0 := by
  obtain ⟨c0, c1, c2, c3, rfl, _, m0, m1, _, _⟩ := bks_cl f h
  refine ⟨[c0, c1, c2, c3, two a b], ?_, rfl, rfl, by show 5 ≤ 5; decide, .inl ⟨rfl, rfl⟩⟩
  have l0 := Lad.nil [c0, c1, c2, c3]
  have l1 := l0.snoc (show RowCl [c0, c1, c2, c3] [] (.book 0) c0 from rfl)
  have l2 := l1.snoc (show RowCl [c0, c1, c2, c3] ([] ++ [c0]) (.book 1) c1 from rfl)
  have l3 := l2.snoc (show RowCl [c0, c1, c2, c3] ([] ++ [c0] ++ [c1]) (.book 2) c2 from rfl)
  have l4 := l3.snoc (show RowCl [c0, c1, c2, c3] ([] ++ [c0] ++ [c1] ++ [c2]) (.book 3) c3 from rfl)
  exact l4.snoc (cut_row (l := 0) (m := 1) rfl rfl ((m0 s).mpr rfl) (fun j hj => .inl ((m0 j).mp hj)) m1 f.bs.1 f.ba.1 f.bb.1 f.sa f.sb f.ab)
theorem Gr.book {s a b c : Int} {css cls : List (List Int)} {rows : List Rw} {last turn d : Nat} (g : Gr s a b c css rows cls last turn) (l4 : css.length = 4) (hd : d < 4) : ∃ cls', Gr s a b c css (rows ++ [.book d]) cls' last turn := by
  have hl := g.ld.1
  have h5 := g.l5
  refine ⟨cls ++ [css[d]'(by omega)], g.ld.snoc (List.getElem?_eq_getElem (by omega)), ?_, ?_, by rw [List.length_append]; omega, ?_⟩
  · rw [List.getElem?_append_left (by omega)]
    exact g.c2
  · rw [List.getElem?_append_left (by omega)]
    exact g.c3
  · have up : ∀ z, cls[last]? = some z → (cls ++ [css[d]'(by omega)])[last]? = some z := fun z e => by
      rw [List.getElem?_append_left (List.getElem?_eq_some_iff.mp e).1]
      exact e
    rcases g.tn with ⟨t, e⟩ | ⟨t, e⟩
    · exact .inl ⟨t, up _ e⟩
    · exact .inr ⟨t, up _ e⟩
theorem Gr.cut {s a b c : Int} {css cls : List (List Int)} {rows : List Rw} {last turn : Nat} (f : F4 s a b c) (h : Bks s a b c css) (g : Gr s a b c css rows cls last turn) : turn ≤ 1 ∧ ∃ cls', Gr s a b c css (rows ++ [cutBy last (2 + turn) (if turn = 0 then a else c)]) cls' rows.length (1 - turn) := by
  obtain ⟨c0, c1, c2, c3, rfl, _, _, _, m2, m3⟩ := bks_cl f h
  have hl := g.ld.1
  have h5 := g.l5
  have up : ∀ (r : List Int), (cls ++ [r])[2]? = some c2 ∧ (cls ++ [r])[3]? = some c3 ∧ (cls ++ [r])[rows.length]? = some r := fun r => by
    refine ⟨?_, ?_, ?_⟩
    · rw [List.getElem?_append_left (by omega)]
      exact g.c2
    · rw [List.getElem?_append_left (by omega)]
      exact g.c3
    · rw [hl, List.getElem?_append_right (Nat.le_refl _), Nat.sub_self]
      rfl
  rcases g.tn with ⟨rfl, e⟩ | ⟨rfl, e⟩
  · refine ⟨by decide, cls ++ [two b c], g.ld.snoc (cut_row (u := a) e g.c2 (two_mem.mpr (.inl rfl)) (fun j hj => ?_) m2 f.ba.1 f.bb.1 f.bc.1 f.ab f.ac f.bc'), (up _).1, (up _).2.1, by rw [List.length_append]; omega, .inr ⟨rfl, (up _).2.2⟩⟩
    rcases two_mem.mp hj with z | z
    · exact .inl z
    · exact .inr (.inl z)
  · refine ⟨by decide, cls ++ [two a b], ?_, (up _).1, (up _).2.1, by rw [List.length_append]; omega, .inl ⟨rfl, (up _).2.2⟩⟩
    have r := cut_row (css := [c0, c1, c2, c3]) (u := c) (v := b) (w := a) e g.c3 (two_mem.mpr (.inr rfl)) (fun j hj => by
      rcases two_mem.mp hj with z | z
      · exact .inr (.inl z)
      · exact .inl z) m3 f.bc.1 f.bb.1 f.ba.1 f.bc'.symm f.ac.symm f.ab.symm
    have e2 : two b a = two a b := by
      unfold two
      have := f.ab
      split <;> split <;> first | rfl | omega
    rw [e2] at r
    exact g.ld.snoc r
theorem bk_wr {H : Hp} {R : Addr} {v : V} {xs ys : List V} {css : List (List Int)} (h : Bk H v css) (hR : H R = some (.lst xs)) : Bk (upd H R (.lst ys)) v css := by
  obtain ⟨a, vs, e, h, l, t⟩ := h
  refine ⟨a, vs, e, ?_, l, fun i x cs h1 h2 => Lp.TupI.wr (t i x cs h1 h2) hR⟩
  rw [upd_ne (fun z => by rw [z, hR] at h; cases h)]
  exact h
theorem if_any {c : TT} {t u : TS} {D : Ends} {σ : L2.St} {H : Hp} {Ph : Hp → Prop} (hc : ∀ Q : Bool → Hp → Prop, (∀ b H', Ph H' → Q b H') → c σ H Q) (ht : ∀ H', Ph H' → t D σ H') (hu : ∀ H', Ph H' → u D σ H') : tIfS c t u D σ H := hc _ fun b H' p => by
  cases b with
  | true => exact ht H' p
  | false => exact hu H' p
structure Zo (mg : Str → Option Value) : Prop where
  z_len : mg "len" = none
  z_range : mg "range" = none
  z_sorted : mg "sorted" = none
  z_tuple : mg "tuple" = none
theorem call_tuple_ofNB {X : Cx} {K : PySem.W.Frag} (h : X.K = K) : CallR X (.type "tuple") (fun xs H Q => ∃ p ys, xs = [.ref p] ∧ SqL K H p ys ∧ New H (.tup ys) Q) := by subst h; exact call_tuple_ofN
theorem cr_sortedTB {X : Cx} {K : PySem.W.Frag} (h : X.K = K) : CallR X (.builtin "sorted") (fun vs H Q => ∃ (a : Addr) (ns : List Int), vs = [V.ref a] ∧ SqT K H a (ns.map V.int) ∧ ∀ ns' : List Int, ns'.Perm ns → ns'.Pairwise (· ≤ ·) → New H (.lst (ns'.map V.int)) Q) := by subst h; exact St.cr_sortedT
section
variable {P : Program} {w : World} {K : PySem.W.Frag} {mg : Str → Option Value} {base : Heap}
abbrev sScb : Stmt := topS 51
theorem scScb : FnScope ["one", "other", "say"] ["one", "other", "say"] (defScope sScb) := ⟨rfl, rfl, rfl, by decide +kernel, rfl, by decide +kernel, by decide +kernel⟩
def spScb : Sp := fun vs H Q _ => ∃ (l m : Nat) (u : Int), vs = [.int (l : Nat), .int (m : Nat), .int u] ∧ ∀ p H', H p = none → Same H H' → H' p = some (.tup (cutBy l m u).vs) → Q (.ref p) H'
theorem ok_scb {f : Addr} {fd : FuncData} {k : Nat} (F : Fun K "_law_scut_by" "_law_scut_by" sScb f fd) : FnOk P w K mg base CX0 (k + 1) f fd ["one", "other", "say"] spScb := by
  refine F.ok scScb (fun vs H Q E h => ?_) (fun cdv A outer s H vs Q E hr h => ?_)
  · obtain ⟨l, m, u, rfl, _⟩ := h
    rfl
  · obtain ⟨l, m, u, rfl, q⟩ := h
    refine ⟨_, (pss_cons (ps_if (pt_cmpR op_gt (pv 2) pe_int (nomark _)) (pss_one (ps_ret (pe_tupN (pa_cons pe_str (pa_cons (pv 0) (pa_cons (pv 1) (pa_cons (pv 2) pa_nil))))))) pss_nil)
      (pss_one (ps_ret (pe_tupN (pa_cons pe_str (pa_cons (pv 1) (pa_cons (pv 0) (pa_cons (pe_op op_sub pe_int (pv 2)) pa_nil)))))))), ?_⟩
    unfold cutBy at q
    refine ⟨_, rfl, _, _, rfl, rfl, _, rfl, ite2 (fun e => ?_) (fun e => ?_)⟩
    · have e := of_decide_eq_true e
      rw [if_pos (show 0 < u from e)] at q
      exact ⟨_, rfl, _, rfl, _, rfl, by show 4 ≤ sizeLine; decide, fun p H1 np s1 hp _ => q p H1 np s1 hp⟩
    · have e : ¬ (0 < u) := fun z => e (decide_eq_true z)
      rw [if_neg e] at q
      exact ⟨_, rfl, _, rfl, _, rfl, _, _, rfl, rfl, by show 4 ≤ sizeLine; decide, fun p H1 np s1 hp _ => q p H1 np s1 hp⟩
def mR (R : Addr) (m : Nat) : Hp → Nat := fun H => match H R with
  | some (.lst xs) => m - xs.length
  | _ => 0
theorem mR_lst {R : Addr} {m : Nat} {H : Hp} {xs : List V} (h : H R = some (.lst xs)) : mR R m H = m - xs.length := by
  unfold mR
  rw [h]
abbrev sSlo : Stmt := topS 52
abbrev nSlo : List Str := ["feed", "says", "s", "a", "b", "c", "claims", "book", "rows", "many", "last", "turn", "idle", "k", "claim", "number"]
theorem scSlo : FnScope nSlo ["feed"] (defScope sSlo) := ⟨rfl, rfl, rfl, by decide +kernel, rfl, by decide +kernel, by decide +kernel⟩
def spSlo : Sp := fun vs H Q _ => ∃ (f c : Addr) (B : Nat), vs = [.ref f] ∧ Feed H f c B ∧ B ≤ 2 ^ 56 ∧
  ∀ (t L : Addr) (b : V) (css cls : List (List Int)) (rows : List Rw) (H' : Hp), Feed H' f c (B + 1000) → Ke (· = f) H H' → H' t = some (.tup [b, .ref L]) → L ≠ f → L ≠ c → Frs H L → BL H' b L css rows cls → css.length = 4 → 103 ≤ rows.length → rows.length ≤ 200 → Q (.ref t) H'
theorem ok_slo {f fD fT fB : Addr} {fd fdD fdT fdB : FuncData} {k : Nat} (F : Fun K "_law_slong" "_law_slong" sSlo f fd) (T : Zo mg) (FD : Fun K "_law_sdraw" "_law_sdraw" sDrw fD fdD) (bD : Binds K fdD ["feed", "many"] []) (gD : mg "_law_sdraw" = some (.ref fD)) (GD : FnOk P w K mg base CX0 2 fD fdD ["feed", "many"] spDrw)
    (FT : Fun K "_law_sthings" "_law_sthings" sThg fT fdT) (bT : Binds K fdT ["feed", "least", "most"] []) (gT : mg "_law_sthings" = some (.ref fT)) (GT : FnOk P w K mg base CX0 3 fT fdT ["feed", "least", "most"] spThg)
    (FB : Fun K "_law_scut_by" "_law_scut_by" sScb fB fdB) (bB : Binds K fdB ["one", "other", "say"] []) (gB : mg "_law_scut_by" = some (.ref fB)) (GB : FnOk P w K mg base CX0 1 fB fdB ["one", "other", "say"] spScb) :
    FnOk P w K mg base CX0 (k + 4) f fd ["feed"] spSlo := by
  refine F.ok scSlo (fun vs H Q E h => ?_) (fun cdv A outer s H vs Q E hr h => ?_)
  · obtain ⟨f, c, B, rfl, _⟩ := h
    rfl
  · obtain ⟨f, c, B, rfl, hF, hB, q⟩ := h
    have hr1 : Room 1 _ := hr.mono (by omega)
    have hr2 : Room 2 _ := hr.mono (by omega)
    have hr3 : Room 3 _ := hr.mono (by omega)
    refine ⟨_, (Evl.pss_cut (ps_setLc (i := 1) (own := [("k", 13)]) (g := (gName 13)) (tt := tYes) rfl scSlo.nd rfl rfl (sw_true rfl rfl rfl (by decide +kernel)) (pi_list (pe_call GT hr3 (by rfl) gT FT.kp bT .nil pass0 (pa_cons (pv 0) (pa_cons pe_int (pa_cons pe_int pa_nil))))) (blkOk_by (N := nSlo) (sc := defScope sSlo) (by decide +kernel)) (fun _ _ _ _ _ => (pg_name (i := 13) scSlo.nd rfl (.inl rfl))) (fun _ _ _ _ _ => pts_nil) (fun _ _ _ _ _ => (pe_ix (ix_listB (K := K) rfl) (pe_lstN (pa_cons (pv 13) (pa_cons (pe_op op_sub pe_int (pv 13)) pa_nil))) (pe_call GD hr2 (by rfl) gD FD.kp bD .nil pass0 (pa_cons (pv 0) (pa_cons pe_int pa_nil))) (fun _ _ => rfl))))
      (Evl.pss_cut (ps_asg (pv 1) (pg_lst rfl (pgs_cons (pg_name (i := 2) scSlo.nd rfl (.inl rfl)) (pgs_cons (pg_name (i := 3) scSlo.nd rfl (.inl rfl)) (pgs_cons (pg_name (i := 4) scSlo.nd rfl (.inl rfl)) (pgs_cons (pg_name (i := 5) scSlo.nd rfl (.inl rfl)) pgs_nil))))))
      (Evl.pss_cut (ps_set (i := 6) scSlo.nd rfl (.inl rfl) (pe_lstN (pa_cons (pe_tupN (pa_cons (pv 2) pa_nil)) (pa_cons (pe_tupN (pa_cons (pe_op op_sub pe_int (pv 2)) (pa_cons (pv 3) (pa_cons (pv 4) pa_nil)))) (pa_cons (pe_tupN (pa_cons (pe_op op_sub pe_int (pv 3)) (pa_cons (pv 4) (pa_cons (pv 5) pa_nil)))) (pa_cons (pe_tupN (pa_cons (pe_op op_sub pe_int (pv 5)) (pa_cons (pv 3) (pa_cons (pv 4) pa_nil)))) pa_nil))))))
      (Evl.pss_cut (ps_set (i := 7) scSlo.nd rfl (.inl rfl) (pe_callTy call_tuple_ofN (by rfl) T.z_tuple (by decide +kernel) (pa_cons (pe_lc (own := [("claim", 14)]) (g := (gName 14)) (tt := tYes) rfl scSlo.nd (pi_list (pv 6)) (blkOk_by (N := nSlo) (sc := defScope sSlo) (by decide +kernel)) (fun _ _ _ _ _ => (pg_name (i := 14) scSlo.nd rfl (.inl rfl))) (fun _ _ _ _ _ => pts_nil) (fun _ _ _ _ _ => (pe_callTy (T := "tuple") (call_tuple_ofNB (K := K) rfl) (by rfl) T.z_tuple (by decide +kernel) (pa_cons (pe_callB (cr_sortedTB (K := K) rfl) (by rfl) T.z_sorted (by decide +kernel) (pa_cons (pv 14) pa_nil)) pa_nil)))) pa_nil)))
      (Evl.pss_cut (ps_set (i := 8) scSlo.nd rfl (.inl rfl) (pe_op op_catN (pe_lc (own := [("number", 15)]) (g := (gName 15)) (tt := tYes) rfl scSlo.nd (pi_range1 (by rfl) T.z_range (pa_cons pe_int pa_nil)) (blkOk_by (N := nSlo) (sc := defScope sSlo) (by decide +kernel)) (fun _ _ _ _ _ => (pg_name (i := 15) scSlo.nd rfl (.inl rfl))) (fun _ _ _ _ _ => pts_nil) (fun _ _ _ _ _ => (pe_tupN (pa_cons pe_str (pa_cons (pv 15) pa_nil))))) (pe_lstN (pa_cons (pe_call GB hr1 (by rfl) gB FB.kp bB .nil pass0 (pa_cons pe_int (pa_cons pe_int (pa_cons (pv 2) pa_nil)))) pa_nil))))
      (Evl.pss_cut (ps_set (i := 9) scSlo.nd rfl (.inl rfl) (pe_ix ix_list (pe_lstN (pa_cons pe_int (pa_cons (pe_op op_add pe_int (pe_call GD hr2 (by rfl) gD FD.kp bD .nil pass0 (pa_cons (pv 0) (pa_cons pe_int pa_nil)))) pa_nil))) (pe_call GD hr2 (by rfl) gD FD.kp bD .nil pass0 (pa_cons (pv 0) (pa_cons pe_int pa_nil))) (fun _ _ => rfl)))
      (Evl.pss_cut (ps_asg (pe_tupN (pa_cons pe_int (pa_cons pe_int pa_nil))) (pg_tup rfl (pgs_cons (pg_name (i := 10) scSlo.nd rfl (.inl rfl)) (pgs_cons (pg_name (i := 11) scSlo.nd rfl (.inl rfl)) pgs_nil))))
      (Evl.pss_cut (ps_set (i := 12) scSlo.nd rfl (.inl rfl) (pe_call GD hr2 (by rfl) gD FD.kp bD .nil pass0 (pa_cons (pv 0) (pa_cons pe_int pa_nil))))
      (Evl.pss_cut (ps_while PassesOwn.never (pt_cmpR op_lt (pe_callB call_len_seq (by rfl) T.z_len (by decide +kernel) (pa_cons (pv 8) pa_nil)) (pv 9) (nomark _)) (pss_one (ps_if (PW.pt (pw_and (pt_cmpR op_eq (pv 12) pe_int (nomark _)) (pw_and (pt_cmpR op_lt (pe_callB call_len_seq (by rfl) T.z_len (by decide +kernel) (pa_cons (pv 8) pa_nil)) (pe_op op_sub (pv 9) pe_int) (nomark _)) (pw_and1 (pt_cmpR op_eq (pe_call GD hr2 (by rfl) gD FD.kp bD .nil pass0 (pa_cons (pv 0) (pa_cons pe_int pa_nil))) pe_int (nomark _)))))) (pss_one (ps_expr (pe_bm PySem.F.plainAttrs_list PySem.F.slot_list_append PySem.F.type_list_append mt_append (pv 8) (pa_cons (pe_tupN (pa_cons pe_str (pa_cons (pe_call GD hr2 (by rfl) gD FD.kp bD .nil pass0 (pa_cons (pv 0) (pa_cons pe_int pa_nil))) pa_nil))) pa_nil)))) (pss_cons (ps_expr (pe_bm PySem.F.plainAttrs_list PySem.F.slot_list_append PySem.F.type_list_append mt_append (pv 8) (pa_cons (pe_call GB hr1 (by rfl) gB FB.kp bB .nil pass0 (pa_cons (pv 10) (pa_cons (pe_op op_add pe_int (pv 11)) (pa_cons (pe_ix ix_list (pe_lstN (pa_cons (pv 3) (pa_cons (pv 5) pa_nil))) (pv 11) (fun _ _ => rfl)) pa_nil)))) pa_nil)))
      (pss_one (ps_par (i := 10) (j := 11) (by rfl) scSlo.nd rfl rfl (by decide) rfl rfl (pa_cons (pe_op op_sub (pe_callB call_len_seq (by rfl) T.z_len (by decide +kernel) (pa_cons (pv 8) pa_nil)) pe_int) (pa_cons (pe_op op_sub pe_int (pv 11)) pa_nil)) (by rfl)))))))
      (pss_one (ps_ret (pe_tupN (pa_cons (pv 7) (pa_cons (pv 8) pa_nil)))))))))))))), ?_⟩
    -- says
    refine Evl.q_cut (M := fun σ' H' => ∃ (S : Addr) (s a b d : Int), σ' = some (.ref f) :: some (.ref S) :: List.replicate 14 none ∧ Feed H' f c (B + 20) ∧ Ke (· = f) H H' ∧ H' S = some (.lst ([s, a, b, d].map V.int)) ∧ F4 s a b d) ?_ ?_
    · refine ⟨_, rfl, f, c, 4, 4, B, rfl, by decide, by decide, by decide, hF, by omega, fun ks p H1 F1 k1 fr hp Tk l1 l2 => ?_⟩
      have nn := not_f fr hF
      have l4 : ks.length = 4 := by omega
      refine ⟨p, rfl, ⟨_, .of hp⟩, fun D nD => ?_⟩
      have nDf : D ≠ f := F1.nf nD
      have nDc : D ≠ c := F1.nc nD
      refine lc_list (xs := ks.map V.int) (Pv := fun i H' => ∃ zs : List Int, Feed H' f c (B + 10 + i) ∧ Ke (· = f) H1 H' ∧ H' D = some (.lst (zs.map V.int)) ∧ zs.map (fun z => (z.natAbs : Int)) = ks.take i) ⟨[], (F1.upd nDf nDc), (Ke.refl _ _).upd nD, upd_same, rfl⟩ (fun i H' _ z => ?_) ?_ ?_
      · obtain ⟨_, _, k2, _⟩ := z
        exact .of (k2.lst hp nn.1)
      · rintro i x H2 hx ⟨zs, F2, k2, hD, ez⟩
        obtain ⟨y, hy, rfl⟩ := at_int hx
        have li := (List.getElem?_eq_some_iff.mp hy).1
        have y1 := Tk.one y (List.mem_of_getElem? hy)
        have lz : zs.length ≤ 4 := by
          have := congrArg List.length ez
          rw [List.length_map, List.length_take] at this
          omega
        refine ⟨rfl, _, rfl, _, rfl, _, _, rfl, rfl, by show 2 ≤ sizeLine; decide, fun p2 H3 np2 s3 hp2 _ => ?_⟩
        refine ⟨_, rfl, f, c, 2, _, rfl, by decide, by decide, F2.same s3, by omega, fun e H4 e0 e1 F4 b4 => ?_⟩
        have hp4 := (b4 p2 (F2.nf np2)).trans hp2
        have hD4 : H4 D = some (.lst (zs.map V.int)) := (b4 D nDf).trans (s3 _ _ hD)
        have k4 : Ke (· = f) H1 H4 := (k2.trans (.same s3)).trans (.but (F2.same s3) b4)
        have go : ∀ z : Int, (z.natAbs : Int) = y → ∃ zs' : List Int, Feed (upd H4 D (.lst (zs.map V.int ++ [.int z]))) f c (B + 10 + (i + 1)) ∧ Ke (· = f) H1 (upd H4 D (.lst (zs.map V.int ++ [.int z]))) ∧ (upd H4 D (.lst (zs.map V.int ++ [.int z]))) D = some (.lst (zs'.map V.int)) ∧ zs'.map (fun z => (z.natAbs : Int)) = ks.take (i + 1) := fun z ezy =>
          ⟨zs ++ [z], (F4.upd nDf nDc).mono (by omega), k4.upd nD, by rw [upd_same, List.map_append]; rfl, by rw [List.map_append, ez, take_snoc hy, List.map_singleton, ezy]⟩
        rcases (show e = 0 ∨ e = 1 by omega) with rfl | rfl
        · exact ⟨p2, _, 0, .int y, rfl, rfl, .of hp4, rfl, _, hD4, by rw [List.length_map]; exact small1000 (by omega), go y (by omega)⟩
        · exact ⟨p2, _, 1, .int (0 - y), rfl, rfl, .of hp4, rfl, _, hD4, by rw [List.length_map]; exact small1000 (by omega), go (0 - y) (by omega)⟩
      · rintro H2 ⟨zs, F2, k2, hD, ez⟩
        rw [List.length_map, List.take_length] at ez
        obtain ⟨s, a, b, d, rfl, f4⟩ := f4_of Tk l4 ez
        exact ⟨D, s, a, b, d, rfl, F2.mono (by rw [List.length_map]; omega), k1.trans k2, hD, f4⟩
    rintro σ' H1 ⟨S, s, a, b, d, rfl, F1, k1, hS, f4⟩
    -- s, a, b, c
    refine Evl.q_cut (M := fun σ' H' => σ' = some (.ref f) :: some (.ref S) :: some (.int s) :: some (.int a) :: some (.int b) :: some (.int d) :: List.replicate 10 none ∧ H1 = H') ?_ ?_
    · exact ⟨_, rfl, S, _, rfl, .of hS, rfl, _, _, rfl, _, _, rfl, _, _, rfl, _, _, rfl, rfl, rfl, rfl⟩
    rintro σ' H' ⟨rfl, rfl⟩
    -- claims
    refine Evl.q_cut (M := fun σ' H' => ∃ (C : Addr) (cvs : List V), σ' = some (.ref f) :: some (.ref S) :: some (.int s) :: some (.int a) :: some (.int b) :: some (.int d) :: some (.ref C) :: List.replicate 9 none ∧ Same H1 H' ∧ H' C = some (.lst cvs) ∧ All2 (TupI H') cvs (saysOf s a b d)) ?_ ?_
    · refine ⟨_, rfl, by show 1 ≤ sizeLine; decide, fun p0 G0 n0 u0 h0 _ => ?_⟩
      refine ⟨_, rfl, _, _, rfl, rfl, _, rfl, _, rfl, by show 3 ≤ sizeLine; decide, fun p1 G1 n1 u1 h1 _ => ?_⟩
      refine ⟨_, rfl, _, _, rfl, rfl, _, rfl, _, rfl, by show 3 ≤ sizeLine; decide, fun p2 G2 n2 u2 h2 _ => ?_⟩
      refine ⟨_, rfl, _, _, rfl, rfl, _, rfl, _, rfl, by show 3 ≤ sizeLine; decide, fun p3 G3 n3 u3 h3 _ => ?_⟩
      refine ⟨by show 4 ≤ sizeLine; decide, fun C G4 nC u4 hC _ => ?_⟩
      refine ⟨C, _, rfl, u0.trans (u1.trans (u2.trans (u3.trans u4))), hC, rfl, fun i x y hx hy => ?_⟩
      match i, hx, hy with
      | 0, hx, hy =>
        cases hx
        cases hy
        exact ⟨p0, rfl, (u1.trans (u2.trans (u3.trans u4))) _ _ h0⟩
      | 1, hx, hy =>
        cases hx
        cases hy
        exact ⟨p1, rfl, (u2.trans (u3.trans u4)) _ _ h1⟩
      | 2, hx, hy =>
        cases hx
        cases hy
        exact ⟨p2, rfl, (u3.trans u4) _ _ h2⟩
      | 3, hx, hy =>
        cases hx
        cases hy
        exact ⟨p3, rfl, u4 _ _ h3⟩
      | n + 4, hx, _ => cases hx
    rintro σ' H2 ⟨C, cvs, rfl, s2, hC, aC⟩
    have lC : cvs.length = 4 := aC.1
    -- book
    refine Evl.q_cut (M := fun σ' H' => ∃ (bv : V) (css : List (List Int)), σ' = some (.ref f) :: some (.ref S) :: some (.int s) :: some (.int a) :: some (.int b) :: some (.int d) :: some (.ref C) :: some bv :: List.replicate 8 none ∧ Same H1 H' ∧ Bk H' bv css ∧ Bks s a b d css) ?_ ?_
    · refine ⟨_, rfl, C, rfl, ⟨_, .of hC⟩, fun D nD => ?_⟩
      refine lc_list (xs := cvs) (Pv := fun i H' => ∃ (out : List V) (css : List (List Int)), Same H2 H' ∧ H' D = some (.lst out) ∧ All2 (TupI H') out css ∧ css.length = i ∧ ∀ (j : Nat) (cs zs : List Int), css[j]? = some cs → (saysOf s a b d)[j]? = some zs → cs.Perm zs ∧ cs.Pairwise (· ≤ ·)) ⟨[], [], same_new nD, upd_same, .nil, rfl, fun j cs zs h => (nomatch h)⟩ (fun i H' _ z => ?_) ?_ ?_
      · obtain ⟨_, _, z, _⟩ := z
        exact .of (z _ _ hC)
      · rintro i x H3 hx ⟨out, css, s3, hD, aD, lc, pr⟩
        obtain ⟨zs, hz, ta⟩ := aC.at hx
        have li := (List.getElem?_eq_some_iff.mp hx).1
        obtain ⟨p, rfl, hp⟩ := ta.ke (Ke.same (F := Nof) s3)
        refine ⟨rfl, _, rfl, p, zs, rfl, .of hp, fun ns pn so p2 H4 np2 s4 hp2 _ => ?_⟩
        refine ⟨p2, _, rfl, .of hp2, fun p3 H5 np3 s5 hp3 _ => ?_⟩
        have s35 := s4.trans s5
        have hD5 := s35 _ _ hD
        have lo := aD.1
        refine ⟨_, hD5, small1000 (by omega), out ++ [.ref p3], css ++ [ns], fun b o e => ?_, upd_same, ?_, by rw [List.length_append, lc]; rfl, fun j cs zs' h1 h2 => ?_⟩
        · rw [upd_ne (ne_of_none e nD)]
          exact (s3.trans s35) _ _ e
        · exact (aD.imp fun _ _ t => Lp.TupI.wr (t.ke (Ke.same (F := Nof) s35)) hD5).snoc (Lp.TupI.wr ⟨p3, rfl, hp3⟩ hD5)
        · by_cases lj : j < css.length
          · rw [List.getElem?_append_left lj] at h1
            exact pr j cs zs' h1 h2
          · have := (List.getElem?_eq_some_iff.mp h1).1
            rw [List.length_append, List.length_singleton] at this
            obtain rfl : j = i := by omega
            rw [List.getElem?_append_right (by omega), show j - css.length = 0 by omega] at h1
            cases h1
            rw [hz] at h2
            cases h2
            exact ⟨pn, so⟩
      · rintro H3 ⟨out, css, s3, hD, aD, lc, pr⟩
        refine ⟨D, _, rfl, .of hD, fun p H4 np s4 hp _ => ?_⟩
        exact ⟨.ref p, css, rfl, s2.trans (s3.trans s4), ⟨p, out, rfl, hp, aD.1, fun i x cs h1 h2 => (aD.2 i x cs h1 h2).ke (Ke.same (F := Nof) s4)⟩, by rw [lc, lC], pr⟩
    clear hC aC lC s2 H2 cvs
    rintro σ' H2 ⟨bv, css, rfl, s2, hb, bks⟩
    -- rows
    refine Evl.q_cut (M := fun σ' H' => ∃ (R : Addr), σ' = some (.ref f) :: some (.ref S) :: some (.int s) :: some (.int a) :: some (.int b) :: some (.int d) :: some (.ref C) :: some bv :: some (.ref R) :: List.replicate 7 none ∧ Same H1 H' ∧ H1 R = none ∧ RwL H' R [.book 0, .book 1, .book 2, .book 3, cutBy 0 1 s] ∧ Bk H' bv css) ?_ ?_
    · refine ⟨4, rfl, by decide, by decide, fun D nD => ?_⟩
      refine lc_range (Pv := fun i H' => Same H2 H' ∧ ∃ rows, RwL H' D rows ∧ rows = (List.range i).map Rw.book) ⟨same_new nD, [], ⟨[], upd_same, .nil⟩, rfl⟩ ?_ ?_
      · rintro i H3 hi ⟨s3, rows, ⟨rvs, hD, aR⟩, er⟩
        have hi : i < 4 := hi
        refine ⟨rfl, _, rfl, by show 2 ≤ sizeLine; decide, fun p H4 np s4 hp _ => ?_⟩
        have hD4 := s4 _ _ hD
        have lr := aR.1
        rw [er, List.length_map, List.length_range] at lr
        refine ⟨_, hD4, small1000 (by omega), fun b o e => ?_, rows ++ [.book i], ?_, ?_⟩
        · rw [upd_ne (ne_of_none e nD)]
          exact (s3.trans s4) _ _ e
        · refine rw_snoc hD4 (aR.imp fun _ _ r => r.ke (Ke.same (F := Nof) s4)) ⟨p, rfl, ?_⟩
          rw [hp]
          show some (HO.tup [.str "book", .int (0 + (i : Int))]) = some (HO.tup [.str "book", .int (i : Int)])
          rw [Int.zero_add]
        · rw [er, List.range_succ, List.map_append]
          rfl
      · rintro H3 ⟨s3, rows, ⟨rvs, hD, aR⟩, er⟩
        have er : rows = [.book 0, .book 1, .book 2, .book 3] := er
        refine ⟨_, rfl, 0, 1, s, rfl, fun p H4 np s4 hp => ?_⟩
        refine ⟨by show 1 ≤ sizeLine; decide, fun L1 H5 nL1 s5 hL1 _ => ?_⟩
        have lr := aR.1
        have lr : rvs.length = 4 := by rw [lr, er]; rfl
        refine ⟨D, L1, _, _, rfl, rfl, (s4.trans s5) _ _ hD, hL1, Nat.le_trans (by rw [lr]; show 4 + 1 ≤ 1000; decide) (by decide : 1000 ≤ sizeLine), fun R H6 nR s6 hR _ => ?_⟩
        have s36 := s4.trans (s5.trans s6)
        have k36 : Ke Nof H3 H6 := .same s36
        refine ⟨R, rfl, s2.trans (s3.trans s36), (s2.trans (s3.trans (s4.trans s5))).free nR, ⟨_, hR, ?_⟩, (hb.ke (Ke.same (F := Nof) s3)).ke k36⟩
        have := (aR.imp fun _ _ r => r.ke k36).snoc (x := V.ref p) (y := cutBy 0 1 s) ⟨p, rfl, (s5.trans s6) _ _ hp⟩
        rw [er] at this
        exact this
    clear hb s2 H2
    rintro σ' H2 ⟨R, rfl, s2, nR, hR, hb⟩
    have nRf : R ≠ f := F1.nf nR
    have nRc : R ≠ c := F1.nc nR
    have frR : Frs H R := .ke k1 F1 (.of nR)
    have k2 : Ke (· = f) H H2 := k1.trans (.same s2)
    have F2 := F1.same s2
    -- many
    refine Evl.q_cut (M := fun σ' H' => ∃ m : Nat, σ' = some (.ref f) :: some (.ref S) :: some (.int s) :: some (.int a) :: some (.int b) :: some (.int d) :: some (.ref C) :: some bv :: some (.ref R) :: some (.int (m : Nat)) :: List.replicate 6 none ∧ Feed H' f c (B + 22) ∧ Ke (· = f) H2 H' ∧ 103 ≤ m ∧ m ≤ 200) ?_ ?_
    · refine ⟨_, rfl, f, c, 98, _, rfl, by decide, by decide, F2, by omega, fun e H3 e0 e1 F3 b3 => ?_⟩
      refine ⟨_, _, rfl, rfl, by show 2 ≤ sizeLine; decide, fun p H4 np s4 hp _ => ?_⟩
      refine ⟨_, rfl, f, c, 2, _, rfl, by decide, by decide, F3.same s4, by omega, fun g H5 g0 g1 F5 b5 => ?_⟩
      have hp5 := (b5 p (F3.nf np)).trans hp
      have k5 : Ke (· = f) H2 H5 := ((Ke.but F2 b3).trans (.same s4)).trans (.but (F3.same s4) b5)
      rcases (show g = 0 ∨ g = 1 by omega) with rfl | rfl
      · exact ⟨p, _, 0, .int 200, rfl, rfl, .of hp5, rfl, 200, rfl, F5.mono (by omega), k5, by decide, by decide⟩
      · refine ⟨p, _, 1, .int (103 + e), rfl, rfl, .of hp5, rfl, (103 + e).toNat, ?_, F5.mono (by omega), k5, by omega, by omega⟩
        rw [show (((103 + e).toNat : Nat) : Int) = 103 + e by omega]
        rfl
    rintro σ' H3 ⟨m, rfl, F3, k3, m1, m2⟩
    have hR3 := hR.ke k3 nRf
    have hb3 := hb.ke k3
    have kH3 : Ke (· = f) H H3 := k2.trans k3
    clear k3 F2 k2 hb hR s2 H2
    -- last, turn
    refine Evl.q_cut (M := fun σ' H' => σ' = some (.ref f) :: some (.ref S) :: some (.int s) :: some (.int a) :: some (.int b) :: some (.int d) :: some (.ref C) :: some bv :: some (.ref R) :: some (.int (m : Nat)) :: some (.int ((4 : Nat) : Int)) :: some (.int ((0 : Nat) : Int)) :: List.replicate 4 none ∧ Same H3 H') ?_ ?_
    · refine ⟨by show 2 ≤ sizeLine; decide, fun p H4 np s4 hp _ => ?_⟩
      exact ⟨p, _, rfl, .of hp, rfl, _, _, rfl, _, _, rfl, rfl, rfl, s4⟩
    rintro σ' H4 ⟨rfl, s4⟩
    -- idle
    refine Evl.q_cut (M := fun σ' H' => ∃ i : Int, σ' = some (.ref f) :: some (.ref S) :: some (.int s) :: some (.int a) :: some (.int b) :: some (.int d) :: some (.ref C) :: some bv :: some (.ref R) :: some (.int (m : Nat)) :: some (.int ((4 : Nat) : Int)) :: some (.int ((0 : Nat) : Int)) :: some (.int i) :: List.replicate 3 none ∧ Feed H' f c (B + 23) ∧ Ke (· = f) H3 H') ?_ ?_
    · exact ⟨_, rfl, f, c, 2, _, rfl, by decide, by decide, F3.same s4, by omega, fun e H5 e0 e1 F5 b5 => ⟨e, rfl, F5, (Ke.same s4).trans (.but (F3.same s4) b5)⟩⟩
    clear s4 H4
    rintro σ' H4 ⟨i, rfl, F4', k4⟩
    have hR4 := hR3.ke k4 nRf
    have hb4 := hb3.ke k4
    have kH4 : Ke (· = f) H H4 := kH3.trans k4
    clear k4 kH3 hb3 hR3 F3 H3
    obtain ⟨cls0, gr0⟩ := gr_0 f4 bks
    refine Evl.q_cut (M := fun σ' H' => ∃ (y10 y11 : Option V) (rows : List Rw) (cls : List (List Int)), σ' = some (.ref f) :: some (.ref S) :: some (.int s) :: some (.int a) :: some (.int b) :: some (.int d) :: some (.ref C) :: some bv :: some (.ref R) :: some (.int (m : Nat)) :: y10 :: y11 :: some (.int i) :: List.replicate 3 none ∧ Feed H' f c (B + 800) ∧ Ke (· = f) H H' ∧ RwL H' R rows ∧ Bk H' bv css ∧ Lad css rows cls ∧ rows.length = m) ?_ ?_
    · refine while_by (fun σ H' => ∃ (last turn : Nat) (rows : List Rw) (cls : List (List Int)), σ = some (.ref f) :: some (.ref S) :: some (.int s) :: some (.int a) :: some (.int b) :: some (.int d) :: some (.ref C) :: some bv :: some (.ref R) :: some (.int (m : Nat)) :: some (.int (last : Nat)) :: some (.int (turn : Nat)) :: some (.int i) :: List.replicate 3 none ∧ Feed H' f c (B + 30 + 2 * rows.length) ∧ Ke (· = f) H H' ∧ RwL H' R rows ∧ Bk H' bv css ∧ Gr s a b d css rows cls last turn ∧ rows.length ≤ m) (fun _ H' => mR R m H') ?_ ?_ ?_
      · exact ⟨4, 0, _, cls0, rfl, F4'.mono (by omega), kH4, hR4, hb4, gr0, by show 5 ≤ m; omega⟩
      · clear gr0 hR4 hb4 kH4 F4' H4
        rintro σ H4 ⟨last, turn, rows, cls, rfl, F5, k5, ⟨rvs, hR, aR⟩, hb, gr, lm⟩
        have lr := aR.1
        refine ⟨_, rfl, R, _, rfl, .inl (.of hR), _, rfl, _, _, rfl, rfl, _, rfl, ite2 (fun y => ?_) (fun y => ?_)⟩
        · have tl : rows.length < m := by
            have := of_decide_eq_true y
            omega
          have nRH : Ke (· = f) H4 H4 := .refl _ _
          refine if_any (Ph := fun H' => Feed H' f c (B + 30 + 2 * rows.length + 1) ∧ Ke (· = f) H4 H') (fun Q' hQ => ?_) (fun H6 ⟨F6, k6⟩ => ?_) (fun H6 ⟨F6, k6⟩ => ?_)
          · have p0 : Feed H4 f c (B + 30 + 2 * rows.length + 1) ∧ Ke (· = f) H4 H4 := ⟨F5.mono (by omega), nRH⟩
            refine ⟨_, rfl, rfl, _, rfl, ite2 (fun y1 => ?_) (fun y1 => hQ _ _ p0)⟩
            refine ⟨_, rfl, R, _, rfl, .inl (.of hR), _, rfl, _, _, rfl, rfl, _, _, rfl, rfl, _, rfl, ite2 (fun y2 => ?_) (fun y2 => hQ _ _ p0)⟩
            exact ⟨_, rfl, f, c, 6, _, rfl, by decide, by decide, F5, by omega, fun e H6 e0 e1 F6 b6 => ⟨rfl, _, rfl, hQ _ _ ⟨F6, .but F5 b6⟩⟩⟩
          · have hR6 := k6.lst hR nRf
            refine ⟨_, rfl, .inl ⟨rfl, _, .of hR6⟩, _, rfl, f, c, 4, _, rfl, by decide, by decide, F6, by omega, fun e H7 e0 e1 F7 b7 => ?_⟩
            refine ⟨by show 2 ≤ sizeLine; decide, fun p H8 np s8 hp _ => ?_⟩
            have k48 : Ke (· = f) H4 H8 := (k6.trans (.but F6 b7)).trans (.same s8)
            have hR8 := k48.lst hR nRf
            obtain ⟨en, rfl⟩ : ∃ en : Nat, e = en := ⟨e.toNat, by omega⟩
            obtain ⟨cls', gr'⟩ := gr.book (d := en) bks.1 (by omega)
            have a8 := aR.imp fun _ _ r => r.ke k48
            refine ⟨R, _, _, rfl, rfl, hR8, small1000 (by omega), ⟨last, turn, rows ++ [.book en], cls', rfl, ((F7.same s8).upd nRf nRc).mono (by rw [List.length_append, List.length_singleton]; omega), (k5.trans k48).write frR hR8, rw_snoc (r := .book en) hR8 a8 ⟨p, rfl, hp⟩, ?_, gr', by rw [List.length_append, List.length_singleton]; omega⟩, ?_⟩
            · exact bk_wr (hb.ke k48) hR8
            · rw [mR_lst upd_same, mR_lst hR, List.length_append, List.length_singleton]
              omega
          · have hR6 := k6.lst hR nRf
            obtain ⟨t1, cls', gr'⟩ := gr.cut f4 bks
            have fin : ∀ (p2 : Addr) (H8 : Hp) (u : Int), u = (if turn = 0 then a else d) → Ke (· = f) H4 H8 → Feed H8 f c (B + 30 + 2 * rows.length + 1) → H8 p2 = some (.tup (cutBy last (2 + turn) u).vs) → H8 R = some (.lst rvs) ∧ rvs.length < sizeLine ∧ Feed (upd H8 R (.lst (rvs ++ [.ref p2]))) f c (B + 30 + 2 * (rows ++ [cutBy last (2 + turn) u]).length) ∧ Ke (· = f) H (upd H8 R (.lst (rvs ++ [.ref p2]))) ∧ RwL (upd H8 R (.lst (rvs ++ [.ref p2]))) R (rows ++ [cutBy last (2 + turn) u]) ∧ Bk (upd H8 R (.lst (rvs ++ [.ref p2]))) bv css ∧ Gr s a b d css (rows ++ [cutBy last (2 + turn) u]) cls' rows.length (1 - turn) ∧ (rows ++ [cutBy last (2 + turn) u]).length ≤ m ∧ mR R m (upd H8 R (.lst (rvs ++ [.ref p2]))) < mR R m H4 := fun p2 H8 u eu k48 F8 hp2 => by
              subst eu
              have hR8 := k48.lst hR nRf
              refine ⟨hR8, small1000 (by omega), (F8.upd nRf nRc).mono (by rw [List.length_append, List.length_singleton]; omega), (k5.trans k48).write frR hR8, rw_snoc hR8 (aR.imp fun _ _ r => r.ke k48) ⟨p2, rfl, hp2⟩, bk_wr (hb.ke k48) hR8, gr', by rw [List.length_append, List.length_singleton]; omega, ?_⟩
              rw [mR_lst upd_same, mR_lst hR, List.length_append, List.length_singleton]
              omega
            have e9 : ∀ p2 : Addr, (((rvs ++ [V.ref p2]).length : Nat) : Int) - 1 = ((rows.length : Nat) : Int) := fun p2 => by
              rw [List.length_append, List.length_singleton]
              omega
            rcases (show turn = 0 ∨ turn = 1 by omega) with rfl | rfl
            · refine ⟨_, rfl, .inl ⟨rfl, _, .of hR6⟩, _, rfl, _, rfl, _, _, rfl, rfl, _, rfl, _, rfl, by show 2 ≤ sizeLine; decide, fun p H7 np s7 hp _ => ?_⟩
              refine ⟨_, rfl, p, _, 0, .int a, rfl, rfl, .of hp, rfl, last, 2, a, rfl, fun p2 H8 np2 s8 hp2 => ?_⟩
              obtain ⟨h1, h2, h3, h4, h5, h6, h7, h8, h9⟩ := fin p2 H8 a rfl ((k6.trans (.same s7)).trans (.same s8)) ((F6.same s7).same s8) hp2
              refine ⟨R, _, _, rfl, rfl, h1, h2, ?_⟩
              refine ⟨_, rfl, R, _, rfl, .inl (.of upd_same), _, _, rfl, rfl, _, rfl, _, _, rfl, rfl, _, _, rfl, ⟨rows.length, 1, _, cls', ?_, h3, h4, h5, h6, h7, h8⟩, h9⟩
              exact congrArg (fun z : Int => some (.ref f) :: some (.ref S) :: some (.int s) :: some (.int a) :: some (.int b) :: some (.int d) :: some (.ref C) :: some bv :: some (.ref R) :: some (.int (m : Nat)) :: some (.int z) :: some (.int ((1 : Nat) : Int)) :: some (.int i) :: List.replicate 3 none) (e9 p2)
            · refine ⟨_, rfl, .inl ⟨rfl, _, .of hR6⟩, _, rfl, _, rfl, _, _, rfl, rfl, _, rfl, _, rfl, by show 2 ≤ sizeLine; decide, fun p H7 np s7 hp _ => ?_⟩
              refine ⟨_, rfl, p, _, 1, .int d, rfl, rfl, .of hp, rfl, last, 3, d, rfl, fun p2 H8 np2 s8 hp2 => ?_⟩
              obtain ⟨h1, h2, h3, h4, h5, h6, h7, h8, h9⟩ := fin p2 H8 d rfl ((k6.trans (.same s7)).trans (.same s8)) ((F6.same s7).same s8) hp2
              refine ⟨R, _, _, rfl, rfl, h1, h2, ?_⟩
              refine ⟨_, rfl, R, _, rfl, .inl (.of upd_same), _, _, rfl, rfl, _, rfl, _, _, rfl, rfl, _, _, rfl, ⟨rows.length, 0, _, cls', ?_, h3, h4, h5, h6, h7, h8⟩, h9⟩
              exact congrArg (fun z : Int => some (.ref f) :: some (.ref S) :: some (.int s) :: some (.int a) :: some (.int b) :: some (.int d) :: some (.ref C) :: some bv :: some (.ref R) :: some (.int (m : Nat)) :: some (.int z) :: some (.int ((0 : Nat) : Int)) :: some (.int i) :: List.replicate 3 none) (e9 p2)
        · have tl : rows.length = m := by
            have : ¬ (decide (((rvs.length : Nat) : Int) < ((m : Nat) : Int))) = true := y
            rw [decide_eq_true_iff] at this
            omega
          exact ⟨_, _, rows, cls, rfl, F5.mono (by omega), k5, ⟨rvs, hR, aR⟩, hb, gr.ld, tl⟩
      · rintro σ H0 Q1 Q2 hq ⟨v, e, p, ys, e1, e2, w, e3, i, j, e5, e6, b, e7, z⟩
        exact ⟨v, e, p, ys, e1, e2, w, e3, i, j, e5, e6, b, e7, hq _ _ z⟩
    rintro σ' H5 ⟨y10, y11, rows, cls, rfl, F5, k5, hR, hb, ld, lm⟩
    obtain ⟨c0, c1, c2, c3, _, ib, _⟩ := bks_cl f4 bks
    refine ⟨_, rfl, _, rfl, by show 2 ≤ sizeLine; decide, fun t H6 nt s6 ht _ => ?_⟩
    have k6 : Ke (· = f) H5 H6 := .same s6
    exact q t R bv css cls rows H6 ((F5.same s6).mono (by omega)) (k5.trans k6) ht nRf nRc frR ⟨hb.ke k6, hR.ke k6 nRf, ld, ib, by omega⟩ bks.1 (by omega) (by omega)
end
end Lo
namespace Um
open PySem PySem.Spec PyProof.Rows L2 GxR Nw Dr Kp Se Cl Ct Lr Lp Ll Un
/-! ### a ladder trimmed -/
/-- a row with the numbers of its rows turned into their places among ns -/
def Mv (ns : List Int) : Rw → Rw → Prop
  | .book b, r => r = .book b
  | .cut i j k, r => ∃ p q : Nat, ns[p]? = some (i : Int) ∧ ns[q]? = some (j : Int) ∧ r = .cut p q k
theorem nd_at {ns : List Int} (n : ns.Nodup) {p q : Nat} {x : Int} (a : ns[p]? = some x) (b : ns[q]? = some x) : p = q :=
  (List.getElem?_inj (List.getElem?_eq_some_iff.mp a).1 n).mp (a.trans b.symm)
theorem Mv.one {ns : List Int} (n : ns.Nodup) {r a b : Rw} (h : Mv ns r a) (g : Mv ns r b) : a = b := by
  cases r with
  | book m => exact Eq.trans h (Eq.symm g)
  | cut i j k =>
    obtain ⟨p, q, h1, h2, rfl⟩ := h
    obtain ⟨p', q', g1, g2, rfl⟩ := g
    rw [nd_at n h1 g1, nd_at n h2 g2]
/-- the rows at ns, the first of them, told anew -/
def Tr (rows : List Rw) (ns : List Int) (rs : List Rw) : Prop := ∀ (t : Nat) (r' : Rw), rs[t]? = some r' → ∃ (n : Nat) (r : Rw), ns[t]? = some (n : Int) ∧ rows[n]? = some r ∧ Mv ns r r'
theorem Tr.snoc {rows rs : List Rw} {ns : List Int} {n : Nat} {r r' : Rw} (h : Tr rows ns rs) (e : ns[rs.length]? = some (n : Int)) (er : rows[n]? = some r) (m : Mv ns r r') : Tr rows ns (rs ++ [r']) := fun t x hx => by
  by_cases lt : t < rs.length
  · rw [List.getElem?_append_left lt] at hx
    exact h t x hx
  · have := (List.getElem?_eq_some_iff.mp hx).1
    rw [List.length_append, List.length_singleton] at this
    obtain rfl : t = rs.length := by omega
    rw [List.getElem?_append_right (Nat.le_refl _), Nat.sub_self] at hx
    cases hx
    exact ⟨n, r, e, er, m⟩
theorem Tr.one {rows rs rs' : List Rw} {ns : List Int} (n : ns.Nodup) (h : Tr rows ns rs) (g : Tr rows ns rs') (l : rs.length = rs'.length) : rs = rs' := by
  refine List.ext_getElem? fun t => ?_
  by_cases lt : t < rs.length
  · have lt' : t < rs'.length := by omega
    obtain ⟨m, r, e1, e2, e3⟩ := h t _ (List.getElem?_eq_getElem lt)
    obtain ⟨m', r', e1', e2', e3'⟩ := g t _ (List.getElem?_eq_getElem lt')
    rw [e1] at e1'
    have e := Option.some.inj e1'
    obtain rfl : m = m' := by omega
    rw [e2] at e2'
    cases e2'
    rw [List.getElem?_eq_getElem lt, List.getElem?_eq_getElem lt', e3.one n e3']
  · rw [List.getElem?_eq_none (by omega), List.getElem?_eq_none (by omega)]
theorem up_at {ns : List Int} (u : ns.Pairwise (· < ·)) {p q : Nat} {x y : Int} (a : ns[p]? = some x) (b : ns[q]? = some y) (h : x < y) : p < q := by
  obtain ⟨lp, ep⟩ := List.getElem?_eq_some_iff.mp a
  obtain ⟨lq, eq⟩ := List.getElem?_eq_some_iff.mp b
  rcases Nat.lt_trichotomy p q with z | z | z
  · exact z
  · subst z
    omega
  · have := List.pairwise_iff_getElem.mp u q p lq lp z
    omega
theorem up_at' {ns : List Int} (u : ns.Pairwise (· < ·)) {p q : Nat} {x y : Int} (a : ns[p]? = some x) (b : ns[q]? = some y) (h : p < q) : x < y := by
  obtain ⟨lp, ep⟩ := List.getElem?_eq_some_iff.mp a
  obtain ⟨lq, eq⟩ := List.getElem?_eq_some_iff.mp b
  have := List.pairwise_iff_getElem.mp u p q lp lq h
  omega
/-- the claims at ns -/
def clsAt (cls : List (List Int)) (ns : List Int) : List (List Int) := ns.map fun x => cls.getD x.toNat []
theorem clsAt_at {cls : List (List Int)} {ns : List Int} {t n : Nat} (e : ns[t]? = some (n : Int)) (l : n < cls.length) : (clsAt cls ns)[t]? = cls[n]? := by
  unfold clsAt
  rw [List.getElem?_map, e]
  show some (cls.getD ((n : Int)).toNat []) = _
  rw [Int.toNat_natCast, List.getD_eq_getElem?_getD, List.getElem?_eq_getElem l]
  rfl
theorem take_at {α : Type} {l : List α} {n t : Nat} (h : t < n) : (l.take n)[t]? = l[t]? := by
  rw [List.getElem?_take, if_pos h]
section
variable {rows rs : List Rw} {last : Nat} {ns : List Int} {css cls : List (List Int)}
theorem lad_trim (ld : Lad css rows cls) (ib : ∀ c ∈ css, IsCl c) (u : UL rows last ns) (t : Tr rows ns rs) (l : rs.length = ns.length) : Lad css rs (clsAt cls ns) := by
  have dn := dn_lad ld ib
  refine ⟨by rw [l]; exact (List.length_map ..).symm, fun k r' c hr hc => ?_⟩
  obtain ⟨n, r, e1, e2, m⟩ := t k r' hr
  have ln := (List.getElem?_eq_some_iff.mp e2).1
  have lc : n < cls.length := by rw [← ld.1]; exact ln
  rw [clsAt_at e1 lc] at hc
  have rc := ld.2 n r c e2 hc
  cases r with
  | book b =>
    obtain rfl : r' = .book b := m
    exact rc
  | cut i j k' =>
    obtain ⟨p, q, hp, hq, rfl⟩ := m
    obtain ⟨li, lj, _⟩ := dn n i j k' e2
    have pk : p < k := up_at u.up hp e1 (by omega)
    have qk : q < k := up_at u.up hq e1 (by omega)
    obtain ⟨x, y, h1, h2, h3⟩ := rc
    rw [take_at li] at h1
    rw [take_at lj] at h2
    exact ⟨x, y, by rw [take_at pk, clsAt_at hp (by omega)]; exact h1, by rw [take_at qk, clsAt_at hq (by omega)]; exact h2, h3⟩
def iota (n : Nat) : List Int := (List.range n).map fun i : Nat => (i : Int)
theorem iota_at {n t : Nat} : (iota n)[t]? = if t < n then some (t : Int) else none := by
  unfold iota
  rw [List.getElem?_map]
  by_cases h : t < n
  · rw [List.getElem?_eq_getElem (by rw [List.length_range]; exact h), if_pos h, List.getElem_range]
    rfl
  · rw [List.getElem?_eq_none (by rw [List.length_range]; omega), if_neg h]
    rfl
theorem iota_len (n : Nat) : (iota n).length = n := by
  unfold iota
  rw [List.length_map, List.length_range]
theorem iota_up (n : Nat) : (iota n).Pairwise (· < ·) := by
  unfold iota
  rw [List.pairwise_map]
  exact List.pairwise_lt_range.imp fun h => by omega
/-- all rows of a trimmed ladder are needed -/
theorem ul_trim (dn : Dn rows) (ll : last < rows.length) (u : UL rows last ns) (t : Tr rows ns rs) (l : rs.length = ns.length) : 0 < rs.length ∧ UL rs (rs.length - 1) (iota rs.length) := by
  obtain ⟨z, hz⟩ := List.getElem?_of_mem ((u.me (last : Int)).mpr ⟨last, rfl, .self⟩)
  have lz := (List.getElem?_eq_some_iff.mp hz).1
  have ez : z = rs.length - 1 := by
    rcases Nat.lt_or_ge z (rs.length - 1) with y | y
    · have hy := List.getElem?_eq_getElem (show rs.length - 1 < ns.length by omega)
      have := up_at' u.up hz hy y
      obtain ⟨m, em, um⟩ := (u.me _).mp (List.mem_of_getElem? hy)
      have := um.le dn
      omega
    · omega
  have all : ∀ n, Und rows last n → ∃ k : Nat, ns[k]? = some (n : Int) ∧ Und rs (rs.length - 1) k := fun n un => by
    have step : ∀ {m i j : Nat} {k' : Int} {k : Nat}, rows[m]? = some (.cut i j k') → ns[k]? = some (m : Int) → ∃ p q : Nat, ns[p]? = some (i : Int) ∧ ns[q]? = some (j : Int) ∧ rs[k]? = some (.cut p q k') := fun {m i j k' k} e ek => by
      have lk : k < rs.length := by
        have := (List.getElem?_eq_some_iff.mp ek).1
        omega
      obtain ⟨m', r, e1, e2, mv⟩ := t k _ (List.getElem?_eq_getElem lk)
      rw [ek] at e1
      have := Option.some.inj e1
      obtain rfl : m = m' := by omega
      rw [e] at e2
      cases e2
      obtain ⟨p, q, hp, hq, er⟩ := mv
      exact ⟨p, q, hp, hq, by rw [List.getElem?_eq_getElem lk, er]⟩
    induction un with
    | self => exact ⟨z, hz, ez ▸ .self⟩
    | l _ e ih =>
      obtain ⟨k, ek, uk⟩ := ih
      obtain ⟨p, q, hp, hq, er⟩ := step e ek
      exact ⟨p, hp, .l uk er⟩
    | r _ e ih =>
      obtain ⟨k, ek, uk⟩ := ih
      obtain ⟨p, q, hp, hq, er⟩ := step e ek
      exact ⟨q, hq, .r uk er⟩
  have dr : Dn rs := fun k i j k' e => by
    obtain ⟨n, r, e1, e2, m⟩ := t k _ e
    cases r with
    | book b =>
      have m : Rw.cut i j k' = Rw.book b := m
      cases m
    | cut i0 j0 k0 =>
      obtain ⟨p, q, hp, hq, er⟩ := m
      cases er
      obtain ⟨l1, l2, l3⟩ := dn n i0 j0 k' e2
      refine ⟨up_at u.up hp e1 (by omega), up_at u.up hq e1 (by omega), fun y => ?_⟩
      subst y
      rw [hp] at hq
      have := Option.some.inj hq
      omega
  refine ⟨by omega, iota_up _, fun x => ?_⟩
  constructor
  · intro hx
    obtain ⟨k, hk⟩ := List.getElem?_of_mem hx
    rw [iota_at] at hk
    split at hk
    · rename_i lk
      cases hk
      refine ⟨k, rfl, ?_⟩
      have hk := List.getElem?_eq_getElem (show k < ns.length by omega)
      obtain ⟨n, en, un⟩ := (u.me _).mp (List.mem_of_getElem? hk)
      rw [en] at hk
      obtain ⟨k2, e2, u2⟩ := all n un
      rw [nd_at (up_nodup u.up) hk e2]
      exact u2
    · cases hk
  · rintro ⟨k, rfl, uk⟩
    have := uk.le dr
    exact List.mem_of_getElem? (i := k) (by rw [iota_at, if_pos (by omega)])
/-- and a trimmed ladder stays -/
theorem tr_trim (t : Tr rows ns rs) (l : rs.length = ns.length) : Tr rs (iota rs.length) rs := fun k r' e => by
  have lk := (List.getElem?_eq_some_iff.mp e).1
  refine ⟨k, r', by rw [iota_at, if_pos lk], e, ?_⟩
  cases r' with
  | book b => exact rfl
  | cut p q k' =>
    obtain ⟨n, r, e1, e2, m⟩ := t k _ e
    cases r with
    | book b =>
      have m : Rw.cut p q k' = Rw.book b := m
      cases m
    | cut i j k0 =>
      obtain ⟨p', q', hp, hq, er⟩ := m
      cases er
      have := (List.getElem?_eq_some_iff.mp hp).1
      have := (List.getElem?_eq_some_iff.mp hq).1
      exact ⟨p, q, by rw [iota_at, if_pos (by omega)], by rw [iota_at, if_pos (by omega)], rfl⟩
end
theorem parts_at {rows : List Rw} {last : Nat} {ns : List Int} (dn : Dn rows) (u : UL rows last ns) {t n i j : Nat} {k : Int} (e : ns[t]? = some (n : Int)) (er : rows[n]? = some (.cut i j k)) : ∃ p q : Nat, p < t ∧ q < t ∧ ns[p]? = some (i : Int) ∧ ns[q]? = some (j : Int) := by
  obtain ⟨m, em, um⟩ := (u.me _).mp (List.mem_of_getElem? e)
  obtain rfl : n = m := by omega
  obtain ⟨l1, l2, _⟩ := dn n i j k er
  obtain ⟨p, hp⟩ := List.getElem?_of_mem ((u.me (i : Int)).mpr ⟨i, rfl, .l um er⟩)
  obtain ⟨q, hq⟩ := List.getElem?_of_mem ((u.me (j : Int)).mpr ⟨j, rfl, .r um er⟩)
  exact ⟨p, q, up_at u.up hp e (by omega), up_at u.up hq e (by omega), hp, hq⟩
section
variable {P : Program} {w : World} {K : PySem.W.Frag} {mg : Str → Option Value} {base : Heap}
abbrev sMov : Stmt := topS 26
theorem scMov : FnScope ["row", "places"] ["row", "places"] (defScope sMov) := ⟨rfl, rfl, rfl, by decide +kernel, rfl, by decide +kernel, by decide +kernel⟩
/-- the places of the first i of ns -/
def Pl (ns : List Int) (i : Nat) (kvs : List (Key × V)) : Prop := ∀ (t : Nat) (x : Int), t < i → ns[t]? = some x → valV kvs (Sum.inl x) = some (.int (t : Nat))
def spMov : Sp := fun vs H Q _ => ∃ (v : V) (D : Addr) (r : Rw) (ns : List Int) (i : Nat) (kvs : List (Key × V)), vs = [v, .ref D] ∧ RowAt H v r ∧ H D = some (.dK kvs) ∧ Pl ns i kvs ∧ (∀ a b k, r = .cut a b k → ∃ p q : Nat, p < i ∧ q < i ∧ ns[p]? = some (a : Int) ∧ ns[q]? = some (b : Int)) ∧ ∀ v' r' H', Same H H' → RowAt H' v' r' → Mv ns r r' → Q v' H'
theorem ok_mov {f : Addr} {fd : FuncData} {k : Nat} (F : Fun K "moved_row" "moved_row" sMov f fd) : FnOk P w K mg base CX0 (k + 1) f fd ["row", "places"] spMov := by
  refine F.ok scMov (fun vs H Q E h => ?_) (fun cdv A outer s H vs Q E hr h => ?_)
  · obtain ⟨v, D, r, ns, i, kvs, rfl, _⟩ := h
    rfl
  · obtain ⟨v, D, r, ns, i, kvs, rfl, ⟨a, rfl, ha⟩, hD, pl, pr, q⟩ := h
    refine ⟨_, (pss_cons (ps_if (pt_cmpR op_eq (pe_ix ix_tup (pv 0) pe_int (fun _ _ => rfl)) pe_str (nomark _)) (pss_one (ps_ret (pv 0))) pss_nil)
      (pss_one (ps_ret (pe_tupN (pa_cons pe_str (pa_cons (pe_dget (lt1 hr.units) (pv 1) (pe_ix ix_tup (pv 0) pe_int (fun _ _ => rfl)) (fun _ _ => rfl)) (pa_cons (pe_dget (lt1 hr.units) (pv 1) (pe_ix ix_tup (pv 0) pe_int (fun _ _ => rfl)) (fun _ _ => rfl)) (pa_cons (pe_ix ix_tup (pv 0) pe_int (fun _ _ => rfl)) pa_nil)))))))), ?_⟩
    cases r with
    | book b =>
      exact ⟨_, rfl, a, _, 0, .str "book", rfl, rfl, .of ha, rfl, rfl, true, by simp, _, rfl, q _ (.book b) H (Same.refl _) ⟨a, rfl, ha⟩ rfl⟩
    | cut i' j' k' =>
      obtain ⟨p, q', lp, lq, hp, hq⟩ := pr i' j' k' rfl
      refine ⟨_, rfl, a, _, 0, .str "cut", rfl, rfl, .of ha, rfl, rfl, false, by simp; decide, ?_⟩
      have d1 := DGet.k (k := Sum.inl (i' : Int)) hD
      have d2 := DGet.k (k := Sum.inl (j' : Int)) hD
      rw [pl p _ lp hp] at d1
      rw [pl q' _ lq hq] at d2
      refine ⟨_, rfl, _, rfl, a, _, 1, .int (i' : Nat), rfl, rfl, .of ha, rfl, D, _, rfl, d1, ?_⟩
      refine ⟨_, rfl, _, rfl, a, _, 2, .int (j' : Nat), rfl, rfl, .of ha, rfl, D, _, rfl, d2, ?_⟩
      refine ⟨_, rfl, a, _, 3, .int k', rfl, rfl, .of ha, rfl, by show 4 ≤ sizeLine; decide, fun t H1 nt s1 ht _ => ?_⟩
      exact q (.ref t) (.cut p q' k') H1 s1 ⟨t, rfl, ht⟩ ⟨p, q', hp, hq, rfl⟩
abbrev sTrt : Stmt := topS 27
theorem scTrt : FnScope ["ladder", "last", "rows", "places", "number"] ["ladder", "last"] (defScope sTrt) := ⟨rfl, rfl, rfl, by decide +kernel, rfl, by decide +kernel, by decide +kernel⟩
def spTrt : Sp := fun vs H Q _ => ∃ (L : Addr) (rows : List Rw) (last : Nat), vs = [.ref L, .int (last : Nat)] ∧ RwL H L rows ∧ Dn rows ∧ last < rows.length ∧ rows.length ≤ 500 ∧ ∀ ns rs p H', UL rows last ns → Tr rows ns rs → rs.length = ns.length → H p = none → Same H H' → RwL H' p rs → Q (.ref p) H'
structure Zt (mg : Str → Option Value) : Prop where
  z_len : mg "len" = none
theorem ok_trt {f fU fV : Addr} {fd fdU fdV : FuncData} {k : Nat} (F : Fun K "trimmed_to" "trimmed_to" sTrt f fd) (T : Zt mg)
    (FU : Fun K "rows_under" "rows_under" sRun fU fdU) (bU : Binds K fdU ["ladder", "last"] []) (gU : mg "rows_under" = some (.ref fU)) (GU : FnOk P w K mg base CX0 1 fU fdU ["ladder", "last"] spRun)
    (FV : Fun K "moved_row" "moved_row" sMov fV fdV) (bV : Binds K fdV ["row", "places"] []) (gV : mg "moved_row" = some (.ref fV)) (GV : FnOk P w K mg base CX0 1 fV fdV ["row", "places"] spMov) :
    FnOk P w K mg base CX0 (k + 2) f fd ["ladder", "last"] spTrt := by
  refine F.ok scTrt (fun vs H Q E h => ?_) (fun cdv A outer s H vs Q E hr h => ?_)
  · obtain ⟨L, rows, last, rfl, _⟩ := h
    rfl
  · obtain ⟨L, rows, last, rfl, ⟨rvs, hL, aR⟩, dn, ll, l5, q⟩ := h
    have hr1 : Room 1 _ := hr.mono (by omega)
    refine ⟨_, (Evl.pss_cut (ps_set (i := 2) scTrt.nd rfl (.inl rfl) (pe_lstN pa_nil))
      (Evl.pss_cut (ps_set (i := 3) scTrt.nd rfl (.inl rfl) pe_dnewK)
      (Evl.pss_cut (ps_for PassesOwn.never rfl (pi_list (pe_call GU hr1 (by rfl) gU FU.kp bU .nil pass0 (pa_cons (pv 0) (pa_cons (pv 1) pa_nil)))) (pg_name (i := 4) scTrt.nd rfl (.inl rfl)) (Evl.pss_cut (ps_dput (lt1 hr.units) (pv 3) (pv 4) (pe_callB call_len_seq (by rfl) T.z_len (by decide +kernel) (pa_cons (pv 2) pa_nil)) rfl)
      (pss_one (ps_expr (pe_bm PySem.F.plainAttrs_list PySem.F.slot_list_append PySem.F.type_list_append mt_append (pv 2) (pa_cons (pe_call GV hr1 (by rfl) gV FV.kp bV .nil pass0 (pa_cons (pe_ix ix_list (pv 0) (pv 4) (fun _ _ => rfl)) (pa_cons (pv 3) pa_nil))) pa_nil))))))
      (pss_one (ps_ret (pv 2)))))), ?_⟩
    refine Evl.q_cut (M := fun σ' H' => ∃ R : Addr, σ' = [some (.ref L), some (.int (last : Nat)), some (.ref R), none, none] ∧ H R = none ∧ Same H H' ∧ H' R = some (.lst [])) ?_ ?_
    · exact ⟨Nat.zero_le _, fun R H1 nR s1 hR _ => ⟨R, rfl, nR, s1, hR⟩⟩
    rintro σ' H1 ⟨R, rfl, nR, s1, hR⟩
    refine Evl.q_cut (M := fun σ' H' => ∃ D : Addr, σ' = [some (.ref L), some (.int (last : Nat)), some (.ref R), some (.ref D), none] ∧ H D = none ∧ D ≠ R ∧ Same H H' ∧ H' R = some (.lst []) ∧ H' D = some (.dK [])) ?_ ?_
    · refine fun D nD => ⟨D, rfl, s1.free nD, Ne.symm (ne_of_none hR nD), fun b o e => ?_, ?_, upd_same⟩
      · rw [upd_ne (ne_of_none (s1 _ _ e) nD)]
        exact s1 _ _ e
      · rw [upd_ne (ne_of_none hR nD)]
        exact hR
    clear hR s1 H1
    rintro σ' H1 ⟨D, rfl, nD, nDR, s1, hR, hD⟩
    refine Evl.q_cut (M := fun σ' H' => ∃ (y4 : Option V) (ns : List Int) (rs : List Rw), σ' = [some (.ref L), some (.int (last : Nat)), some (.ref R), some (.ref D), y4] ∧ Same H H' ∧ UL rows last ns ∧ Tr rows ns rs ∧ rs.length = ns.length ∧ RwL H' R rs) ?_ ?_
    · refine ⟨_, rfl, _, rfl, L, rows, last, rfl, ⟨rvs, s1 _ _ hL, aR.imp fun _ _ r => r.ke (Ke.same (F := Nof) s1)⟩, dn, ll, l5, fun ns N H2 ul nN s2 hN => ?_⟩
      have lns := ul.len dn
      have nND : N ≠ D := Ne.symm (ne_of_none hD nN)
      have nNR : N ≠ R := Ne.symm (ne_of_none hR nN)
      have nup := up_nodup ul.up
      refine ⟨N, rfl, ⟨_, .of hN⟩, for_list (K := K) (a := N) (xs := ns.map V.int) (Pv := fun t σ H' => ∃ (y4 : Option V) (rs : List Rw) (kvs : List (Key × V)), σ = [some (.ref L), some (.int (last : Nat)), some (.ref R), some (.ref D), y4] ∧ Same H H' ∧ H' N = some (.lst (ns.map V.int)) ∧ H' D = some (.dK kvs) ∧ kvs.length ≤ t ∧ Pl ns t kvs ∧ RwL H' R rs ∧ Tr rows ns rs ∧ rs.length = t) ?_ (fun t σ H' _ p => ?_) ?_ ?_⟩
      · exact ⟨none, [], [], rfl, s1.trans s2, hN, s2 _ _ hD, Nat.le_refl _, fun t x lt => absurd lt (Nat.not_lt_zero _), ⟨[], s2 _ _ hR, .nil⟩, fun t r h => (nomatch h), rfl⟩
      · obtain ⟨_, _, _, _, _, h, _⟩ := p
        exact .of h
      · rintro t v σ H3 hv ⟨y4, rs, kvs, rfl, s3, hN3, hD3, lk, pl, ⟨rvs3, hR3, aR3⟩, tr, lt⟩
        obtain ⟨x, hx, rfl⟩ := at_int hv
        obtain ⟨n, rfl, un⟩ := (ul.me x).mp (List.mem_of_getElem? hx)
        have lx := (List.getElem?_eq_some_iff.mp hx).1
        have ln : n < rows.length := by
          have := un.le dn
          omega
        have her := List.getElem?_eq_getElem ln
        obtain ⟨rv, hrv, ra⟩ := aR.atR her
        have lr3 := aR3.1
        -- its place
        refine Evl.q_cut (M := fun σ' H' => ∃ kvs' : List (Key × V), σ' = [some (.ref L), some (.int (last : Nat)), some (.ref R), some (.ref D), some (.int (n : Nat))] ∧ Same H H' ∧ H' N = some (.lst (ns.map V.int)) ∧ H' D = some (.dK kvs') ∧ kvs'.length ≤ t + 1 ∧ Pl ns (t + 1) kvs' ∧ RwL H' R rs) ?_ ?_
        · refine ⟨_, rfl, R, _, rfl, .inl (.of hR3), _, rfl, _, rfl, D, _, rfl, DPut.k (k := Sum.inl (n : Int)) hD3 (small1000 (by omega)), ?_⟩
          have e9 : ((rvs3.length : Nat) : Int) = ((t : Nat) : Int) := by rw [lr3, lt]
          refine ⟨_, rfl, fun b o e => ?_, by rw [upd_ne nND]; exact hN3, upd_same, Nat.le_trans (length_putK _ _ _) (by omega), fun u x lu hu => ?_, ⟨rvs3, by rw [upd_ne (Ne.symm nDR)]; exact hR3, aR3.imp fun _ _ r => ?_⟩⟩
          · rw [upd_ne (ne_of_none e nD)]
            exact s3 _ _ e
          · rw [valV_put]
            by_cases z : x = n
            · subst z
              rw [if_pos rfl, nd_at nup hu hx, e9]
            · rw [if_neg (fun y => z (Sum.inl.inj y))]
              refine pl u x ?_ hu
              rcases Nat.lt_or_ge u t with y | y
              · exact y
              · obtain rfl : u = t := by omega
                rw [hx] at hu
                exact absurd (Option.some.inj hu).symm z
          · obtain ⟨a, e, h⟩ := r
            exact ⟨a, e, by rw [upd_ne (fun z => by rw [z, hD3] at h; cases h)]; exact h⟩
        rintro σ' H4 ⟨kvs', rfl, s4, hN4, hD4, lk4, pl4, ⟨rvs4, hR4, aR4⟩⟩
        have lr4 := aR4.1
        refine ⟨_, rfl, .inl ⟨rfl, _, .of hR4⟩, _, rfl, _, rfl, L, _, (n : Nat), rv, rfl, rfl, .of (s4 _ _ hL), at_of (j := n) rfl hrv, _, rfl, rv, D, rows[n], ns, t + 1, kvs', rfl, ra.ke (Ke.same (F := Nof) s4), hD4, pl4, fun a b k' e => ?_, fun v' r' H5 s5 rv' mv => ?_⟩
        · rw [e] at her
          obtain ⟨p, q', l1, l2, h1, h2⟩ := parts_at dn ul hx her
          exact ⟨p, q', by omega, by omega, h1, h2⟩
        · have hR5 := s5 _ _ hR4
          refine ⟨R, _, _, rfl, rfl, hR5, small1000 (by omega), ?_⟩
          refine ⟨_, rs ++ [r'], kvs', rfl, fun b o e => ?_, by rw [upd_ne nNR]; exact s5 _ _ hN4, by rw [upd_ne nDR]; exact s5 _ _ hD4, lk4, pl4, rw_snoc hR5 (aR4.imp fun _ _ r => r.ke (Ke.same (F := Nof) s5)) rv', tr.snoc (by rw [lt]; exact hx) her mv, by rw [List.length_append, lt]; rfl⟩
          rw [upd_ne (ne_of_none e nR)]
          exact (s4.trans s5) _ _ e
      · rintro σ H3 ⟨y4, rs, kvs, rfl, s3, _, _, _, _, hR3, tr, lt⟩
        rw [List.length_map] at lt
        exact ⟨y4, ns, rs, rfl, s3, ul, tr, lt, hR3⟩
    rintro σ' H2 ⟨y4, ns, rs, rfl, s2, ul, tr, lt, hR2⟩
    exact ⟨_, rfl, q ns rs R H2 ul tr lt nR s2 hR2⟩
end
end Um
namespace PySem
/-! ### enumerate(a tuple) -/
set_option maxHeartbeats 2000000 in
theorem en_new (t : Addr) (its : Array Value) : Meets (Builtin.«enumerate.__new__» ⟨[.type "enumerate", .ref t], []⟩) (fun _ R s => s.heap.IsTuple t its ∧
    R (.ok (.ret (.ref (s.heap.push { cls := .type "tuple_iterator", data := .fields #[.ref t, .int 0 0] }).objs.size))) { s with heap := (s.heap.push { cls := .type "tuple_iterator", data := .fields #[.ref t, .int 0 0] }).push { cls := .type "enumerate", data := .fields #[.none, .bool false, .ref s.heap.objs.size, rawInt 0, .none, .none] } }) :=
  .of_wp fun prog w A R s z => by
    obtain ⟨hp, g, d, tk, os⟩ := s
    obtain ⟨ht, z⟩ := z
    have hsub := sub_enumerate
    have go : ∀ {A' : Around} {E : Value → Shared → Prop} {Q : Value → Shared → Prop}, Q (.ref hp.objs.size) ⟨hp.push { cls := .type "tuple_iterator", data := .fields #[.ref t, .int 0 0] }, g, d, tk, os⟩ → wpAny (model prog w) A' (pyIter (.ref t)) Q E ⟨hp, g, d, tk, os⟩ := fun q => wpAny_pyIter_tuple (s := ⟨hp, g, d, tk, os⟩) ht q
    wp_walk using go
    refine wpAny_stack_any fun st => wpAny_pure ?_
    split
    · rename_i c _ _ _ _ _
      cases (c == Value.type "enumerate") <;> (wp_walk using go; exact ⟨_, rfl, z⟩)
    · wp_walk using go; exact ⟨_, rfl, z⟩
theorem en_call {prog : Program} {w : World} {A : Around} {E : Value → Shared → Prop} {s : Shared} {t : Addr} {its : Array Value} {Q : Value → Shared → Prop} (ht : s.heap.IsTuple t its)
    (h : ∀ h', IsEnum h' (s.heap.objs.size + 1) s.heap.objs.size 0 .none → h'.IsTupleIter s.heap.objs.size t 0 → (∀ b o, s.heap.get? b = some o → h'.get? b = some o) → Q (.ref (s.heap.objs.size + 1)) { s with heap := h' }) :
    wpAny (model prog w) A (call (.type "enumerate") [.ref t]) Q E s := by
  refine callType_new F.called_enumerate (by decide) (F.typeCall_enumerate_1 _) (F.newCall_enumerate_1 _) (fun obj => F.args_object_init_2 obj _) F.entry_enumerate_new (en_new t its) ⟨ht, ?_⟩
  have hz : (s.heap.push { cls := .type "tuple_iterator", data := .fields #[.ref t, .int 0 0] }).objs.size = s.heap.objs.size + 1 := Heap.size_push ..
  show _ ∧ _
  rw [hz]
  have e1 := Heap.get?_push_size (s.heap.push { cls := .type "tuple_iterator", data := .fields #[.ref t, .int 0 0] }) (o := { cls := .type "enumerate", data := .fields #[.none, .bool false, .ref s.heap.objs.size, rawInt 0, .none, .none] }) rfl
  rw [hz] at e1
  exact ⟨⟨_, e1, rfl⟩, h _ e1 ⟨_, Heap.get?_push_of_some _ (Heap.get?_push_size _ rfl), rfl, rfl⟩ fun b o x => Heap.get?_push_of_some _ (Heap.get?_push_of_some _ x)⟩
end PySem
namespace En
open PySem PySem.Spec PyProof.Rows L2
theorem apart {h : Heap} {a e it : Addr} {vs : Array Value} {i : Nat} {old : Value} {c : Int} (p : h.IsTuple a vs) (hit : h.IsTupleIter it a i) (he : IsEnum h e it c old) : a ≠ it ∧ a ≠ e := by
  obtain ⟨o, e1, c1, _⟩ := p
  obtain ⟨o2, e2, c2, _⟩ := hit
  refine ⟨fun z => ?_, fun z => ?_⟩
  · rw [z, e2] at e1
    cases e1
    rw [c2] at c1
    simp at c1
  · have he : h.get? e = some _ := he
    rw [z, he] at e1
    cases e1
    simp at c1
/-- the tuple at a, each item in a new pair -/
def ItE (K : PySem.W.Frag) (a : Addr) : It :=
  ⟨fun i H => ∃ (xs : List V) (x : V), SqT K H a xs ∧ xs[i]? = some x, fun i H v H' => ∃ T x, v = .ref T ∧ H T = none ∧ H' = upd H T (.tup [.int (i : Nat), x]) ∧ ∀ xs, SqT K H a xs → xs[i]? = some x, fun i H => ∃ xs : List V, SqT K H a xs ∧ xs.length = i⟩
theorem turn {P : Program} {w : World} {K : PySem.W.Frag} {elts : List Expr} {kk : Nat} {tpos : Pos} (a e it : Addr) :
    Turn P w K (.Tuple elts kk tpos) (ItE K a) [e, it] e (fun i h => (∃ old, IsEnum h e it ((i : Nat) : Int) old) ∧ h.IsTupleIter it a i ∧ e ≠ it) where
  mem := by simp
  obj := fun i h st b hb => by
    obtain ⟨⟨old, he⟩, ⟨o, ho, _, hd⟩, _⟩ := st
    simp only [List.mem_cons, List.not_mem_nil, or_false] at hb
    rcases hb with rfl | rfl
    · exact ⟨_, he, fun v q => nomatch q⟩
    · exact ⟨o, ho, fun v q => by rw [hd] at q; cases q⟩
  keep := fun i h h' st k => let ⟨⟨old, he⟩, hi, ne⟩ := st; ⟨⟨old, k e (by simp) _ he⟩, hi.at fun o q => k it (by simp) o q, ne⟩
  item := by
    intro X hP hw hK hc i pins s σ H E I hf st hg
    subst hP hw hK
    obtain ⟨⟨old, he⟩, hit, ne⟩ := st
    obtain ⟨xs, x, hq, hx⟩ := hg
    obtain ⟨its, rv, p, hz⟩ := I.tuple hq
    have p : s.heap.IsTuple a its.toArray := p
    obtain ⟨u, hu, ru⟩ := rv.get hx
    obtain ⟨n1, n2⟩ := apart p hit he
    have le := Heap.lt_size he
    have li : it < s.heap.objs.size := by obtain ⟨_, q, _⟩ := hit; exact Heap.lt_size q
    have lt : i < its.toArray.size := by
      have := (List.getElem?_eq_some_iff.mp hu).1
      simpa using this
    refine wpAny_pyNext_enum_itemD (Draws.tuple (A := X.A.in1) (I.ok.hd hc) it a n1 its.toArray) he ⟨hit, p⟩ lt ne (by simp [ne, Ne.symm n2]) fun x' h1 tk q1 q2 q3 q4 q5 q6 => ?_
    obtain rfl : x' = u := by
      have q1 : its.toArray[i]? = some x' := q1
      rw [List.getElem?_toArray, hu] at q1
      exact (Option.some.inj q1).symm
    refine ⟨_, rfl, wpAny_letOwnedTupleGo_enum (s := { s with heap := h1, toks := tk + 1 }) q2 fun h2 he2 sb => ?_⟩
    have hT : h2.get? s.heap.objs.size = some { cls := .type "tuple", data := .seq #[.int i tk, x'] } := (sb.2 _ (Nat.ne_of_gt le)).trans q4
    have I1 : Inv X pins σ (upd H s.heap.objs.size (.tup [.int (i : Nat), x])) { s with heap := h2, toks := tk + 1 } :=
      I.turnedNew (ch := [e, it]) (fun b ob hb q => (sb.2 b (fun z => hb (by simp [z]))).trans (q6 b ob (fun z => hb (by simp [z])) (fun z => hb (by simp [z])) q)) hf (Nat.le_refl _)
        ⟨by show 2 ≤ sizeLine; decide, [.int i tk, x'], .cons ⟨_, rfl⟩ (.cons ru .nil), ⟨_, hT, rfl, _, rfl⟩⟩
    refine ⟨.ref s.heap.objs.size, _, I1, rfl, ⟨_, x, rfl, I.hok.fresh (Nat.le_refl _), rfl, fun ys hy => by rw [I.tuple_inj hy hq]; exact hx⟩, ⟨⟨x', ?_⟩, q3.1.at fun o q => (sb.2 it (Ne.symm ne)).trans q, ne⟩, fun b hb => ?_⟩
    · rw [show ((i + 1 : Nat) : Int) = (i : Int) + 1 by omega]
      exact he2
    · have lb : b < s.heap.objs.size := by
        have hb' : b = e ∨ b = it := by simpa using hb
        rcases hb' with z | z <;> rw [z] <;> assumption
      rw [upd_ne (Nat.ne_of_lt lb)]
      exact (hf b hb).1
  done := by
    intro X hP hw hK hc i pins s σ H E I hf st hg
    subst hP hw hK
    obtain ⟨⟨old, he⟩, hit, ne⟩ := st
    obtain ⟨xs, hq, hx⟩ := hg
    obtain ⟨its, rv, p, hz⟩ := I.tuple hq
    have p : s.heap.IsTuple a its.toArray := p
    obtain ⟨n1, n2⟩ := apart p hit he
    obtain ⟨f0, f1, f2, f3, f4, f5⟩ := hf it (by simp)
    have e1 : its.toArray.size = i := by
      have := rv.length
      rw [List.size_toArray]
      omega
    exact wpAny_pyNext_enum_endD (Draws.tuple (A := X.A.in1) (I.ok.hd hc) it a n1 its.toArray) he ⟨by rw [e1]; exact hit, p⟩ fun h1 eb => ⟨rfl, I.turned (t' := s.toks) (fun b o hb q => eb b o hb q) f0 f1 f3 f4 f5⟩
  self := fun A i s Q E st h => let ⟨⟨_, he⟩, _⟩ := st; wpAny_pyIter_enum he h
def iEn (K : PySem.W.Frag) (ta : TA) : TI := fun σ H R => ta σ H fun vs H1 => ∃ a xs, vs = [.ref a] ∧ SqT K H1 a xs ∧ R (ItE K a) H1
end En
theorem L2.pi_enumT {X : L2.Cx} {e : PySem.Expr} {ta : L2.TA} {p pos tpos : PySem.Pos} {elts : List PySem.Expr} {kk : Nat} (hg : L2.Gl X "enumerate") (hm : X.mg "enumerate" = none) (ha : L2.PA X [e] ta) (hs : PySem.starEach [e] X.env = [(false, PySem.eval e X.env)] := by rfl) :
    L2.PI X (.Tuple elts kk tpos) (.Call (.Name "enumerate" p) [e] [] pos) (En.iEn X.K ta) := by
  open PySem PySem.Spec PyProof.Rows L2 in
  refine ⟨fun pins s σ H R I h => Call_ (ld_blt I hg hm boot_enumerate (PyProof.Rows.callWith_type1 (thn (ha.run pos pins s σ H _ I h) fun us s1 ⟨vs, H1, I1, r1, a, xs, ex, hq, q⟩ => ?_) hs rfl))⟩
  subst ex
  cases r1 with
  | cons r rr =>
    cases rr
    cases r
    obtain ⟨its, rv, pt, hz⟩ := I1.tuple hq
    refine PySem.en_call (its := its.toArray) pt fun h1 he hit hk => PySem.wpAny_pyIter_enum he ?_
    refine ⟨s1.heap.objs.size + 1, [s1.heap.objs.size + 1, s1.heap.objs.size], _, _, H1, rfl, I1.kept (t' := s1.toks) hk, En.turn a (s1.heap.objs.size + 1) s1.heap.objs.size, ⟨⟨.none, he⟩, hit, Nat.succ_ne_self _⟩, fun b hb => ?_, q⟩
    have le : s1.heap.objs.size ≤ b := by
      have hb' : b = s1.heap.objs.size + 1 ∨ b = s1.heap.objs.size := by simpa using hb
      rcases hb' with z | z <;> rw [z]
      · exact Nat.le_succ _
      · exact Nat.le_refl _
    exact I1.fpOk le (I1.hok.fresh le)
namespace En
open PySem PySem.Spec PyProof.Rows L2
theorem for_en {K : PySem.W.Frag} {a : Addr} {xs : List V} {g : TG} {tb : TS} {D : Ends} {σ : L2.St} {H : Hp} (Pv : Nat → L2.St → Hp → Prop) (h0 : Pv 0 σ H) (hl : ∀ i σ H, i ≤ xs.length → Pv i σ H → SqT K H a xs)
    (hs : ∀ i x σ H T, xs[i]? = some x → Pv i σ H → H T = none → g (.ref T) σ (upd H T (.tup [.int (i : Nat), x])) fun σ2 H2 => tb { D with nx := Pv (i + 1), ct := Pv (i + 1), bk := D.nx } σ2 H2) (hd : ∀ σ H, Pv xs.length σ H → D.nx σ H) :
    ∃ W : Nat → Nat → L2.St → Hp → Prop, (∃ m, W 0 m σ H) ∧ ∀ i m σ H, W i m σ H →
      ((ItE K a).stop i H ∧ D.nx σ H) ∨ ((ItE K a).go i H ∧ ∃ N : L2.St → Hp → Prop, (∀ σ' H', N σ' H' → ∃ m', m' < m ∧ W (i + 1) m' σ' H') ∧ ∀ x H', (ItE K a).yld i H x H' → g x σ H' fun σ2 H2 => tb { D with nx := N, ct := N, bk := D.nx } σ2 H2) := by
  refine ⟨fun i m σ H => i + m = xs.length ∧ Pv i σ H, ⟨xs.length, Nat.zero_add _, h0⟩, fun i m σ H ⟨e, p⟩ => ?_⟩
  have sq := hl i σ H (by omega) p
  cases m with
  | zero =>
    obtain rfl : i = xs.length := by omega
    exact .inl ⟨⟨xs, sq, rfl⟩, hd σ H p⟩
  | succ m =>
    have hx := List.getElem?_eq_getElem (show i < xs.length by omega)
    refine .inr ⟨⟨xs, _, sq, hx⟩, Pv (i + 1), fun σ' H' q => ⟨m, Nat.lt_succ_self m, by omega, q⟩, ?_⟩
    rintro y H' ⟨T, x, rfl, nT, rfl, hy⟩
    exact hs i x σ H T (hy xs sq) p nT
theorem lc_en {K : PySem.W.Frag} {a : Addr} {xs : List V} {g : TG} {tt : TT} {te : TE} {vs : List Nat} {σ : L2.St} {H1 : Hp} {D : Addr} {Qd : Hp → Prop} (Pv : Nat → Hp → Prop) (h0 : Pv 0 (upd H1 D (.lst []))) (hl : ∀ i H, i ≤ xs.length → Pv i H → SqT K H a xs)
    (hs : ∀ i x H T, xs[i]? = some x → Pv i H → H T = none → g (.ref T) (wipe σ vs) (upd H T (.tup [.int (i : Nat), x])) fun σ2 H2 => wipe σ2 vs = wipe σ vs ∧ tt σ2 H2 fun b H3 => if b = true then te σ2 H3 fun y H4 => ∃ acc, H4 D = some (.lst acc) ∧ acc.length < sizeLine ∧ Pv (i + 1) (upd H4 D (.lst (acc ++ [y]))) else Pv (i + 1) H3) (hd : ∀ H, Pv xs.length H → Qd H) :
    ∃ W : Nat → Nat → Hp → Prop, (∃ m, W 0 m (upd H1 D (.lst []))) ∧ ∀ i m H, W i m H →
      ((ItE K a).stop i H ∧ Qd H) ∨ ((ItE K a).go i H ∧ ∃ Nx : Hp → Prop, (∀ H', Nx H' → ∃ m', m' < m ∧ W (i + 1) m' H') ∧ ∀ x H', (ItE K a).yld i H x H' → g x (wipe σ vs) H' fun σ2 H2 => wipe σ2 vs = wipe σ vs ∧ tt σ2 H2 fun b H3 =>
        if b = true then te σ2 H3 fun y H4 => ∃ acc, H4 D = some (.lst acc) ∧ acc.length < sizeLine ∧ Nx (upd H4 D (.lst (acc ++ [y]))) else Nx H3) := by
  refine ⟨fun i m H => i + m = xs.length ∧ Pv i H, ⟨xs.length, Nat.zero_add _, h0⟩, fun i m H ⟨e, p⟩ => ?_⟩
  have sq := hl i H (by omega) p
  cases m with
  | zero =>
    obtain rfl : i = xs.length := by omega
    exact .inl ⟨⟨xs, sq, rfl⟩, hd H p⟩
  | succ m =>
    have hx := List.getElem?_eq_getElem (show i < xs.length by omega)
    refine .inr ⟨⟨xs, _, sq, hx⟩, Pv (i + 1), fun H' q => ⟨m, Nat.lt_succ_self m, by omega, q⟩, ?_⟩
    rintro y H' ⟨T, x, rfl, nT, rfl, hy⟩
    exact hs i x H T (hy xs sq) p nT
end En
namespace L2
open PySem PySem.Spec PyProof.Rows
theorem pg_tupB {X : Cx} {K : PySem.W.Frag} {es : List Expr} {k : Nat} {t : TGs} {n : Nat} {pos : Pos} (hK : X.K = K) (hc : X.calm = true) (h : PGs X es t) (hn : (assignEach es X.env).length = n := by rfl) (hst : (assignEach es X.env).findIdx? (·.1) = none := by rfl) : PG X (.Tuple es k pos) (gTup K n t) := by
  subst hK
  exact pg_tup hc h hn hst
end L2
namespace Sl
end Sl
namespace En
end En
namespace Wd
open PySem PySem.Spec PyProof.Rows L2 GxR Nw Dr Kp Se Sl En
structure Zw (mg : Str → Option Value) : Prop where
  z_len : mg "len" = none
  z_all : mg "all" = none
  z_tuple : mg "tuple" = none
  z_range : mg "range" = none
  z_enumerate : mg "enumerate" = none
abbrev sSwd : Stmt := topS 42
abbrev nSwd : List Str := ["one", "other", "say"]
theorem scSwd : FnScope nSwd ["one", "other"] (defScope sSwd) := ⟨rfl, rfl, rfl, by decide +kernel, rfl, by decide +kernel, by decide +kernel⟩
theorem ints_flat (cs : List Int) : (cs.map V.int).all flatV = true := by
  rw [List.all_map, List.all_eq_true]
  exact fun _ _ => rfl
theorem at_int {ks : List Int} {i : Nat} {x : V} (hx : (ks.map V.int)[i]? = some x) : ∃ z, ks[i]? = some z ∧ x = V.int z := by
  rw [List.getElem?_map] at hx
  cases e : ks[i]? with
  | none =>
    rw [e] at hx
    cases hx
  | some z =>
    rw [e] at hx
    exact ⟨z, rfl, (Option.some.inj hx).symm⟩
/-- each of cs is one of ds -/
def wideB (cs ds : List Int) : Bool := cs.all fun s => inV (.int s) (ds.map V.int)
theorem take_all {α : Type} {f : α → Bool} {l : List α} {i : Nat} {x : α} (h : l[i]? = some x) (p : (l.take i).all f = true) : (f x = false → l.all f = false) ∧ (f x = true → (l.take (i + 1)).all f = true) := by
  refine ⟨fun z => List.all_eq_false.mpr ⟨x, List.mem_of_getElem? h, by rw [z]; decide⟩, fun z => ?_⟩
  rw [List.take_add_one, h, List.all_append, p]
  show (f x && true) = true
  rw [z]
  rfl
section
variable {P : Program} {w : World} {K : PySem.W.Frag} {mg : Str → Option Value} {base : Heap}
def spSwd : Sp := fun vs H Q _ => ∃ (v u : V) (cs ds : List Int), vs = [v, u] ∧ TupI H v cs ∧ TupI H u ds ∧ cs.length ≤ 20 ∧ ∀ H', Same H H' → Q (.bl (wideB cs ds)) H'
theorem ok_swd {f : Addr} {fd : FuncData} {k : Nat} (F : Fun K "_law_swide" "_law_swide" sSwd f fd) (T : Zw mg) : FnOk P w K mg base CX0 (k + 1) f fd ["one", "other"] spSwd := by
  refine F.ok scSwd (fun vs H Q E h => ?_) (fun cdv A outer s H vs Q E hr h => ?_)
  · obtain ⟨v, u, cs, ds, rfl, _⟩ := h
    rfl
  · obtain ⟨v, u, cs, ds, rfl, ⟨a, rfl, ha⟩, ⟨b, rfl, hb⟩, lc, q⟩ := h
    refine ⟨_, (pss_one (ps_ret (pe_cmpR op_eq (pe_callB call_len_seq (by rfl) T.z_len (by decide +kernel) (pa_cons (pe_lc (own := [("say", 2)]) (g := (gName 2))  rfl scSwd.nd (pi_tup (pv 0)) (blkOk_by (N := nSwd) (sc := defScope sSwd) (by decide +kernel)) (fun _ _ _ _ _ => (pg_name (i := 2) scSwd.nd rfl (.inl rfl))) (fun _ _ _ _ _ => (pts_one (pt_cmpR (op_notIn_seqB (K := K) rfl) (pv 2) (pv 1) (by rfl)))) (fun _ _ _ _ _ => (pv 2))) pa_nil)) pe_int (nomark _)))), ?_⟩
    refine ⟨_, rfl, a, rfl, ⟨_, .of ha⟩, fun D nD => ?_⟩
    refine lc_tup (xs := cs.map V.int) (Pv := fun i H' => Same H H' ∧ H' D = some (.lst (((cs.take i).filter fun s => !inV (.int s) (ds.map V.int)).map V.int))) ⟨same_new nD, upd_same⟩ (fun i H' _ p => .of (p.1 _ _ ha)) ?_ ?_
    · rintro i x H' hx ⟨s1, hD⟩
      obtain ⟨z, hz, rfl⟩ := at_int hx
      have ft := filter_take (f := fun s => !inV (.int s) (ds.map V.int)) hz
      refine ⟨rfl, _, rfl, _, rfl, b, _, rfl, .inr (.of (s1 _ _ hb)), rfl, ints_flat ds, _, rfl, ite2 (fun y1 => ?_) (fun y1 => ?_)⟩
      · have y1 : (!inV (.int z) (ds.map V.int)) = true := y1
        refine ⟨_, rfl, _, hD, ?_, fun c o y => ?_, ?_⟩
        · rw [List.length_map]
          exact small1000 (Nat.le_trans (List.length_filter_le _ _) (by rw [List.length_take]; omega))
        · rw [upd_ne (ne_of_none y nD)]
          exact s1 _ _ y
        · rw [upd_same, ft, if_pos y1, List.map_append]
          rfl
      · have y1 : ¬ (!inV (.int z) (ds.map V.int)) = true := y1
        refine ⟨s1, ?_⟩
        rw [ft, if_neg y1, List.append_nil]
        exact hD
    · rintro H' ⟨s1, hD⟩
      rw [List.length_map, List.take_length] at hD
      refine ⟨D, _, rfl, .inl (.of hD), rfl, ?_⟩
      rw [List.length_map]
      have := q H' s1
      unfold wideB at this
      rw [← Sl.filter_all] at this
      exact this
end
end Wd
namespace An
open PySem PySem.Spec PyProof.Rows L2 GxR Nw Dr Kp Se Cl Ct Lr Lp Ll Wg Wk Un Um
/-! ### rows done anew -/
theorem ke_wr {F : Addr → Prop} {H H1 : Hp} {p : Addr} {xs : List V} {o : HO} (k : Ke F H H1) (fp : F p) (h1 : H1 p = some (.lst xs)) : Ke F H (upd H1 p o) := by
  refine ⟨fun b x e t m => ?_, fun Q hQ => ?_, fun b ys e => ?_⟩
  · rw [upd_ne (fun z => m (by rw [z]; exact fp))]
    exact k.keep b x e t m
  · obtain ⟨qs, e2, t2⟩ := k.tabs Q hQ
    have n : Q ≠ p := fun z => by
      rw [z, h1] at e2
      cases e2
    exact ⟨qs, by rw [upd_ne n]; exact e2, t2⟩
  · have e2 := k.tups b ys e
    rw [upd_ne (fun z => by rw [z, h1] at e2; cases e2)]
    exact e2
abbrev Rc (R C : Addr) : Addr → Prop := fun a => a = R ∨ a = C
/-- rows as they are put, with their claims -/
structure Pv (b : V) (R C : Addr) (css : List (List Int)) (rows : List Rw) (cls : List (List Int)) (H : Hp) : Prop where
  bk : Bk H b css
  rw : RwL H R rows
  cl : ClL H C cls
  ld : Lad css rows cls
  ib : ∀ c ∈ css, IsCl c
  ne : R ≠ C
theorem Pv.ke {F : Addr → Prop} {b : V} {R C : Addr} {css cls : List (List Int)} {rows : List Rw} {H H' : Hp} (x : Pv b R C css rows cls H) (k : Ke F H H') (n1 : ¬ F R) (n2 : ¬ F C) : Pv b R C css rows cls H' := ⟨x.bk.ke k, x.rw.ke k n1, x.cl.ke k n2, x.ld, x.ib, x.ne⟩
theorem Pv.no {b : V} {R C : Addr} {css cls : List (List Int)} {rows : List Rw} {H H' : Hp} (x : Pv b R C css rows cls H) (k : Ke Nof H H') : Pv b R C css rows cls H' := x.ke k (fun z => z) fun z => z
/-- a row with the numbers of its rows turned into those at their places -/
def mvL (ps : List Nat) : Rw → Rw
  | .book n => .book n
  | .cut i j k => .cut (ps.getD i 0) (ps.getD j 0) k
/-- the row that lacks the say to be cut off -/
def lack (cls : List (List Int)) : Rw → Option Nat
  | .book _ => none
  | .cut i j k => if k ∈ cls.getD i [] then (if -k ∈ cls.getD j [] then none else some j) else some i
theorem getD_at {α : Type} {l : List α} {i : Nat} {x d : α} (h : l[i]? = some x) : l.getD i d = x := by
  rw [List.getD_eq_getElem?_getD, h]
  rfl
section
variable {P : Program} {w : World} {K : PySem.W.Frag} {mg : Str → Option Value} {base : Heap}
def spMvl : Sp := fun vs H Q _ => ∃ (v : V) (D : Addr) (r : Rw) (ps : List Nat), vs = [v, .ref D] ∧ RowAt H v r ∧ H D = some (.lst (ps.map fun n : Nat => V.int n)) ∧ (∀ a b k, r = .cut a b k → a < ps.length ∧ b < ps.length) ∧ ∀ v' H', Same H H' → RowAt H' v' (mvL ps r) → Q v' H'
theorem at_ps {ps : List Nat} {i : Nat} (h : i < ps.length) : (ps.map fun n : Nat => V.int n)[i]? = some (.int (ps.getD i 0 : Nat)) := by
  rw [List.getElem?_map, List.getElem?_eq_getElem h, getD_at (List.getElem?_eq_getElem h)]
  rfl
theorem ok_mvl {f : Addr} {fd : FuncData} {k : Nat} (F : Fun K "moved_row" "moved_row" sMov f fd) : FnOk P w K mg base CX0 (k + 1) f fd ["row", "places"] spMvl := by
  refine F.ok scMov (fun vs H Q E h => ?_) (fun cdv A outer s H vs Q E hr h => ?_)
  · obtain ⟨v, D, r, ps, rfl, _⟩ := h
    rfl
  · obtain ⟨v, D, r, ps, rfl, ⟨a, rfl, ha⟩, hD, pr, q⟩ := h
    refine ⟨_, (pss_cons (ps_if (pt_cmpR op_eq (pe_ix ix_tup (pv 0) pe_int (fun _ _ => rfl)) pe_str (nomark _)) (pss_one (ps_ret (pv 0))) pss_nil)
      (pss_one (ps_ret (pe_tupN (pa_cons pe_str (pa_cons (pe_ix ix_list (pv 1) (pe_ix ix_tup (pv 0) pe_int (fun _ _ => rfl)) (fun _ _ => rfl)) (pa_cons (pe_ix ix_list (pv 1) (pe_ix ix_tup (pv 0) pe_int (fun _ _ => rfl)) (fun _ _ => rfl)) (pa_cons (pe_ix ix_tup (pv 0) pe_int (fun _ _ => rfl)) pa_nil)))))))), ?_⟩
    cases r with
    | book b =>
      exact ⟨_, rfl, a, _, 0, .str "book", rfl, rfl, .of ha, rfl, rfl, true, by simp, _, rfl, q _ H (Same.refl _) ⟨a, rfl, ha⟩⟩
    | cut i' j' k' =>
      obtain ⟨l1, l2⟩ := pr i' j' k' rfl
      refine ⟨_, rfl, a, _, 0, .str "cut", rfl, rfl, .of ha, rfl, rfl, false, by simp; decide, ?_⟩
      refine ⟨_, rfl, _, rfl, a, _, 1, .int (i' : Nat), rfl, rfl, .of ha, rfl, D, _, _, _, rfl, rfl, .of hD, at_of (j := i') rfl (at_ps l1), ?_⟩
      refine ⟨_, rfl, _, rfl, a, _, 2, .int (j' : Nat), rfl, rfl, .of ha, rfl, D, _, _, _, rfl, rfl, .of hD, at_of (j := j') rfl (at_ps l2), ?_⟩
      refine ⟨_, rfl, a, _, 3, .int k', rfl, rfl, .of ha, rfl, by show 4 ≤ sizeLine; decide, fun t H1 nt s1 ht _ => ?_⟩
      exact q (.ref t) H1 s1 ⟨t, rfl, ht⟩
end
end An
namespace Ba
open Lr
def isCut' : Rw → Bool
  | .book _ => false
  | .cut _ _ _ => true
end Ba
namespace Mb
open PySem PySem.Spec PyProof.Rows L2 GxR Nw Dr Kp Se Cl Ct Lr Lp Ll Un Um Ba An
theorem mv_cut (ps : List Nat) (r : Rw) : isCut' (mvL ps r) = isCut' r := by cases r <;> rfl
theorem at_end {α : Type} {l : List α} {x : α} : (l ++ [x])[l.length]? = some x := by
  rw [List.getElem?_append_right (Nat.le_refl _), Nat.sub_self]
  rfl
theorem at_ahead {α : Type} {l : List α} {x y : α} {t : Nat} (h : l[t]? = some y) : (l ++ [x])[t]? = some y := by
  rw [List.getElem?_append_left (List.getElem?_eq_some_iff.mp h).1]
  exact h
theorem at_snoc {α : Type} {l : List α} {x y : α} {t : Nat} (h : (l ++ [x])[t]? = some y) : l[t]? = some y ∧ t < l.length ∨ t = l.length ∧ y = x := by
  by_cases lt : t < l.length
  · rw [List.getElem?_append_left lt] at h
    exact .inl ⟨h, lt⟩
  · have := (List.getElem?_eq_some_iff.mp h).1
    rw [List.length_append, List.length_singleton] at this
    obtain rfl : t = l.length := by omega
    rw [at_end] at h
    exact .inr ⟨rfl, (Option.some.inj h).symm⟩
theorem mv_id {r : Rw} {n : Nat} (h : ∀ a b k, r = .cut a b k → a < n ∧ b < n) : mvL (List.range n) r = r := by
  cases r with
  | book b => rfl
  | cut a b k =>
    obtain ⟨l1, l2⟩ := h a b k rfl
    show Rw.cut _ _ _ = _
    rw [getD_at (x := a) (by rw [List.getElem?_eq_getElem (by rw [List.length_range]; exact l1), List.getElem_range]), getD_at (x := b) (by rw [List.getElem?_eq_getElem (by rw [List.length_range]; exact l2), List.getElem_range])]
/-! ### trimmed behind that -/
theorem pick_sub {α : Type} {l : List α} (d : α) : ∀ (ns : List Int) (lo : Nat), (∀ x ∈ ns, (lo : Int) ≤ x ∧ x < l.length) → ns.Pairwise (· < ·) → (ns.map fun x => l.getD x.toNat d).Sublist (l.drop lo)
  | [], _, _, _ => List.nil_sublist _
  | x :: t, lo, h, p => by
    obtain ⟨h1, h2⟩ := h x List.mem_cons_self
    rw [List.pairwise_cons] at p
    have ih := pick_sub d t (x.toNat + 1) (fun y hy => ⟨by have := p.1 y hy; omega, (h y (List.mem_cons_of_mem _ hy)).2⟩) p.2
    have lx : x.toNat < l.length := by omega
    refine List.Sublist.trans ?_ (List.drop_sublist_drop_left l (show lo ≤ x.toNat by omega))
    rw [List.map_cons, List.drop_eq_getElem_cons lx, getD_at (List.getElem?_eq_getElem lx)]
    exact ih.cons_cons _
theorem ul_last {rows : List Rw} {last : Nat} {ns : List Int} (dn : Dn rows) (u : UL rows last ns) : ns[ns.length - 1]? = some (last : Int) := by
  obtain ⟨z, hz⟩ := List.getElem?_of_mem ((u.me (last : Int)).mpr ⟨last, rfl, .self⟩)
  have lz := (List.getElem?_eq_some_iff.mp hz).1
  rcases Nat.lt_or_ge z (ns.length - 1) with y | y
  · have hy := List.getElem?_eq_getElem (show ns.length - 1 < ns.length by omega)
    have := up_at' u.up hz hy y
    obtain ⟨m, em, um⟩ := (u.me _).mp (List.mem_of_getElem? hy)
    have := um.le dn
    omega
  · rw [show ns.length - 1 = z by omega]
    exact hz
theorem mv_isCut {ns : List Int} {r r' : Rw} (h : Mv ns r r') : isCut' r' = isCut' r := by
  cases r with
  | book b =>
    have h : r' = .book b := h
    rw [h]
  | cut i j k =>
    obtain ⟨p, q, _, _, rfl⟩ := h
    rfl
theorem ul_lt {rows : List Rw} {last : Nat} {ns : List Int} (dn : Dn rows) (ll : last < rows.length) (u : UL rows last ns) : ∀ x ∈ ns, ((0 : Nat) : Int) ≤ x ∧ x < rows.length := fun x hx => by
  obtain ⟨m, em, um⟩ := (u.me _).mp hx
  have := um.le dn
  omega
theorem tr_cuts {rows rs : List Rw} {last : Nat} {ns : List Int} (dn : Dn rows) (ll : last < rows.length) (u : UL rows last ns) (t : Tr rows ns rs) (l : rs.length = ns.length) : rs.countP isCut' ≤ rows.countP isCut' := by
  have e : rs.map isCut' = (ns.map fun x => rows.getD x.toNat (.book 0)).map isCut' := by
    refine List.ext_getElem? fun k => ?_
    rw [List.getElem?_map, List.getElem?_map, List.getElem?_map]
    by_cases lk : k < rs.length
    · obtain ⟨n, r, e1, e2, m⟩ := t k _ (List.getElem?_eq_getElem lk)
      rw [List.getElem?_eq_getElem lk, e1]
      show some (isCut' rs[k]) = some (isCut' (rows.getD ((n : Int)).toNat (.book 0)))
      rw [Int.toNat_natCast, getD_at e2, mv_isCut m]
    · rw [List.getElem?_eq_none (by omega), List.getElem?_eq_none (by omega)]
      rfl
  have key : ∀ l : List Rw, l.countP isCut' = (l.map isCut').countP id := fun l => by
    rw [List.countP_map]
    rfl
  rw [key, e, ← key]
  have := pick_sub (.book 0) ns 0 (ul_lt dn ll u) u.up
  rw [List.drop_zero] at this
  exact this.countP_le
theorem tr_all {rows rs : List Rw} {last : Nat} {ns : List Int} (dn : Dn rows) (ll : last < rows.length) (u : UL rows last ns) (t : Tr rows ns rs) (l : rs.length = ns.length) (a : rs.length = rows.length) : rs = rows := by
  have lu := u.len dn
  have up := u.up
  have e : ns = iota rows.length := by
    refine up_unique up (iota_up _) fun x => ?_
    constructor
    · intro hx
      have := ul_lt dn ll u x hx
      exact List.mem_of_getElem? (i := x.toNat) (by rw [iota_at, if_pos (by omega)]; congr 1; omega)
    · intro hx
      refine Classical.byContradiction fun z => ?_
      obtain ⟨k, hk⟩ := List.getElem?_of_mem hx
      rw [iota_at] at hk
      split at hk
      · have := nd_len (ns := x :: ns) (m := rows.length) (List.nodup_cons.mpr ⟨z, up_nodup up⟩) fun y hy => by
          rcases List.mem_cons.mp hy with w | w
          · cases hk
            omega
          · have := ul_lt dn ll u y w
            omega
        rw [List.length_cons] at this
        omega
      · cases hk
  refine List.ext_getElem? fun k => ?_
  by_cases lk : k < rs.length
  · obtain ⟨n, r, e1, e2, m⟩ := t k _ (List.getElem?_eq_getElem lk)
    rw [e, iota_at, if_pos (by omega)] at e1
    have := Option.some.inj e1
    obtain rfl : k = n := by omega
    rw [e2, List.getElem?_eq_getElem lk]
    cases r with
    | book b =>
      have m : rs[k] = .book b := m
      rw [m]
    | cut i j k' =>
      obtain ⟨p, q, h1, h2, er⟩ := m
      rw [e, iota_at] at h1 h2
      split at h1
      · split at h2
        · have := Option.some.inj h1
          have := Option.some.inj h2
          obtain rfl : p = i := by omega
          obtain rfl : q = j := by omega
          rw [er]
        · cases h2
      · cases h1
  · rw [List.getElem?_eq_none (by omega), List.getElem?_eq_none (by omega)]
theorem bk_wr' {H : Hp} {R : Addr} {v : V} {xs ys : List V} {css : List (List Int)} (h : Bk H v css) (hR : H R = some (.lst xs)) : Bk (upd H R (.lst ys)) v css := by
  obtain ⟨a, vs, e, h, l, t⟩ := h
  refine ⟨a, vs, e, ?_, l, fun i x cs h1 h2 => Lp.TupI.wr (t i x cs h1 h2) hR⟩
  rw [upd_ne (fun z => by rw [z, hR] at h; cases h)]
  exact h
theorem at_last {xs : List V} {x : V} (h : xs[xs.length - 1]? = some x) : atI xs (-1) = some x := by
  have l := (List.getElem?_eq_some_iff.mp h).1
  unfold atI ixN
  rw [if_neg (by decide), if_pos (by omega)]
  show xs[(-1 + (xs.length : Int)).toNat]? = some x
  rw [show (-1 + (xs.length : Int)).toNat = xs.length - 1 by omega]
  exact h
end Mb
namespace Nm
open PySem PySem.Spec PyProof.Rows L2 GxR Nw Dr Kp Se Cl Ct Lr Lp Ll Od Wg Wl Wo Wk Un Um Wd Ba An Mb
/-! ### as wide, with no more rows and cuts, by the law's own look -/
section
variable {P : Program} {w : World} {K : PySem.W.Frag} {mg : Str → Option Value} {base : Heap}
/-- what stold tells of a ladder -/
def spStL : Sp := fun vs H Q _ => ∃ (b : V) (L : Addr) (css cls : List (List Int)) (rows : List Rw), vs = [b, .ref L] ∧ BL H b L css rows cls ∧ 1 ≤ rows.length ∧ css.length ≤ 16 ∧ ∀ t p H', Ke Nof H H' → H p = none → H' t = some (.tup [.ref p, .non]) → ClL H' p cls → Q (.ref t) H'
theorem sto_lad {f : Addr} {fd : FuncData} {k : Nat} (G : FnOk P w K mg base CX0 k f fd ["book", "rows"] spSto) : FnOk P w K mg base CX0 k f fd ["book", "rows"] spStL := by
  refine ok_weak G fun vs H Q E h => ?_
  obtain ⟨b, L, css, cls, rows, rfl, x, l0, c16, q⟩ := h
  have le := x.le
  have th : Th (rows.map dat) := ⟨or_rows (lad_b x.ib x.ld c16 le), by rw [List.length_map]; omega⟩
  obtain ⟨rvs, hL, aR⟩ := x.rw
  refine ⟨Nof, b, .ref L, css, rows.map dat, rfl, x.bk, x.ib, .lst hL (fun z => z) (rows_od aR), th.shaped, th.l60, fun t p av rs cs H2 k2 np ht hp tld => ?_⟩
  obtain ⟨_, e2⟩ := Ahead.one tld.ah ⟨x.ld, by rw [← List.map_take, List.take_length], le, by rw [List.length_map]; exact Nat.le_refl _, .inl (by rw [List.length_map])⟩
  subst e2
  rcases tld.at_ with ⟨rfl, _⟩ | ⟨_, no⟩
  · exact q t p H2 k2 np ht hp
  · exact absurd (isLad_rows x.ld l0 le) no
end
end Nm
namespace Sx
open PySem PySem.Spec PyProof.Rows L2 GxR Nw Dr Kp Se Cl Ct Lr Lp Ll Od Wg Wl Wo Wk Xb Un Lo Wd
/-! ### the law's dozens of claims, told twice -/
theorem lad_twice {css cls : List (List Int)} {rows : List Rw} (h : Lad css rows cls) : Lad css (rows ++ rows) (cls ++ cls) := by
  refine ⟨by rw [List.length_append, List.length_append, h.1], fun i r c h1 h2 => ?_⟩
  have l := h.1
  by_cases lt : i < rows.length
  · rw [List.getElem?_append_left lt] at h1
    rw [List.getElem?_append_left (by omega)] at h2
    rw [List.take_append_of_le_length (by omega)]
    exact h.2 i r c h1 h2
  · rw [List.getElem?_append_right (by omega)] at h1
    rw [List.getElem?_append_right (by omega), ← l] at h2
    have rc := h.2 _ r c h1 h2
    cases r with
    | book n => exact rc
    | cut a b k =>
      have la := lad_parts h h1
      have li := (List.getElem?_eq_some_iff.mp h1).1
      obtain ⟨x, y, e1, e2, e3⟩ := rc
      rw [List.getElem?_take, if_pos la.1] at e1
      rw [List.getElem?_take, if_pos la.2] at e2
      refine ⟨x, y, ?_, ?_, e3⟩
      · rw [List.getElem?_take, if_pos (by omega), List.getElem?_append_left (by omega)]
        exact e1
      · rw [List.getElem?_take, if_pos (by omega), List.getElem?_append_left (by omega)]
        exact e2
structure Zx (mg : Str → Option Value) : Prop where
  z_len : mg "len" = none
  z_range : mg "range" = none
  z_list : mg "list" = none
  z_sorted : mg "sorted" = none
  z_tuple : mg "tuple" = none
  z_any : mg "any" = none
section
variable {P : Program} {w : World} {K : PySem.W.Frag} {mg : Str → Option Value} {base : Heap}
abbrev sSix : Stmt := topS 53
abbrev nSix : List Str := ["feed", "things", "claims", "turn", "left", "says", "k", "thing", "book", "rows", "told", "row", "ways", "claim", "one"]
theorem scSix : FnScope nSix ["feed"] (defScope sSix) := ⟨rfl, rfl, rfl, by decide +kernel, rfl, by decide +kernel, by decide +kernel⟩
def spSix : Sp := fun vs H Q _ => ∃ (f c : Addr) (B : Nat), vs = [.ref f] ∧ Feed H f c B ∧ B ≤ 2 ^ 56 ∧
  ∀ (t L : Addr) (b : V) (css cls : List (List Int)) (rows : List Rw) (H' : Hp), Feed H' f c (B + 1000) → Ke (· = f) H H' → H' t = some (.tup [b, .ref L]) → L ≠ f → L ≠ c → Frs H L → BL H' b L css rows cls → css.length = 16 → 1 ≤ rows.length → rows.length ≤ 200 → Q (.ref t) H'
/-- rows and claims as they grow -/
structure Sq (f c R C : Addr) (css : List (List Int)) (rows : List Rw) (cls : List (List Int)) (B t : Nat) (H H' : Hp) : Prop where
  sv : Sv f c R C rows cls B H H'
  ld : Lad css rows cls
  le : rows.length ≤ t
  nn : t = 0 ∨ 1 ≤ rows.length
theorem ok_six {f fD fT fY fR fW : Addr} {fd fdD fdT fdY fdR fdW : FuncData} {k : Nat} (F : Fun K "_law_ssixty" "_law_ssixty" sSix f fd) (T : Zx mg) (FD : Fun K "_law_sdraw" "_law_sdraw" sDrw fD fdD) (bD : Binds K fdD ["feed", "many"] []) (gD : mg "_law_sdraw" = some (.ref fD)) (GD : FnOk P w K mg base CX0 2 fD fdD ["feed", "many"] spDrw)
    (FT : Fun K "_law_sthings" "_law_sthings" sThg fT fdT) (bT : Binds K fdT ["feed", "least", "most"] []) (gT : mg "_law_sthings" = some (.ref fT)) (GT : FnOk P w K mg base CX0 3 fT fdT ["feed", "least", "most"] spThg)
    (FY : Fun K "_law_sways" "_law_sways" sSwy fY fdY) (bY : Binds K fdY ["book", "claims", "i", "j"] []) (gY : mg "_law_sways" = some (.ref fY)) (GY : FnOk P w K mg base CX0 3 fY fdY ["book", "claims", "i", "j"] spSwy)
    (FR : Fun K "_law_srow" "_law_srow" sSrw fR fdR) (bR : Binds K fdR ["book", "claims", "row"] []) (gR : mg "_law_srow" = some (.ref fR)) (GR : FnOk P w K mg base CX0 2 fR fdR ["book", "claims", "row"] spSrw)
    (FW : Fun K "_law_swide" "_law_swide" sSwd fW fdW) (bW : Binds K fdW ["one", "other"] []) (gW : mg "_law_swide" = some (.ref fW)) (GW : FnOk P w K mg base CX0 1 fW fdW ["one", "other"] spSwd) :
    FnOk P w K mg base CX0 (k + 4) f fd ["feed"] spSix := by
  refine F.ok scSix (fun vs H Q E h => ?_) (fun cdv A outer s H vs Q E hr h => ?_)
  · obtain ⟨f, c, B, rfl, _⟩ := h
    rfl
  · obtain ⟨f, c, B, rfl, hF, hB, q⟩ := h
    have hr1 : Room 1 _ := hr.mono (by omega)
    have hr2 : Room 2 _ := hr.mono (by omega)
    have hr3 : Room 3 _ := hr.mono (by omega)
    refine ⟨_, (Evl.pss_cut (ps_set (i := 1) scSix.nd rfl (.inl rfl) (pe_call GT hr3 (by rfl) gT FT.kp bT .nil pass0 (pa_cons (pv 0) (pa_cons pe_int (pa_cons pe_int pa_nil)))))
      (Evl.pss_cut (ps_set (i := 2) scSix.nd rfl (.inl rfl) (pe_lstN pa_nil))
      (Evl.pss_cut (ps_for PassesOwn.never rfl (pi_range1 (by rfl) T.z_range (pa_cons pe_int pa_nil)) (pg_name (i := 3) scSix.nd rfl (.inl rfl)) (Evl.pss_cut (ps_set (i := 4) scSix.nd rfl (.inl rfl) (pe_callTy call_list_ofN (by rfl) T.z_list (by decide +kernel) (pa_cons (pv 1) pa_nil)))
      (Evl.pss_cut (ps_set (i := 5) scSix.nd rfl (.inl rfl) (pe_lstN pa_nil))
      (Evl.pss_cut (ps_for PassesOwn.never rfl (pi_range1 (by rfl) T.z_range (pa_cons pe_int pa_nil)) (pg_name (i := 6) scSix.nd rfl (.inl rfl)) (pss_cons (ps_set (i := 7) scSix.nd rfl (.inl rfl) (pe_bm PySem.F.plainAttrs_list PySem.F.slot_list_pop PySem.F.type_list_pop mt_popAt (pv 4) (pa_cons (pe_call GD hr2 (by rfl) gD FD.kp bD .nil pass0 (pa_cons (pv 0) (pa_cons (pe_callB call_len_seq (by rfl) T.z_len (by decide +kernel) (pa_cons (pv 4) pa_nil)) pa_nil))) pa_nil)))
      (pss_one (ps_expr (pe_bm PySem.F.plainAttrs_list PySem.F.slot_list_append PySem.F.type_list_append mt_append (pv 5) (pa_cons (pe_ix ix_list (pe_lstN (pa_cons (pv 7) (pa_cons (pe_op op_sub pe_int (pv 7)) pa_nil))) (pe_call GD hr2 (by rfl) gD FD.kp bD .nil pass0 (pa_cons (pv 0) (pa_cons pe_int pa_nil))) (fun _ _ => rfl)) pa_nil))))))
      (pss_one (ps_expr (pe_bm PySem.F.plainAttrs_list PySem.F.slot_list_append PySem.F.type_list_append mt_append (pv 2) (pa_cons (pe_callTy call_tuple_ofN (by rfl) T.z_tuple (by decide +kernel) (pa_cons (pe_callB cr_sortedN (by rfl) T.z_sorted (by decide +kernel) (pa_cons (pv 5) pa_nil)) pa_nil)) pa_nil))))))))
      (Evl.pss_cut (ps_set (i := 8) scSix.nd rfl (.inl rfl) (pe_callTy call_tuple_ofN (by rfl) T.z_tuple (by decide +kernel) (pa_cons (pv 2) pa_nil)))
      (Evl.pss_cut (ps_set (i := 9) scSix.nd rfl (.inl rfl) (pe_lstN pa_nil))
      (Evl.pss_cut (ps_set (i := 10) scSix.nd rfl (.inl rfl) (pe_lstN pa_nil))
      (Evl.pss_cut (ps_for PassesOwn.never rfl (pi_range1 (by rfl) T.z_range (pa_cons pe_int pa_nil)) (pg_name (i := 3) scSix.nd rfl (.inl rfl)) (Evl.pss_cut (ps_set (i := 11) scSix.nd rfl (.inl rfl) (pe_tupN (pa_cons pe_str (pa_cons (pe_call GD hr2 (by rfl) gD FD.kp bD .nil pass0 (pa_cons (pv 0) (pa_cons pe_int pa_nil))) pa_nil))))
      (Evl.pss_cut (ps_if (PW.pt (pw_and (pt_cmpR (op_neD hr.units) (pv 9) (pe_lstN pa_nil) (nomark _)) (pw_and1 (pt_cmpR op_gt (pe_call GD hr2 (by rfl) gD FD.kp bD .nil pass0 (pa_cons (pv 0) (pa_cons pe_int pa_nil))) pe_int (nomark _))))) (Evl.pss_cut (ps_set (i := 12) scSix.nd rfl (.inl rfl) (pe_call GY hr3 (by rfl) gY FY.kp bY .nil pass0 (pa_cons (pv 8) (pa_cons (pv 10) (pa_cons (pe_call GD hr2 (by rfl) gD FD.kp bD .nil pass0 (pa_cons (pv 0) (pa_cons (pe_callB call_len_seq (by rfl) T.z_len (by decide +kernel) (pa_cons (pv 9) pa_nil)) pa_nil))) (pa_cons (pe_op op_sub (pe_callB call_len_seq (by rfl) T.z_len (by decide +kernel) (pa_cons (pv 9) pa_nil)) pe_int) pa_nil))))))
      (pss_one (ps_set (i := 11) scSix.nd rfl (.inl rfl) (pe_ix ix_list (pe_op op_catN (pv 12) (pe_lstN (pa_cons (pv 11) pa_nil))) pe_int (fun _ _ => rfl))))) pss_nil)
      (Evl.pss_cut (ps_set (i := 13) scSix.nd rfl (.inr rfl) (pe_call GR hr2 (by rfl) gR FR.kp bR .nil pass0 (pa_cons (pv 8) (pa_cons (pv 10) (pa_cons (pv 11) pa_nil)))))
      (pss_one (ps_if (pt_not (pt_val (pe_callB (cr_any rfl) (by rfl) T.z_any (by decide +kernel) (pa_cons (pe_lc (own := [("one", 14)]) (g := (gName 14)) (tt := tYes) rfl scSix.nd (pi_list (pv 10)) (blkOk_by (N := nSix) (sc := defScope sSix) (by decide +kernel)) (fun _ _ _ _ _ => (pg_name (i := 14) scSix.nd rfl (.inl rfl))) (fun _ _ _ _ _ => pts_nil) (fun _ _ _ _ _ => (pe_call GW hr1 (by rfl) gW FW.kp bW .nil pass0 (pa_cons (pv 14) (pa_cons (pv 13) pa_nil))))) pa_nil)))) (pss_cons (ps_expr (pe_bm PySem.F.plainAttrs_list PySem.F.slot_list_append PySem.F.type_list_append mt_append (pv 9) (pa_cons (pv 11) pa_nil)))
      (pss_one (ps_expr (pe_bm PySem.F.plainAttrs_list PySem.F.slot_list_append PySem.F.type_list_append mt_append (pv 10) (pa_cons (pv 13) pa_nil))))) pss_nil))))))
      (pss_one (ps_ret (pe_tupN (pa_cons (pv 8) (pa_cons (pe_slice sl_listN (pe_op op_catN (pv 9) (pv 9)) po_none (po_some pe_int)) pa_nil)))))))))))), ?_⟩
    -- things
    refine Evl.q_cut (M := fun σ' H' => ∃ (t : Addr) (ks : List Int), σ' = some (.ref f) :: some (.ref t) :: List.replicate 13 none ∧ Feed H' f c (B + 10) ∧ Ke (· = f) H H' ∧ H' t = some (.lst (ks.map V.int)) ∧ t ≠ f ∧ Thg ks ∧ 6 ≤ ks.length) ?_ ?_
    · refine ⟨_, rfl, f, c, 6, 8, B, rfl, by decide, by decide, by decide, hF, by omega, fun ks p H1 F1 k1 fr hp Tk l1 l2 => ?_⟩
      exact ⟨p, ks, rfl, F1, k1, hp, (not_f fr hF).1, Tk, by omega⟩
    rintro σ' H1 ⟨t, ks, rfl, F1, k1, ht, ntf, Tk, l6⟩
    -- claims
    refine Evl.q_cut (M := fun σ' H' => ∃ D : Addr, σ' = some (.ref f) :: some (.ref t) :: some (.ref D) :: List.replicate 12 none ∧ H1 D = none ∧ Same H1 H' ∧ H' D = some (.lst [])) ?_ ?_
    · exact ⟨Nat.zero_le _, fun D H2 nD s2 hD _ => ⟨D, rfl, nD, s2, hD⟩⟩
    rintro σ' H2 ⟨D, rfl, nD, s2, hD⟩
    have nDf : D ≠ f := F1.nf nD
    have nDc : D ≠ c := F1.nc nD
    have tl := Tk.len
    refine Evl.q_cut (M := fun σ' H' => ∃ (y3 y4 y5 y6 y7 : Option V) (css : List (List Int)), σ' = [some (.ref f), some (.ref t), some (.ref D), y3, y4, y5, y6, y7, none, none, none, none, none, none, none] ∧ Feed H' f c (B + 200) ∧ Ke (· = f) H H' ∧ ClL H' D css ∧ css.length = 16 ∧ ∀ x ∈ css, IsCl x) ?_ ?_
    · refine ⟨16, rfl, by decide, by decide, for_range (Pv := fun i σ H' => ∃ (y3 y4 y5 y6 y7 : Option V) (css : List (List Int)), σ = [some (.ref f), some (.ref t), some (.ref D), y3, y4, y5, y6, y7, none, none, none, none, none, none, none] ∧ Feed H' f c (B + 10 + 10 * i) ∧ Ke (· = f) H1 H' ∧ ClL H' D css ∧ css.length = i ∧ ∀ x ∈ css, IsCl x) ?_ ?_ ?_⟩
      · exact ⟨none, none, none, none, none, [], rfl, F1.same s2, .same s2, ⟨[], hD, .nil⟩, rfl, fun x hx => (nomatch hx)⟩
      · rintro i σ G1 hi ⟨y3, y4, y5, y6, y7, css, rfl, FG, kG, hDc, lcs, ics⟩
        have hi : i < 16 := hi
        have ht1 := kG.lst ht ntf
        -- left
        refine Evl.q_cut (M := fun σ' H' => ∃ L : Addr, σ' = [some (.ref f), some (.ref t), some (.ref D), some (.int (0 + (i : Int))), some (.ref L), y5, y6, y7, none, none, none, none, none, none, none] ∧ G1 L = none ∧ Same G1 H' ∧ H' L = some (.lst (ks.map V.int))) ?_ ?_
        · exact ⟨_, rfl, t, _, rfl, .inl (.of ht1), fun L G2 nL s3 hL _ => ⟨L, rfl, nL, s3, hL⟩⟩
        rintro σ' G2 ⟨L, rfl, nL, s3, hL⟩
        -- says
        refine Evl.q_cut (M := fun σ' H' => ∃ S : Addr, σ' = [some (.ref f), some (.ref t), some (.ref D), some (.int (0 + (i : Int))), some (.ref L), some (.ref S), y6, y7, none, none, none, none, none, none, none] ∧ G2 S = none ∧ Same G2 H' ∧ H' S = some (.lst [])) ?_ ?_
        · exact ⟨Nat.zero_le _, fun S G3 nS s4 hS _ => ⟨S, rfl, nS, s4, hS⟩⟩
        rintro σ' G3 ⟨S, rfl, nS, s4, hS⟩
        have F3 : Feed G3 f c (B + 10 + 10 * i) := FG.same (s3.trans s4)
        have nLf : L ≠ f := FG.nf nL
        have nLc : L ≠ c := FG.nc nL
        have nSL : S ≠ L := Ne.symm (ne_of_none hL nS)
        have nSf : S ≠ f := (FG.same s3).nf nS
        have nSc : S ≠ c := (FG.same s3).nc nS
        have frL : Frs G1 L := .of nL
        have frS : Frs G1 S := .of (s3.free nS)
        have hL3 : G3 L = some (.lst (ks.map V.int)) := s4 _ _ hL
        have k3 : Ke (· = f) G1 G3 := .same (s3.trans s4)
        refine Evl.q_cut (M := fun σ' H' => ∃ (y6 y7 : Option V) (left says : List Int), σ' = [some (.ref f), some (.ref t), some (.ref D), some (.int (0 + (i : Int))), some (.ref L), some (.ref S), y6, y7, none, none, none, none, none, none, none] ∧ Feed H' f c (B + 10 + 10 * i + 6) ∧ Ke (· = f) G1 H' ∧ H' S = some (.lst (says.map V.int)) ∧ ((says.map fun s => (s.natAbs : Int)) ++ left).Perm ks) ?_ ?_
        · refine ⟨3, rfl, by decide, by decide, for_range (Pv := fun j σ H' => ∃ (y6 y7 : Option V) (left says : List Int), σ = [some (.ref f), some (.ref t), some (.ref D), some (.int (0 + (i : Int))), some (.ref L), some (.ref S), y6, y7, none, none, none, none, none, none, none] ∧ Feed H' f c (B + 10 + 10 * i + 2 * j) ∧ Ke (· = f) G1 H' ∧ H' L = some (.lst (left.map V.int)) ∧ H' S = some (.lst (says.map V.int)) ∧
            left.length = ks.length - j ∧ says.length = j ∧ ((says.map fun s => (s.natAbs : Int)) ++ left).Perm ks) ?_ ?_ ?_⟩
          · exact ⟨y6, y7, ks, [], rfl, F3, k3, hL3, hS, rfl, rfl, .refl _⟩
          · rintro j σ H' hj ⟨y6, y7, left, says, rfl, F4, k4, hL4, hS4, ll, ls, pm⟩
            have hj : j < 3 := hj
            refine ⟨_, rfl, .inl ⟨rfl, _, .of hL4⟩, _, rfl, _, rfl, L, _, rfl, .inl (.of hL4), f, c, _, _, rfl, ?_, ?_, F4, by omega, fun d H5 d0 d1 F5 b5 => ?_⟩
            · rw [List.length_map]
              omega
            · rw [List.length_map]
              omega
            rw [List.length_map] at d1
            have dl : d.toNat < left.length := by omega
            have hL5 : H5 L = some (.lst (left.map V.int)) := (b5 L nLf).trans hL4
            have hS5 : H5 S = some (.lst (says.map V.int)) := (b5 S nSf).trans hS4
            have k5 : Ke (· = f) G1 H5 := k4.trans (.but F4 b5)
            refine ⟨L, _, d, d.toNat, .int left[d.toNat], rfl, rfl, hL5, by omega, by omega, by rw [List.length_map]; exact ix_seq d0 d1, by rw [List.getElem?_map, List.getElem?_eq_getElem dl]; rfl, ?_⟩
            have pp := perm_pop (List.getElem?_eq_getElem dl)
            have y1 := Tk.one left[d.toNat] (pm.mem_iff.mp (List.mem_append_right _ (List.getElem_mem dl)))
            generalize left[d.toNat] = y at pp y1
            have F6 : Feed (upd H5 L (.lst ((left.map V.int).eraseIdx d.toNat))) f c (B + 10 + 10 * i + 2 * j + 1) := F5.upd nLf nLc
            have k6 : Ke (· = f) G1 (upd H5 L (.lst ((left.map V.int).eraseIdx d.toNat))) := k5.write frL hL5
            have hL6 : (upd H5 L (.lst ((left.map V.int).eraseIdx d.toNat))) L = some (.lst ((left.eraseIdx d.toNat).map V.int)) := by rw [upd_same, erase_map]
            have hS6 : (upd H5 L (.lst ((left.map V.int).eraseIdx d.toNat))) S = some (.lst (says.map V.int)) := by rw [upd_ne nSL]; exact hS5
            generalize (upd H5 L (.lst ((left.map V.int).eraseIdx d.toNat))) = H6 at F6 k6 hL6 hS6 ⊢
            refine ⟨_, rfl, .inl ⟨rfl, _, .of hS6⟩, _, rfl, _, rfl, _, _, rfl, rfl, by show 2 ≤ sizeLine; decide, fun p H7 np s7 hp _ => ?_⟩
            refine ⟨_, rfl, f, c, 2, _, rfl, by decide, by decide, F6.same s7, by omega, fun e H8 e0 e1 F8 b8 => ?_⟩
            have npf : p ≠ f := F6.nf np
            have hp8 := (b8 p npf).trans hp
            have hS8 : H8 S = some (.lst (says.map V.int)) := (b8 S nSf).trans (s7 _ _ hS6)
            have hL8 : H8 L = some (.lst ((left.eraseIdx d.toNat).map V.int)) := (b8 L nLf).trans (s7 _ _ hL6)
            have k8 : Ke (· = f) G1 H8 := (k6.trans (.same s7)).trans (.but (F6.same s7) b8)
            have two : e = 0 ∨ e = 1 := by omega
            have go : ∀ z : Int, (z.natAbs : Int) = y → ((says ++ [z]).map (fun s => (s.natAbs : Int)) ++ left.eraseIdx d.toNat).Perm ks := fun z hz => by
              refine List.Perm.trans ?_ pm
              rw [List.map_append, List.append_assoc, List.map_singleton, hz]
              exact (List.Perm.refl _).append pp
            rcases two with rfl | rfl
            · refine ⟨p, _, 0, .int y, rfl, rfl, .of hp8, rfl, S, _, _, rfl, rfl, hS8, by rw [List.length_map]; exact small1000 (by omega), ?_⟩
              refine ⟨_, _, left.eraseIdx d.toNat, says ++ [y], rfl, (F8.upd nSf nSc).mono (by omega), k8.write frS hS8, by rw [upd_ne (Ne.symm nSL)]; exact hL8, by rw [upd_same, List.map_append]; rfl, by rw [erase_len dl]; omega, by rw [List.length_append, ls]; rfl, go y (by omega)⟩
            · refine ⟨p, _, 1, .int (0 - y), rfl, rfl, .of hp8, rfl, S, _, _, rfl, rfl, hS8, by rw [List.length_map]; exact small1000 (by omega), ?_⟩
              refine ⟨_, _, left.eraseIdx d.toNat, says ++ [0 - y], rfl, (F8.upd nSf nSc).mono (by omega), k8.write frS hS8, by rw [upd_ne (Ne.symm nSL)]; exact hL8, by rw [upd_same, List.map_append]; rfl, by rw [erase_len dl]; omega, by rw [List.length_append, ls]; rfl, go (0 - y) (by omega)⟩
          · rintro σ H' ⟨y6, y7, left, says, rfl, F4, k4, hL4, hS4, ll, ls, pm⟩
            exact ⟨y6, y7, left, says, rfl, F4.mono (by show B + 10 + 10 * i + 2 * 3 ≤ _; omega), k4, hS4, pm⟩
        rintro σ' G4 ⟨y6', y7', left, says, rfl, F4, k4, hS4, pm⟩
        obtain ⟨dvs, hD1, aD⟩ := hDc
        have hD4 := k4.lst hD1 nDf
        have ld := aD.1
        refine ⟨_, rfl, .inl ⟨rfl, _, .of hD4⟩, _, rfl, S, says, rfl, .of hS4, fun ns pn so p H5 np s5 hp _ => ?_⟩
        refine ⟨p, _, rfl, .of hp, fun p2 H6 np2 s6 hp2 _ => ?_⟩
        obtain ⟨icn, _⟩ := cl_of Tk pm pn so
        have s46 := s5.trans s6
        have hD6 := s46 _ _ hD4
        have k46 : Ke (· = f) G1 H6 := k4.trans (.same s46)
        refine ⟨D, _, _, rfl, rfl, hD6, small1000 (by omega), ?_⟩
        refine ⟨_, _, _, _, _, css ++ [ns], rfl, ((F4.same s46).upd nDf nDc).mono (by omega), (kG.trans k46).upd nD, cl_snoc hD6 (aD.imp fun _ _ h => h.ke k46) ⟨p2, rfl, hp2⟩, by rw [List.length_append, lcs]; rfl, fun x hx => ?_⟩
        rcases List.mem_append.mp hx with z | z
        · exact ics x z
        · rw [List.mem_singleton.mp z]
          exact icn
      · rintro σ G1 ⟨y3, y4, y5, y6, y7, css, rfl, FG, kG, hDc, lcs, ics⟩
        exact ⟨y3, y4, y5, y6, y7, css, rfl, FG.mono (by show B + 10 + 10 * 16 ≤ _; omega), k1.trans kG, hDc, lcs, ics⟩
    clear hD s2 H2 nD nDf nDc ht F1 k1 H1
    rintro σ' H1 ⟨y3, y4, y5, y6, y7, css, rfl, F1, k1, ⟨dvs, hD, aD⟩, l16, ib⟩
    -- book
    refine Evl.q_cut (M := fun σ' H' => ∃ (ba : Addr) (bvs : List V), σ' = [some (.ref f), some (.ref t), some (.ref D), y3, y4, y5, y6, y7, some (.ref ba), none, none, none, none, none, none] ∧ Feed H' f c (B + 200) ∧ Ke (· = f) H H' ∧ H' ba = some (.tup bvs) ∧ All2 (TupI H') bvs css) ?_ ?_
    · refine ⟨_, rfl, D, _, rfl, .of hD, fun p H3 np s3 hp _ => ?_⟩
      exact ⟨p, _, rfl, F1.same s3, k1.trans (.same s3), hp, aD.imp fun _ _ h => h.ke (Ke.same (F := Nof) s3)⟩
    clear hD aD F1 k1 H1 dvs
    rintro σ' H1 ⟨ba, bvs, rfl, F1, k1, hbt, aB⟩
    have hb : Bk H1 (.ref ba) css := ⟨ba, bvs, rfl, hbt, aB.1, aB.2⟩
    have lb := aB.1
    -- rows, told
    refine Evl.q_cut (M := fun σ' H' => ∃ R : Addr, σ' = [some (.ref f), some (.ref t), some (.ref D), y3, y4, y5, y6, y7, some (.ref ba), some (.ref R), none, none, none, none, none] ∧ H1 R = none ∧ Same H1 H' ∧ H' R = some (.lst [])) ?_ ?_
    · exact ⟨Nat.zero_le _, fun R H2 nR s2 hR _ => ⟨R, rfl, nR, s2, hR⟩⟩
    rintro σ' H2 ⟨R, rfl, nR, s2, hR⟩
    refine Evl.q_cut (M := fun σ' H' => ∃ C : Addr, σ' = [some (.ref f), some (.ref t), some (.ref D), y3, y4, y5, y6, y7, some (.ref ba), some (.ref R), some (.ref C), none, none, none, none] ∧ Sq f c R C css [] [] (B + 200) 0 H1 H' ∧ Frs H1 R ∧ R ≠ f ∧ R ≠ c ∧ Frs H1 C ∧ C ≠ f ∧ C ≠ c ∧ C ≠ R) ?_ ?_
    · refine ⟨Nat.zero_le _, fun C H3 nC s3 hC _ => ?_⟩
      have s13 := s2.trans s3
      exact ⟨C, rfl, ⟨⟨F1.same s13, .same s13, ⟨[], s3 _ _ hR, .nil⟩, ⟨[], hC, .nil⟩⟩, .nil css, Nat.zero_le _, .inl rfl⟩, .of nR, F1.nf nR, F1.nc nR, .of (s2.free nC), (F1.same s2).nf nC, (F1.same s2).nc nC, Ne.symm (ne_of_none hR nC)⟩
    clear nR s2 hR H2
    rintro σ' H2 ⟨C, rfl, x1, frR, nRf, nRc, frC, nCf, nCc, nCR⟩
    refine Evl.q_cut (M := fun σ' H' => ∃ (rows : List Rw) (cls : List (List Int)) (y3 y11 y12 y13 : Option V), σ' = [some (.ref f), some (.ref t), some (.ref D), y3, y4, y5, y6, y7, some (.ref ba), some (.ref R), some (.ref C), y11, y12, y13, none] ∧ Sq f c R C css rows cls (B + 200 + 5 * 110) 110 H1 H') ?_ ?_
    · refine ⟨110, rfl, by decide, by decide, for_range (Pv := fun i σ H' => ∃ (rows : List Rw) (cls : List (List Int)) (y3 y11 y12 y13 : Option V), σ = [some (.ref f), some (.ref t), some (.ref D), y3, y4, y5, y6, y7, some (.ref ba), some (.ref R), some (.ref C), y11, y12, y13, none] ∧ Sq f c R C css rows cls (B + 200 + 5 * i) i H1 H') ?_ ?_ ?_⟩
      · exact ⟨[], [], y3, none, none, none, rfl, x1⟩
      · clear x1 H2 y3
        rintro i σ H3 hi ⟨rows, cls, y3, y11, y12, y13, rfl, x3⟩
        have hi : i < 110 := hi
        have lt := x3.le
        have nn := x3.nn
        have ld := x3.ld
        have lcl := ld.1
        have icl := ld.isCl ib
        -- a row of the book
        refine Evl.q_cut (M := fun σ' H' => ∃ (v : V) (n : Nat), σ' = [some (.ref f), some (.ref t), some (.ref D), some (.int (0 + (i : Int))), y4, y5, y6, y7, some (.ref ba), some (.ref R), some (.ref C), some v, y12, y13, none] ∧ Sv f c R C rows cls (B + 200 + 5 * i + 1) H1 H' ∧ n < css.length ∧ RowAt H' v (.book n)) ?_ ?_
        · refine ⟨_, rfl, f, c, 16, _, rfl, by decide, by decide, x3.sv.fe, by omega, fun d H8 d0 d1 F8 b8 => ?_⟩
          refine ⟨by show 2 ≤ sizeLine; decide, fun p H9 np s9 hp _ => ?_⟩
          have k8 : Ke (· = f) H3 H8 := .but x3.sv.fe b8
          have e : d = ((d.toNat : Nat) : Int) := (Int.toNat_of_nonneg d0).symm
          rw [e] at hp
          exact ⟨_, d.toNat, rfl, (x3.sv.step k8 F8 nRf nCf).same s9 nRf nCf, by omega, p, rfl, hp⟩
        rintro σ' H4 ⟨v, n, rfl, x4, ln, rv⟩
        -- or one of the ways
        refine Evl.q_cut (M := fun σ' H' => ∃ (v : V) (r : Rw) (cr : List Int) (y12 : Option V), σ' = [some (.ref f), some (.ref t), some (.ref D), some (.int (0 + (i : Int))), y4, y5, y6, y7, some (.ref ba), some (.ref R), some (.ref C), some v, y12, y13, none] ∧ Sv f c R C rows cls (B + 200 + 5 * i + 4) H1 H' ∧ RowAt H' v r ∧ RowCl css cls r cr) ?_ ?_
        · have no : ∀ H', Sv f c R C rows cls (B + 200 + 5 * i + 2) H1 H' → RowAt H' v (.book n) → ∃ (v' : V) (r : Rw) (cr : List Int) (y12' : Option V), [some (.ref f), some (.ref t), some (.ref D), some (.int (0 + (i : Int))), y4, y5, y6, y7, some (.ref ba), some (.ref R), some (.ref C), some v, y12, y13, none] = [some (.ref f), some (.ref t), some (.ref D), some (.int (0 + (i : Int))), y4, y5, y6, y7, some (.ref ba), some (.ref R), some (.ref C), some v', y12', y13, none] ∧ Sv f c R C rows cls (B + 200 + 5 * i + 4) H1 H' ∧ RowAt H' v' r ∧ RowCl css cls r cr := fun H' x' r' => ⟨v, .book n, css[n], y12, rfl, ⟨x'.fe.mono (by omega), x'.ke, x'.rw, x'.cl⟩, r', List.getElem?_eq_getElem ln⟩
          refine ⟨_, rfl, Nat.zero_le _, fun p H5 np s5 hp _ => ?_⟩
          have x5 := x4.same s5 nRf nCf
          have rv5 := rv.ke (Ke.same (F := Nof) s5)
          obtain ⟨rvs, hR5, aR5⟩ := id x5.rw
          refine ⟨.list (rows.map dat), .list [], .lst (.of hR5) (dp_rows aR5), .lst (.of hp) .nil, shaped_rows rows, rfl, _, rfl, ite2 (fun e => ?_) (fun e => ?_)⟩
          · have l1 : 1 ≤ rows.length := by
              rcases Nat.eq_zero_or_pos rows.length with z | z
              · have : rows = [] := List.length_eq_zero_iff.mp z
                subst this
                cases e
              · exact z
            refine ⟨_, rfl, f, c, 5, _, rfl, by decide, by decide, x5.fe, by omega, fun d H6 d0 d1 F6 b6 => ?_⟩
            have k6 : Ke (· = f) H5 H6 := .but x5.fe b6
            have x6 := x5.step k6 F6 nRf nCf
            have rv6 := rv5.ke k6
            refine ⟨_, _, rfl, rfl, _, rfl, ite2 (fun e => ?_) (fun e => no H6 x6 rv6)⟩
            -- ways
            refine Evl.q_cut (M := fun σ' H' => ∃ (W : Addr) (ws : List Rw), σ' = [some (.ref f), some (.ref t), some (.ref D), some (.int (0 + (i : Int))), y4, y5, y6, y7, some (.ref ba), some (.ref R), some (.ref C), some v, some (.ref W), y13, none] ∧ Sv f c R C rows cls (B + 200 + 5 * i + 3) H1 H' ∧ RowAt H' v (.book n) ∧ RwL H' W ws ∧ ws.length ≤ 16 ∧ ∀ r ∈ ws, ∃ c, RowCl css cls r c) ?_ ?_
            · obtain ⟨rvs, hR6, aR6⟩ := id x6.rw
              have lr6 := aR6.1
              refine ⟨_, rfl, _, rfl, _, rfl, _, rfl, R, _, rfl, .inl (.of hR6), f, c, _, _, rfl, by omega, by omega, x6.fe, by omega, fun d H7 d0 d1 F7 b7 => ?_⟩
              have k7 : Ke (· = f) H6 H7 := .but x6.fe b7
              have x7 := x6.step k7 F7 nRf nCf
              refine ⟨_, rfl, R, _, rfl, .inl (.of (k7.lst hR6 nRf)), _, _, rfl, rfl, .ref ba, C, d.toNat, rows.length - 1, css, cls, ?_, hb.ke x7.ke, x7.cl, ib, icl, fun W ws H8 s8 hW lw ok => ?_⟩
              · show [V.ref ba, V.ref C, V.int d, V.int (((rvs.length : Nat) : Int) - 1)] = _
                rw [show ((rvs.length : Nat) : Int) - 1 = ((rows.length - 1 : Nat) : Int) by omega, Int.toNat_of_nonneg d0]
              · exact ⟨W, ws, rfl, x7.same s8 nRf nCf, (rv6.ke k7).ke (Ke.same (F := Nof) s8), hW, lw, ok⟩
            clear x5 x6 rv5 rv6 hR5 aR5
            rintro σ' H7 ⟨W, ws, rfl, x7, rv7, ⟨wvs, hW, aW⟩, lw, ok⟩
            have lw2 := aW.1
            refine ⟨_, rfl, _, rfl, by show 1 ≤ sizeLine; decide, fun p2 H8 np2 s8 hp2 _ => ?_⟩
            refine ⟨W, p2, _, _, rfl, rfl, s8 _ _ hW, hp2, Nat.le_trans (by rw [List.length_singleton]; omega : _ ≤ 1000) (by decide), fun Z H9 nZ s9 hZ _ => ?_⟩
            have s79 := s8.trans s9
            have x9 := x7.same s79 nRf nCf
            have rv9 := rv7.ke (Ke.same (F := Nof) s79)
            have key : ∃ (v' : V) (r : Rw) (cr : List Int), (wvs ++ [v])[0]? = some v' ∧ RowAt H9 v' r ∧ RowCl css cls r cr := by
              match wvs, ws, aW, ok with
              | [], _, _, _ => exact ⟨v, .book n, css[n], rfl, rv9, List.getElem?_eq_getElem ln⟩
              | v0 :: vt, [], aW, _ => cases aW.1
              | v0 :: vt, r0 :: rt, aW, ok =>
                obtain ⟨cr, hcr⟩ := ok r0 List.mem_cons_self
                exact ⟨v0, r0, cr, rfl, (aW.2 0 v0 r0 rfl rfl).ke (Ke.same (F := Nof) s79), hcr⟩
            obtain ⟨v', r, cr, e0, rv', rc⟩ := key
            exact ⟨Z, _, 0, v', rfl, rfl, .of hZ, at_of (j := 0) rfl e0, v', r, cr, _, rfl, ⟨x9.fe.mono (by omega), x9.ke, x9.rw, x9.cl⟩, rv', rc⟩
          · exact no H5 ⟨x5.fe.mono (by omega), x5.ke, x5.rw, x5.cl⟩ rv5
        clear rv x4 v y12
        rintro σ' H5 ⟨v, r, cr, y12, rfl, x5, rv, rc⟩
        -- claim
        refine Evl.q_cut (M := fun σ' H' => ∃ p : Addr, σ' = [some (.ref f), some (.ref t), some (.ref D), some (.int (0 + (i : Int))), y4, y5, y6, y7, some (.ref ba), some (.ref R), some (.ref C), some v, y12, some (.ref p), none] ∧ Sv f c R C rows cls (B + 200 + 5 * i + 4) H1 H' ∧ RowAt H' v r ∧ H' p = some (.tup (cr.map V.int))) ?_ ?_
        · refine ⟨_, rfl, _, rfl, _, rfl, .ref ba, v, C, css, cls, r, rfl, hb.ke x5.ke, x5.cl, rv, ib, icl, fun H6 s6 no => (no _ rc).elim, fun c' p H6 s6 rc' hp => ?_⟩
          obtain rfl := rc.one rc'
          exact ⟨p, rfl, x5.same s6 nRf nCf, rv.ke (Ke.same (F := Nof) s6), hp⟩
        clear x5 rv
        rintro σ' H6 ⟨p, rfl, x6, rv, hp⟩
        obtain ⟨cvs, hC6, aC⟩ := id x6.cl
        have lca := aC.1
        refine ⟨_, rfl, C, rfl, ⟨_, .of hC6⟩, fun Z nZ => ?_⟩
        refine lc_list (xs := cvs) (Pv := fun u H' => Same H6 H' ∧ H' Z = some (.lst (((cls.take u).map fun y => wideB y cr).map V.bl))) ⟨same_new nZ, upd_same⟩ (fun u H' _ z => .of (z.1 _ _ hC6)) ?_ ?_
        · rintro u x H7 hx ⟨s7, hZ⟩
          obtain ⟨d, hd, td⟩ := aC.at hx
          have lu := (List.getElem?_eq_some_iff.mp hd).1
          have k7 : Ke Nof H6 H7 := .same s7
          refine ⟨rfl, _, rfl, _, rfl, x, .ref p, d, cr, rfl, td.ke k7, ⟨p, rfl, s7 _ _ hp⟩, Nat.le_trans (icl d (List.mem_of_getElem? hd)).len (by decide), fun H8 s8 => ⟨_, s8 _ _ hZ, small1000 (by rw [List.length_map, List.length_map, List.length_take]; omega), fun b' o y => ?_, ?_⟩⟩
          · rw [upd_ne (ne_of_none y nZ)]
            exact (s7.trans s8) _ _ y
          · rw [upd_same, take_snoc hd, List.map_append, List.map_append]
            rfl
        · rintro H7 ⟨s7, hZ⟩
          rw [lca, List.take_length] at hZ
          have x7 := x6.same s7 nRf nCf
          have rv7 := rv.ke (Ke.same (F := Nof) s7)
          refine ⟨Z, cls.map fun y => wideB y cr, rfl, .of hZ, _, rfl, ite2 (fun e => ?_) (fun e => ?_)⟩
          · obtain ⟨rvs, hR8, aR⟩ := id x7.rw
            obtain ⟨cvs, hC8, aC⟩ := id x7.cl
            have l1 := aR.1
            have l2 := aC.1
            refine ⟨_, rfl, .inl ⟨rfl, _, .of hR8⟩, _, rfl, R, _, _, rfl, rfl, hR8, small1000 (by omega), ?_⟩
            have hC9 : (upd H7 R (.lst (rvs ++ [v]))) C = some (.lst cvs) := by rw [upd_ne nCR]; exact hC8
            have aC9 : All2 (TupI (upd H7 R (.lst (rvs ++ [v])))) cvs cls := aC.imp fun _ _ h => Lp.TupI.wr h hR8
            have hp9 : TupI (upd H7 R (.lst (rvs ++ [v]))) (.ref p) cr := Lp.TupI.wr ⟨p, rfl, s7 _ _ hp⟩ hR8
            have x9 : RwL (upd H7 R (.lst (rvs ++ [v]))) R (rows ++ [r]) := rw_snoc hR8 aR rv7
            have k9 := x7.ke.write frR hR8 (o := .lst (rvs ++ [v]))
            have F9 := x7.fe.upd nRf nRc (o := .lst (rvs ++ [v]))
            generalize upd H7 R (.lst (rvs ++ [v])) = H9 at hC9 aC9 hp9 x9 k9 F9
            refine ⟨_, rfl, .inl ⟨rfl, _, .of hC9⟩, _, rfl, C, _, _, rfl, rfl, hC9, small1000 (by omega), ?_⟩
            obtain ⟨rvs9, hR9, aR9⟩ := x9
            refine ⟨rows ++ [r], cls ++ [cr], _, _, _, _, rfl, ⟨⟨(F9.upd nCf nCc).mono (by omega), k9.write frC hC9, ⟨rvs9, by rw [upd_ne (Ne.symm nCR)]; exact hR9, aR9.imp fun _ _ h => Lp.RowAt.wr h hC9⟩, cl_snoc hC9 aC9 hp9⟩, ld.snoc rc, by rw [List.length_append, List.length_singleton]; omega, .inr (by rw [List.length_append, List.length_singleton]; omega)⟩⟩
          · refine ⟨rows, cls, _, _, _, _, rfl, ⟨⟨x7.fe.mono (by omega), x7.ke, x7.rw, x7.cl⟩, ld, by omega, .inr ?_⟩⟩
            rcases Nat.eq_zero_or_pos rows.length with z | z
            · have : cls = [] := List.length_eq_zero_iff.mp (by omega)
              rw [this] at e
              exact absurd rfl e
            · exact z
      · rintro σ H3 ⟨rows, cls, y3, y11, y12, y13, rfl, x3⟩
        exact ⟨rows, cls, y3, y11, y12, y13, rfl, x3⟩
    rintro σ' H3 ⟨rows, cls, y3, y11, y12, y13, rfl, x3⟩
    obtain ⟨rvs, hR3, aR⟩ := id x3.sv.rw
    have lr := aR.1
    have le := x3.le
    have k03 : Ke (· = f) H H3 := k1.trans x3.sv.ke
    have nn : 1 ≤ rows.length := by
      rcases x3.nn with z | z
      · omega
      · exact z
    refine ⟨_, rfl, _, rfl, _, rfl, R, R, _, _, rfl, rfl, hR3, hR3, Nat.le_trans (by omega : _ ≤ 1000) (by decide), fun Z H4 nZ s4 hZ _ => ?_⟩
    refine ⟨200, rfl, Z, _, rfl, .of hZ, fun Y H5 nY s5 hY _ => ?_⟩
    rw [show (some (200 : Int)) = some ((200 : Nat) : Int) from rfl, cut_t] at hY
    refine ⟨by show 2 ≤ sizeLine; decide, fun tt H6 nt s6 ht _ => ?_⟩
    have s36 := (s4.trans s5).trans s6
    have F6 := x3.sv.fe.same s36
    have ld2 := (lad_twice x3.ld).take 200
    refine q tt Y (.ref ba) css _ ((rows ++ rows).take 200) H6 (F6.mono (by omega)) (k03.trans (.same s36)) ht ((x3.sv.fe.same s4).nf nY) ((x3.sv.fe.same s4).nc nY) (.ke k03 x3.sv.fe (.of (s4.free nY))) ⟨(hb.ke x3.sv.ke).ke (Ke.same (F := Nof) s36), ⟨_, s6 _ _ hY, ((aR.cat aR).take 200).imp fun _ _ r => r.ke (Ke.same (F := Nof) s36)⟩, ld2, ib, by rw [List.length_take]; omega⟩ l16 (by rw [List.length_take, List.length_append]; omega) (by rw [List.length_take]; omega)
end
end Sx
namespace Zp2
open PySem PySem.Spec PyProof.Rows L2
/-- a loop over zip of two lists, as long as both go -/
theorem for_zipM {K : PySem.W.Frag} {a b : Addr} {xs ys : List V} {n : Nat} {g : TG} {tb : TS} {D : Ends} {σ : L2.St} {H : Hp} (hx : n ≤ xs.length) (hy : n ≤ ys.length) (he : xs.length = n ∨ ys.length = n) (Pv : Nat → L2.St → Hp → Prop) (h0 : Pv 0 σ H) (hq : ∀ i σ H, Pv i σ H → SqL K H a xs ∧ SqL K H b ys)
    (hs : ∀ (i : Nat) (x y : V) (T : Addr) (σ : L2.St) (H : Hp), i < n → xs[i]? = some x → ys[i]? = some y → Pv i σ H → H T = none → g (.ref T) σ (upd H T (.tup [x, y])) fun σ2 H2 => tb { D with nx := Pv (i + 1), ct := Pv (i + 1), bk := D.nx } σ2 H2) (hd : ∀ σ H, Pv n σ H → D.nx σ H) :
    ∃ W : Nat → Nat → L2.St → Hp → Prop, (∃ m, W 0 m σ H) ∧ ∀ i m σ H, W i m σ H →
      ((Itz K a b).stop i H ∧ D.nx σ H) ∨ ((Itz K a b).go i H ∧ ∃ N : L2.St → Hp → Prop, (∀ σ' H', N σ' H' → ∃ m', m' < m ∧ W (i + 1) m' σ' H') ∧ ∀ v H', (Itz K a b).yld i H v H' → g v σ H' fun σ2 H2 => tb { D with nx := N, ct := N, bk := D.nx } σ2 H2) := by
  refine ⟨fun i m σ H => m = n - i ∧ i ≤ n ∧ Pv i σ H, ⟨n, rfl, Nat.zero_le _, h0⟩, ?_⟩
  rintro i m σ H ⟨rfl, hi, p⟩
  obtain ⟨qx, qy⟩ := hq i σ H p
  by_cases hlt : i < n
  · have hx' : xs[i]? = some xs[i] := List.getElem?_eq_getElem (by omega)
    have hy' : ys[i]? = some ys[i] := List.getElem?_eq_getElem (by omega)
    refine .inr ⟨⟨xs, ys, _, _, qx, qy, hx', hy'⟩, Pv (i + 1), fun σ' H' p' => ⟨n - (i + 1), by omega, rfl, hlt, p'⟩, fun v H' y => ?_⟩
    obtain ⟨T, x', y', rfl, hT, rfl, f1, f2⟩ := y
    exact hs i x' y' T σ H hlt (f1 xs qx) (f2 ys qy) p hT
  · have e : i = n := by omega
    subst e
    refine .inl ⟨⟨xs, ys, qx, qy, ?_⟩, hd σ H p⟩
    rcases he with z | z
    · exact .inl (by omega)
    · exact .inr (by omega)
end Zp2
namespace To
open PySem PySem.Spec PyProof.Rows L2 GxR Nw Dr Kp Se Cl Ct Lr Lp Ll Un Um Ba An Mb
/-! ### each claim told once -/
def kT (c : List Int) : List Key := c.map Sum.inl
theorem kT_v (c : List Int) : (kT c).map kV = c.map V.int := by
  unfold kT
  rw [List.map_map]
  rfl
theorem kT_inj : ∀ {c d : List Int}, kT c = kT d → c = d
  | [], [], _ => rfl
  | [], _ :: _, h => (nomatch h)
  | _ :: _, [], h => (nomatch h)
  | x :: c, y :: d, h => by
    have h : (Sum.inl x : Key) :: kT c = Sum.inl y :: kT d := h
    injection h with h1 h2
    rw [Sum.inl.inj h1, kT_inj h2]
/-- which claims have been met, and where their rows stand -/
structure Fw (cls : List (List Int)) (kvs : List (List Key × V)) : Prop where
  ln : kvs.length ≤ cls.length
  «at» : ∀ (n : Nat) (c : List Int), cls[n]? = some c → valV kvs (kT c) = some (.int (n : Nat))
  no : ∀ c, c ∉ cls → valV kvs (kT c) = none
theorem Fw.nil : Fw [] [] := ⟨Nat.le_refl _, fun n c h => (nomatch h), fun _ _ => rfl⟩
theorem Fw.snoc {cls : List (List Int)} {kvs : List (List Key × V)} {c : List Int} (f : Fw cls kvs) (n : c ∉ cls) : Fw (cls ++ [c]) (putK kvs (kT c) (.int (cls.length : Nat))) := by
  refine ⟨?_, fun m d h => ?_, fun d h => ?_⟩
  · have := length_putK kvs (kT c) (.int (cls.length : Nat))
    have := f.ln
    rw [List.length_append, List.length_singleton]
    omega
  · rw [valV_put]
    rcases at_snoc h with ⟨h, _⟩ | ⟨rfl, rfl⟩
    · rw [if_neg fun z => n (by rw [← kT_inj z]; exact List.mem_of_getElem? h)]
      exact f.at m d h
    · rw [if_pos rfl]
  · rw [List.mem_append, List.mem_singleton] at h
    rw [valV_put, if_neg fun z => h (.inr (kT_inj z))]
    exact f.no d fun z => h (.inl z)
/-- the first row that tells what row m tells -/
def lead (cls : List (List Int)) (m : Nat) : Nat := cls.idxOf (cls.getD m [])
/-- the ladder, each part by the first row that tells its claim -/
def ldR (cls : List (List Int)) : Rw → Rw
  | .book b => .book b
  | .cut i j k => .cut (lead cls i) (lead cls j) k
def ldr (cls : List (List Int)) (rows : List Rw) : List Rw := rows.map (ldR cls)
/-- the rows that are left, told anew -/
def Dx (rows : List Rw) (cls : List (List Int)) (rs : List Rw) : Prop := ∃ ns, UL (ldr cls rows) (lead cls (rows.length - 1)) ns ∧ Tr (ldr cls rows) ns rs ∧ rs.length = ns.length
theorem Dx.one {rows : List Rw} {cls : List (List Int)} {rs rs' : List Rw} (a : Dx rows cls rs) (b : Dx rows cls rs') : rs = rs' := by
  obtain ⟨ns, u, t, l⟩ := a
  obtain ⟨ns', u', t', l'⟩ := b
  have e := u.one u'
  subst e
  exact t.one (up_nodup u.up) t' (by omega)
theorem idx_first {cls : List (List Int)} {i : Nat} {c : List Int} (h : cls[i]? = some c) (no : c ∉ cls.take i) : cls.idxOf c = i := by
  have li := (List.getElem?_eq_some_iff.mp h).1
  have e : cls = cls.take i ++ cls.drop i := (List.take_append_drop i cls).symm
  have d : cls.drop i = c :: cls.drop (i + 1) := by
    rw [List.drop_eq_getElem_cons li]
    rw [List.getElem?_eq_getElem li] at h
    rw [Option.some.inj h]
  rw [e, List.idxOf_append, if_neg no, d, List.idxOf_cons_self, List.length_take]
  omega
/-- the kept rows' numbers in the elder ladder -/
structure Kx (rows0 : List Rw) (cls0 : List (List Int)) (i : Nat) (rows : List Rw) (cls : List (List Int)) (ps Kl : List Nat) : Prop where
  ln : Kl.length = rows.length
  up : Kl.Pairwise (· < ·)
  lt : ∀ n ∈ Kl, n < i
  cl : ∀ (n : Nat) (c : List Int), cls[n]? = some c → Kl[n]? = some (cls0.idxOf c)
  rw : ∀ (t : Nat) (r : Rw), rows[t]? = some r → ∃ (n : Nat) (r0 : Rw), Kl[t]? = some n ∧ rows0[n]? = some r0 ∧ match r0 with
    | .book b => r = .book b
    | .cut a b k => ∃ p q, ps[a]? = some p ∧ ps[b]? = some q ∧ r = .cut p q k
theorem Kx.nil (rows0 : List Rw) (cls0 : List (List Int)) : Kx rows0 cls0 0 [] [] [] [] := ⟨rfl, .nil, fun _ h => (nomatch h), fun _ _ h => (nomatch h), fun _ _ h => (nomatch h)⟩
theorem Kx.old {rows0 rows : List Rw} {cls0 cls : List (List Int)} {i n : Nat} {ps Kl : List Nat} (x : Kx rows0 cls0 i rows cls ps Kl) : Kx rows0 cls0 (i + 1) rows cls (ps ++ [n]) Kl := by
  refine ⟨x.ln, x.up, fun n h => by have := x.lt n h; omega, x.cl, fun t r h => ?_⟩
  obtain ⟨n, r0, h1, h2, h3⟩ := x.rw t r h
  refine ⟨n, r0, h1, h2, ?_⟩
  cases r0 with
  | book b => exact h3
  | cut a b k =>
    obtain ⟨p, q, e1, e2, e3⟩ := h3
    exact ⟨p, q, at_ahead e1, at_ahead e2, e3⟩
theorem Kx.new {rows0 rows : List Rw} {cls0 cls : List (List Int)} {i : Nat} {ps Kl : List Nat} {r0 : Rw} {c0 : List Int} (x : Kx rows0 cls0 i rows cls ps Kl) (lc : rows.length = cls.length) (lp : ps.length = i) (er : rows0[i]? = some r0) (pr : ∀ a b k, r0 = .cut a b k → a < i ∧ b < i) (id : cls0.idxOf c0 = i) :
    Kx rows0 cls0 (i + 1) (rows ++ [mvL ps r0]) (cls ++ [c0]) (ps ++ [rows.length]) (Kl ++ [i]) := by
  refine ⟨by rw [List.length_append, List.length_append, x.ln]; rfl, List.pairwise_append.mpr ⟨x.up, List.pairwise_singleton _ _, fun a ha b hb => by rw [List.mem_singleton.mp hb]; exact x.lt a ha⟩, fun n h => ?_, fun n c h => ?_, fun t r h => ?_⟩
  · rcases List.mem_append.mp h with h | h
    · have := x.lt n h
      omega
    · rw [List.mem_singleton.mp h]
      omega
  · rcases at_snoc h with ⟨h, _⟩ | ⟨rfl, rfl⟩
    · exact at_ahead (x.cl n c h)
    · rw [id, ← lc, ← x.ln]
      exact at_end
  · rcases at_snoc h with ⟨h, _⟩ | ⟨rfl, rfl⟩
    · obtain ⟨n, r0, h1, h2, h3⟩ := (x.old (n := rows.length)).rw t r h
      exact ⟨n, r0, at_ahead h1, h2, h3⟩
    · refine ⟨i, r0, by rw [← x.ln]; exact at_end, er, ?_⟩
      cases r0 with
      | book b => rfl
      | cut a b k =>
        obtain ⟨la, lb⟩ := pr a b k rfl
        have e1 := List.getElem?_eq_getElem (show a < ps.length by omega)
        have e2 := List.getElem?_eq_getElem (show b < ps.length by omega)
        refine ⟨_, _, at_ahead e1, at_ahead e2, ?_⟩
        show Rw.cut _ _ _ = _
        rw [getD_at e1, getD_at e2]
theorem Kx.done {rows0 rows rs : List Rw} {cls0 cls : List (List Int)} {ps Kl : List Nat} {last : Nat} {ns : List Int} (x : Kx rows0 cls0 rows0.length rows cls ps Kl) (lc0 : rows0.length = cls0.length) (dn : Dn rows) (eq : ∀ (t p : Nat), ps[t]? = some p → ∃ c, cls[p]? = some c ∧ cls0[t]? = some c)
    (hl : ps[rows0.length - 1]? = some last) (ll : last < rows.length) (u : UL rows last ns) (t : Tr rows ns rs) (l : rs.length = ns.length) : Dx rows0 cls0 rs := by
  have kp : ∀ m p, ps[m]? = some p → Kl[p]? = some (lead cls0 m) := fun m p h => by
    obtain ⟨c, h1, h2⟩ := eq m p h
    have e : cls0.getD m [] = c := by rw [List.getD_eq_getElem?_getD, h2]; rfl
    unfold lead
    rw [e]
    exact x.cl p c h1
  have step : ∀ (t : Nat) (r : Rw), rows[t]? = some r → ∃ n, Kl[t]? = some n ∧ match r with
      | .book b => (ldr cls0 rows0)[n]? = some (.book b)
      | .cut p q k => ∃ i j, (ldr cls0 rows0)[n]? = some (.cut i j k) ∧ Kl[p]? = some i ∧ Kl[q]? = some j := fun t r h => by
    obtain ⟨n, r0, h1, h2, h3⟩ := x.rw t r h
    refine ⟨n, h1, ?_⟩
    have e : (ldr cls0 rows0)[n]? = (some r0).map (ldR cls0) := by
      unfold ldr
      rw [List.getElem?_map, h2]
    cases r0 with
    | book b =>
      cases h3
      exact e
    | cut a b k =>
      obtain ⟨p, q, e1, e2, rfl⟩ := h3
      exact ⟨_, _, e, kp a p e1, kp b q e2⟩
  have at_ : ∀ (t : Nat), t < rows.length → ∃ n, Kl[t]? = some n := fun t h => ⟨_, List.getElem?_eq_getElem (by rw [x.ln]; exact h)⟩
  let f : Int → Int := fun z => ((Kl.getD z.toNat 0 : Nat) : Int)
  have fat : ∀ (t n : Nat), Kl[t]? = some n → f (t : Int) = (n : Int) := fun t n h => by
    show ((Kl.getD (t : Int).toNat 0 : Nat) : Int) = _
    rw [Int.toNat_natCast, List.getD_eq_getElem?_getD, h]
    rfl
  have inb : ∀ {z : Int}, z ∈ ns → ∃ n : Nat, z = n ∧ Und rows last n ∧ n < rows.length := fun {z} hz => by
    obtain ⟨n, rfl, un⟩ := (u.me z).mp hz
    exact ⟨n, rfl, un, by have := un.le dn; omega⟩
  have kinc : ∀ {a b : Nat} {m n : Nat}, Kl[a]? = some m → Kl[b]? = some n → a < b → m < n := fun {a b m n} ha hb lt => by
    obtain ⟨la, ea⟩ := List.getElem?_eq_some_iff.mp ha
    obtain ⟨lb, eb⟩ := List.getElem?_eq_some_iff.mp hb
    have := List.pairwise_iff_getElem.mp x.up a b la lb lt
    omega
  refine ⟨ns.map f, ⟨?_, fun z => ?_⟩, fun t' r' h => ?_, by rw [List.length_map]; exact l⟩
  · rw [List.pairwise_map]
    refine u.up.imp_of_mem fun {a b} ha hb lt => ?_
    obtain ⟨m, rfl, _, lm⟩ := inb ha
    obtain ⟨n, rfl, _, ln⟩ := inb hb
    obtain ⟨m', em⟩ := at_ m lm
    obtain ⟨n', en⟩ := at_ n ln
    rw [fat m m' em, fat n n' en]
    have := kinc em en (by omega)
    omega
  · have kl := kp _ _ hl
    constructor
    · intro hz
      obtain ⟨y, hy, rfl⟩ := List.mem_map.mp hz
      obtain ⟨n, rfl, un, ln⟩ := inb hy
      obtain ⟨n', en⟩ := at_ n ln
      refine ⟨n', fat n n' en, ?_⟩
      clear hy hz ln
      have key : ∀ n', Kl[n]? = some n' → Und (ldr cls0 rows0) (lead cls0 (rows0.length - 1)) n' := by
        clear en n'
        induction un with
        | self => intro n' en; rw [kl] at en; cases en; exact .self
        | @l a i j k ua e ih =>
          intro n' en
          obtain ⟨m, hm, i', j', h1, h2, h3⟩ := step a _ e
          rw [h2] at en
          cases en
          exact .l (ih m hm) h1
        | @r a i j k ua e ih =>
          intro n' en
          obtain ⟨m, hm, i', j', h1, h2, h3⟩ := step a _ e
          rw [h3] at en
          cases en
          exact .r (ih m hm) h1
      exact key n' en
    · rintro ⟨n, rfl, un⟩
      have key : ∃ t, Kl[t]? = some n ∧ Und rows last t := by
        refine Und.closed (S := fun n => ∃ t, Kl[t]? = some n ∧ Und rows last t) ⟨last, kl, .self⟩ (fun n i j k ⟨t, ht, ut⟩ e => ?_) un
        have lt : t < rows.length := by
          have := ut.le dn
          omega
        obtain ⟨m, hm, h⟩ := step t _ (List.getElem?_eq_getElem lt)
        rw [hm] at ht
        cases ht
        generalize hr : rows[t] = r at h
        have er : rows[t]? = some r := by rw [List.getElem?_eq_getElem lt, hr]
        cases r with
        | book b =>
          have h : (ldr cls0 rows0)[n]? = some (.book b) := h
          rw [e] at h
          cases h
        | cut p q k' =>
          obtain ⟨i', j', h1, h2, h3⟩ := h
          rw [e] at h1
          cases h1
          exact ⟨⟨p, h2, .l ut er⟩, ⟨q, h3, .r ut er⟩⟩
      obtain ⟨t, ht, ut⟩ := key
      exact List.mem_map.mpr ⟨(t : Int), (u.me _).mpr ⟨t, rfl, ut⟩, fat t n ht⟩
  · obtain ⟨n, r, e1, e2, mv⟩ := t t' r' h
    obtain ⟨m, hm, hs⟩ := step n r e2
    have mp : ∀ {p : Nat} {z : Int}, ns[p]? = some z → (ns.map f)[p]? = some (f z) := fun {p z} e => by rw [List.getElem?_map, e]; rfl
    cases r with
    | book b => exact ⟨m, _, by rw [mp e1, fat n m hm], hs, mv⟩
    | cut p q k =>
      obtain ⟨i, j, h1, h2, h3⟩ := hs
      obtain ⟨p', q', g1, g2, rfl⟩ := mv
      exact ⟨m, _, by rw [mp e1, fat n m hm], h1, p', q', by rw [mp g1, fat p i h2], by rw [mp g2, fat q j h3], rfl⟩
/-- how it stands behind i rows of the elder ladder -/
structure Oi (css : List (List Int)) (rows0 : List Rw) (cls0 : List (List Int)) (i : Nat) (rows : List Rw) (cls : List (List Int)) (ps : List Nat) : Prop where
  ld : Lad css rows cls
  lp : ps.length = i
  eq : ∀ (t p : Nat), ps[t]? = some p → ∃ c, cls[p]? = some c ∧ cls0[t]? = some c
  nd : cls.Nodup
  le : rows.length ≤ i
  ct : rows.countP isCut' ≤ (rows0.take i).countP isCut'
  bk : ∀ b, Rw.book b ∈ rows → Rw.book b ∈ rows0
  id : (cls0.take i).Nodup → rows = rows0.take i ∧ ps = List.range i
  kx : ∃ Kl, Kx rows0 cls0 i rows cls ps Kl
theorem Oi.nil (css : List (List Int)) (rows0 : List Rw) (cls0 : List (List Int)) : Oi css rows0 cls0 0 [] [] [] :=
  ⟨.nil css, rfl, fun t p h => (nomatch h), .nil, Nat.le_refl _, Nat.zero_le _, fun b h => (nomatch h), fun _ => ⟨rfl, rfl⟩, ⟨[], .nil rows0 cls0⟩⟩
section
variable {css cls0 cls : List (List Int)} {rows0 rows : List Rw} {ps : List Nat} {i : Nat} {r0 : Rw} {c0 : List Int}
theorem Oi.row (O : Oi css rows0 cls0 i rows cls ps) (l0 : Lad css rows0 cls0) (er : rows0[i]? = some r0) (ec : cls0[i]? = some c0) : RowCl css cls (mvL ps r0) c0 := by
  have rc := l0.2 i r0 c0 er ec
  have lp := O.lp
  cases r0 with
  | book n => exact rc
  | cut a b k =>
    obtain ⟨la, lb⟩ := lad_parts l0 er
    obtain ⟨x, y, h1, h2, h3⟩ := rc
    rw [take_at la] at h1
    rw [take_at lb] at h2
    have e1 := List.getElem?_eq_getElem (show a < ps.length by omega)
    have e2 := List.getElem?_eq_getElem (show b < ps.length by omega)
    obtain ⟨x', g1, g2⟩ := O.eq a _ e1
    obtain ⟨y', g3, g4⟩ := O.eq b _ e2
    rw [h1] at g2
    rw [h2] at g4
    cases g2
    cases g4
    exact ⟨x, y, by rw [getD_at e1]; exact g1, by rw [getD_at e2]; exact g3, h3⟩
theorem Oi.old (O : Oi css rows0 cls0 i rows cls ps) (er : rows0[i]? = some r0) (ec : cls0[i]? = some c0) {n : Nat} (h : cls[n]? = some c0) : Oi css rows0 cls0 (i + 1) rows cls (ps ++ [n]) := by
  have lp := O.lp
  have le := O.le
  have ct := O.ct
  have tk := take_snoc er
  refine ⟨O.ld, by rw [List.length_append, lp]; rfl, fun t p hp => ?_, O.nd, by omega, ?_, O.bk, fun nd => ?_, let ⟨Kl, x⟩ := O.kx; ⟨Kl, x.old⟩⟩
  · rcases at_snoc hp with ⟨hp, _⟩ | ⟨rfl, rfl⟩
    · exact O.eq t p hp
    · exact ⟨c0, h, by rw [lp]; exact ec⟩
  · rw [tk, List.countP_append]
    omega
  · have tc := take_snoc ec
    rw [tc, List.nodup_append] at nd
    obtain ⟨n1, _, n2⟩ := nd
    obtain ⟨e1, e2⟩ := O.id n1
    have ln : n < i := by
      have := (List.getElem?_eq_some_iff.mp h).1
      have := O.ld.1
      omega
    obtain ⟨c, g1, g2⟩ := O.eq n n (by rw [e2, List.getElem?_eq_getElem (by rw [List.length_range]; exact ln), List.getElem_range])
    rw [h] at g1
    cases g1
    exact absurd rfl (n2 c0 (List.mem_of_getElem? (i := n) (by rw [take_at ln]; exact g2)) c0 (List.mem_singleton_self _))
theorem Oi.new (O : Oi css rows0 cls0 i rows cls ps) (l0 : Lad css rows0 cls0) (er : rows0[i]? = some r0) (ec : cls0[i]? = some c0) (h : c0 ∉ cls) : Oi css rows0 cls0 (i + 1) (rows ++ [mvL ps r0]) (cls ++ [c0]) (ps ++ [rows.length]) := by
  have lp := O.lp
  have le := O.le
  have ct := O.ct
  have lc := O.ld.1
  have tk := take_snoc er
  refine ⟨O.ld.snoc (O.row l0 er ec), by rw [List.length_append, lp]; rfl, fun t p hp => ?_, ?_, by rw [List.length_append, List.length_singleton]; omega, ?_, fun b hb => ?_, fun nd => ?_, ?_⟩
  · rcases at_snoc hp with ⟨hp, _⟩ | ⟨rfl, rfl⟩
    · obtain ⟨c, g1, g2⟩ := O.eq t p hp
      exact ⟨c, at_ahead g1, g2⟩
    · exact ⟨c0, by rw [lc]; exact at_end, by rw [lp]; exact ec⟩
  · rw [List.nodup_append]
    refine ⟨O.nd, by simp, fun a ha b hb e => ?_⟩
    rw [List.mem_singleton.mp hb] at e
    exact h (e ▸ ha)
  · rw [tk, List.countP_append, List.countP_append, List.countP_singleton, List.countP_singleton, mv_cut]
    omega
  · rcases List.mem_append.mp hb with hb | hb
    · exact O.bk b hb
    · have e := List.mem_singleton.mp hb
      cases r0 with
      | book n =>
        have e : Rw.book b = Rw.book n := e
        rw [e]
        exact List.mem_of_getElem? er
      | cut a b' k =>
        have e : Rw.book b = Rw.cut _ _ _ := e
        cases e
  · have tc := take_snoc ec
    rw [tc, List.nodup_append] at nd
    obtain ⟨e1, e2⟩ := O.id nd.1
    have pr : ∀ a b k, r0 = .cut a b k → a < i ∧ b < i := fun a b k e => by
      subst e
      exact lad_parts l0 er
    have lr : rows.length = i := by
      rw [e1, List.length_take]
      have := (List.getElem?_eq_some_iff.mp er).1
      omega
    rw [lr, e2, mv_id pr, List.range_succ, tk, ← e1]
    exact ⟨rfl, rfl⟩
  · obtain ⟨Kl, x⟩ := O.kx
    refine ⟨_, x.new lc lp er (fun a b k e => by subst e; exact lad_parts l0 er) (idx_first ec fun m => h ?_)⟩
    obtain ⟨t, ht⟩ := List.getElem?_of_mem m
    have lt : t < i := by
      have := (List.getElem?_eq_some_iff.mp ht).1
      rw [List.length_take] at this
      omega
    rw [take_at lt] at ht
    obtain ⟨c, g1, g2⟩ := O.eq t _ (List.getElem?_eq_getElem (show t < ps.length by omega))
    rw [ht] at g2
    cases g2
    exact List.mem_of_getElem? g1
end
/-- what told_once tells -/
structure On (css : List (List Int)) (rows0 : List Rw) (cls0 : List (List Int)) (rs : List Rw) (cs : List (List Int)) : Prop where
  ld : Lad css rs cs
  r0 : 0 < rs.length
  al : UL rs (rs.length - 1) (iota rs.length)
  tr : Tr rs (iota rs.length) rs
  nd : cs.Nodup
  la : cs[cs.length - 1]? = cls0[cls0.length - 1]?
  le : rs.length ≤ rows0.length
  ct : rs.countP isCut' ≤ rows0.countP isCut'
  bk : ∀ b, Rw.book b ∈ rs → Rw.book b ∈ rows0
  id : cls0.Nodup → UL rows0 (rows0.length - 1) (iota rows0.length) → rs = rows0
  dx : Dx rows0 cls0 rs
theorem Oi.done {css cls0 cls : List (List Int)} {rows0 rows rs : List Rw} {ps : List Nat} {last : Nat} {ns : List Int} (O : Oi css rows0 cls0 rows0.length rows cls ps) (l0 : Lad css rows0 cls0) (ib : ∀ c ∈ css, IsCl c) (n0 : 0 < rows0.length) (hl : ps[ps.length - 1]? = some last) (u : UL rows last ns) (t : Tr rows ns rs) (l : rs.length = ns.length) :
    last < rows.length ∧ On css rows0 cls0 rs (clsAt cls ns) := by
  have dn := dn_lad O.ld ib
  have lp := O.lp
  have lc := l0.1
  have lcc := O.ld.1
  obtain ⟨c, hc, hc0⟩ := O.eq _ _ hl
  have ll : last < rows.length := by
    have := (List.getElem?_eq_some_iff.mp hc).1
    omega
  obtain ⟨r0, ulr⟩ := ul_trim dn ll u t l
  have lu := u.len dn
  have le := O.le
  have ct := O.ct
  rw [List.take_length] at ct
  have tc := tr_cuts dn ll u t l
  have lcl : (clsAt cls ns).length = ns.length := by unfold clsAt; rw [List.length_map]
  have inb : ∀ {k : Nat} {m : Int}, ns[k]? = some m → ∃ n : Nat, m = n ∧ n < cls.length := fun {k m} e => by
    obtain ⟨n, rfl, un⟩ := (u.me m).mp (List.mem_of_getElem? e)
    exact ⟨n, rfl, by have := un.le dn; omega⟩
  refine ⟨ll, lad_trim O.ld ib u t l, r0, ulr, tr_trim t l, ?_, ?_, by omega, by omega, fun b hb => ?_, fun nd0 ul0 => ?_, let ⟨Kl, x⟩ := O.kx; x.done l0.1 dn O.eq (by rw [← lp]; exact hl) ll u t l⟩
  · refine List.pairwise_iff_getElem.mpr fun v w hv hw lt e => ?_
    have ev := List.getElem?_eq_getElem (show v < ns.length by omega)
    have ew := List.getElem?_eq_getElem (show w < ns.length by omega)
    obtain ⟨m, em, lm⟩ := inb ev
    obtain ⟨m', em', lm'⟩ := inb ew
    rw [em] at ev
    rw [em'] at ew
    have lt' := up_at' u.up ev ew lt
    have g1 := clsAt_at ev lm
    have g2 := clsAt_at ew lm'
    rw [List.getElem?_eq_getElem hv, List.getElem?_eq_getElem lm] at g1
    rw [List.getElem?_eq_getElem hw, List.getElem?_eq_getElem lm'] at g2
    have n := List.pairwise_iff_getElem.mp O.nd m m' lm lm' (by omega)
    exact n ((Option.some.inj g1).symm.trans (e.trans (Option.some.inj g2)))
  · have ul := ul_last dn u
    rw [lcl, clsAt_at ul (by omega), hc, show cls0.length - 1 = ps.length - 1 by omega]
    exact hc0.symm
  · obtain ⟨k, hk⟩ := List.getElem?_of_mem hb
    obtain ⟨n, r, e1, e2, m⟩ := t k _ hk
    cases r with
    | book b' =>
      have m : Rw.book b = Rw.book b' := m
      rw [m]
      exact O.bk b' (List.mem_of_getElem? e2)
    | cut a b' k' =>
      obtain ⟨_, _, _, _, e⟩ := m
      cases e
  · obtain ⟨e1, e2⟩ := O.id (by rw [lc, List.take_length]; exact nd0)
    rw [List.take_length] at e1
    subst e1
    have ela : last = rows.length - 1 := by
      rw [e2, List.length_range, List.getElem?_eq_getElem (by rw [List.length_range]; omega), List.getElem_range] at hl
      exact (Option.some.inj hl).symm
    subst ela
    have en := u.one ul0
    exact tr_all dn ll u t l (by rw [l, en, iota_len])
structure Zo (mg : Str → Option Value) : Prop where
  z_len : mg "len" = none
  z_zip : mg "zip" = none
section
variable {P : Program} {w : World} {K : PySem.W.Frag} {mg : Str → Option Value} {base : Heap}
abbrev sTon : Stmt := topS 29
theorem scTon : FnScope ["book", "ladder", "claims", "kept", "first_with", "places", "row", "claim"] ["book", "ladder"] (defScope sTon) := ⟨rfl, rfl, rfl, by decide +kernel, rfl, by decide +kernel, by decide +kernel⟩
def spTon (Po : Addr) : Sp := fun vs H Q _ => ∃ (b : V) (L : Addr) (css cls : List (List Int)) (rows : List Rw), vs = [b, .ref L] ∧ BL H b L css rows cls ∧ 0 < rows.length ∧ TabG H Po ∧ ∀ rs cs p H', On css rows cls rs cs → Frs H p → Ke Nof H H' → RwL H' p rs → Q (.ref p) H'
theorem ok_ton {f fC fV fT Po : Addr} {fd fdC fdV fdT : FuncData} {k : Nat} (F : Fun K "told_once" "told_once" sTon f fd) (T : Zo mg) (FC : Fun K "claims_of" "claims_of" sClo fC fdC) (bC : Binds K fdC ["book", "ladder"] []) (gC : mg "claims_of" = some (.ref fC)) (GC : FnOk P w K mg base CX0 7 fC fdC ["book", "ladder"] (spClo Po))
    (FV : Fun K "moved_row" "moved_row" sMov fV fdV) (bV : Binds K fdV ["row", "places"] []) (gV : mg "moved_row" = some (.ref fV)) (GV : FnOk P w K mg base CX0 1 fV fdV ["row", "places"] spMvl)
    (FT : Fun K "trimmed_to" "trimmed_to" sTrt fT fdT) (bT : Binds K fdT ["ladder", "last"] []) (gT : mg "trimmed_to" = some (.ref fT)) (GT : FnOk P w K mg base CX0 2 fT fdT ["ladder", "last"] spTrt) :
    FnOk P w K mg base CX0 (k + 8) f fd ["book", "ladder"] (spTon Po) := by
  refine F.ok scTon (fun vs H Q E h => ?_) (fun cdv A outer s H vs Q E hr h => ?_)
  · obtain ⟨b, L, css, cls, rows, rfl, _⟩ := h
    rfl
  · obtain ⟨b, L, css, cls0, rows0, rfl, x, l0, tg, q⟩ := h
    have hr1 : Room 1 _ := hr.mono (by omega)
    have hr2 : Room 2 _ := hr.mono (by omega)
    have hr7 : Room 7 _ := hr.mono (by omega)
    refine ⟨_, (Evl.pss_cut (ps_set (i := 2) scTon.nd rfl (.inl rfl) (pe_call GC hr7 (by rfl) gC FC.kp bC .nil pass0 (pa_cons (pv 0) (pa_cons (pv 1) pa_nil))))
      (pss_cons (ps_set (i := 3) scTon.nd rfl (.inl rfl) (pe_lstN pa_nil))
      (pss_cons (ps_set (i := 4) scTon.nd rfl (.inl rfl) pe_dnewT)
      (Evl.pss_cut (ps_set (i := 5) scTon.nd rfl (.inl rfl) (pe_lstN pa_nil))
      (Evl.pss_cut (ps_for PassesOwn.never rfl (pi_zip (by rfl) T.z_zip (pa_cons (pv 1) (pa_cons (pv 2) pa_nil))) (pg_tup rfl (pgs_cons (pg_name (i := 6) scTon.nd rfl (.inl rfl)) (pgs_cons (pg_name (i := 7) scTon.nd rfl (.inl rfl)) pgs_nil))) (Evl.pss_cut (ps_if (pt_cmp (pc_dnotin (lt1 hr.units) (pv 7) (pv 4))) (pss_cons (ps_dput (lt1 hr.units) (pv 4) (pv 7) (pe_callB call_len_seq (by rfl) T.z_len (by decide +kernel) (pa_cons (pv 3) pa_nil)) rfl)
      (pss_one (ps_expr (pe_bm PySem.F.plainAttrs_list PySem.F.slot_list_append PySem.F.type_list_append mt_append (pv 3) (pa_cons (pe_call GV hr1 (by rfl) gV FV.kp bV .nil pass0 (pa_cons (pv 6) (pa_cons (pv 5) pa_nil))) pa_nil))))) pss_nil)
      (pss_one (ps_expr (pe_bm PySem.F.plainAttrs_list PySem.F.slot_list_append PySem.F.type_list_append mt_append (pv 5) (pa_cons (pe_dget (lt1 hr.units) (pv 4) (pv 7) (fun _ _ => rfl)) pa_nil))))))
      (pss_one (ps_ret (pe_call GT hr2 (by rfl) gT FT.kp bT .nil pass0 (pa_cons (pv 3) (pa_cons (pe_ix ix_list (pv 5) (pe_un un_neg pe_int) (fun _ _ => rfl)) pa_nil)))))))))), ?_⟩
    have le := x.le
    have lc := x.ld.1
    -- the claims
    refine Evl.q_cut (M := fun σ' H' => ∃ C : Addr, σ' = [some b, some (.ref L), some (.ref C), none, none, none, none, none] ∧ H C = none ∧ Ke Nof H H' ∧ ClL H' C cls0) ?_ ?_
    · exact ⟨_, rfl, _, rfl, b, L, css, cls0, rows0, rfl, x, l0, tg, fun C H1 nC k1 hC => ⟨C, rfl, nC, k1, hC⟩⟩
    rintro σ' H1 ⟨C, rfl, nC, k1, hC⟩
    -- nothing is kept yet
    refine ⟨Nat.zero_le _, fun R G1 nR s1 hR _ => fun D nD => ?_⟩
    have s2 : Same G1 (upd G1 D (.dT [])) := same_new nD
    refine Evl.q_cut (M := fun σ' H' => ∃ S : Addr, σ' = [some b, some (.ref L), some (.ref C), some (.ref R), some (.ref D), some (.ref S), none, none] ∧ H1 R = none ∧ H1 D = none ∧ H1 S = none ∧ R ≠ D ∧ S ≠ R ∧ S ≠ D ∧ Same H1 H' ∧ H' R = some (.lst []) ∧ H' D = some (.dT []) ∧ H' S = some (.lst [])) ?_ ?_
    · refine ⟨Nat.zero_le _, fun S G3 nS s3 hS _ => ?_⟩
      exact ⟨S, rfl, nR, s1.free nD, (s1.trans s2).free nS, ne_of_none hR nD, Ne.symm (ne_of_none (s2 _ _ hR) nS), Ne.symm (ne_of_none upd_same nS), (s1.trans s2).trans s3, s3 _ _ (s2 _ _ hR), s3 _ _ upd_same, hS⟩
    clear s2 hR nD nR s1
    rintro σ' H2 ⟨S, rfl, nR, nD, nS, nRD, nSR, nSD, s2, hR, hD, hS⟩
    have x1 := x.ke k1 fun z => z
    obtain ⟨rvs, hL1, aR⟩ := id x1.rw
    obtain ⟨cvs, hC1, aC⟩ := id hC
    have lra := aR.1
    have lca := aC.1
    have k2 : Ke Nof H1 H2 := .same s2
    refine Evl.q_cut (M := fun σ' H' => ∃ (y6 y7 : Option V) (rows : List Rw) (cls : List (List Int)) (ps : List Nat), σ' = [some b, some (.ref L), some (.ref C), some (.ref R), some (.ref D), some (.ref S), y6, y7] ∧ Ke Nof H1 H' ∧ RwL H' R rows ∧ H' S = some (.lst (ps.map fun n : Nat => V.int n)) ∧ Oi css rows0 cls0 rows0.length rows cls ps) ?_ ?_
    · refine ⟨_, rfl, _, rfl, L, C, rvs, cvs, rfl, .of (s2 _ _ hL1), .of (s2 _ _ hC1), Zp2.for_zipM (K := K) (a := L) (b := C) (xs := rvs) (ys := cvs) (n := rows0.length) (by omega) (by omega) (.inl (by omega)) (Pv := fun i σ H' => ∃ (y6 y7 : Option V) (rows : List Rw) (cls : List (List Int)) (ps : List Nat) (kvs : List (List Key × V)), σ = [some b, some (.ref L), some (.ref C), some (.ref R), some (.ref D), some (.ref S), y6, y7] ∧ Ke Nof H1 H' ∧ RwL H' R rows ∧ H' D = some (.dT kvs) ∧ Fw cls kvs ∧ H' S = some (.lst (ps.map fun n : Nat => V.int n)) ∧ Oi css rows0 cls0 i rows cls ps) ?_ (fun i σ H' p => ?_) ?_ ?_⟩
      · exact ⟨none, none, [], [], [], [], rfl, k2, ⟨[], hR, .nil⟩, hD, .nil, hS, .nil _ _ _⟩
      · obtain ⟨_, _, _, _, _, _, _, k3, _⟩ := p
        exact ⟨.of (k3.lst hL1 fun z => z), .of (k3.lst hC1 fun z => z)⟩
      · rintro i rv cv Z σ H3 hi hrv hcv ⟨y6, y7, rows, cls, ps, kvs, rfl, k3, ⟨ws, hR3, aW⟩, hD3, fw, hS3, O⟩ nZ
        obtain ⟨r0, er, rr⟩ := aR.at hrv
        obtain ⟨c0, ec, a, rfl, ha⟩ := aC.at hcv
        have ole := O.le
        have olp := O.lp
        have olc := O.ld.1
        have lw := aW.1
        have sZ : Same H3 (upd H3 Z (.tup [rv, .ref a])) := same_new nZ
        refine ⟨Z, _, rfl, .of upd_same, rfl, _, _, rfl, _, _, rfl, rfl, ?_⟩
        generalize upd H3 Z (.tup [rv, .ref a]) = H4 at sZ
        have k4 : Ke Nof H1 H4 := k3.trans (.same sZ)
        have hR4 := sZ _ _ hR3
        have hD4 := sZ _ _ hD3
        have hS4 := sZ _ _ hS3
        have ha4 := k4.tups _ _ ha
        have aW4 : All2 (RowAt H4) ws rows := aW.imp fun _ _ r => r.ke (Ke.same (F := Nof) sZ)
        -- is it met for the first time
        refine Evl.q_cut (M := fun σ' H' => ∃ (rows' : List Rw) (cls' : List (List Int)) (kvs' : List (List Key × V)) (n : Nat), σ' = [some b, some (.ref L), some (.ref C), some (.ref R), some (.ref D), some (.ref S), some rv, some (.ref a)] ∧ Ke Nof H1 H' ∧ RwL H' R rows' ∧ H' D = some (.dT kvs') ∧ Fw cls' kvs' ∧ cls'[n]? = some c0 ∧ H' S = some (.lst (ps.map fun n : Nat => V.int n)) ∧ Oi css rows0 cls0 (i + 1) rows' cls' (ps ++ [n])) ?_ ?_
        · refine ⟨_, rfl, _, rfl, D, _, rfl, DGet.t (k := kT c0) hD4 (by rw [kT_v]; exact ha4), _, rfl, ite2 (fun c1 => ?_) (fun c1 => ?_)⟩
          · have nin : c0 ∉ cls := fun z => by
              obtain ⟨n, hn⟩ := List.getElem?_of_mem z
              have c1 : (!(valV kvs (kT c0)).isSome) = true := c1
              rw [fw.at n c0 hn] at c1
              cases c1
            refine ⟨_, rfl, R, _, rfl, .inl (.of hR4), _, rfl, _, rfl, D, _, rfl, DPut.t (k := kT c0) hD4 (by rw [kT_v]; exact ha4) (small1000 (by have := fw.ln; omega)), ?_⟩
            have elw : ((ws.length : Nat) : Int) = ((cls.length : Nat) : Int) := by omega
            rw [elw]
            have hD5 : upd H4 D (.dT (putK kvs (kT c0) (.int (cls.length : Nat)))) D = some (.dT (putK kvs (kT c0) (.int (cls.length : Nat)))) := upd_same
            have k5 : Ke Nof H1 (upd H4 D (.dT (putK kvs (kT c0) (.int (cls.length : Nat))))) := k4.upd nD
            have hR5 : upd H4 D (.dT (putK kvs (kT c0) (.int (cls.length : Nat)))) R = some (.lst ws) := by rw [upd_ne nRD]; exact hR4
            have hS5 : upd H4 D (.dT (putK kvs (kT c0) (.int (cls.length : Nat)))) S = some (.lst (ps.map fun n : Nat => V.int n)) := by rw [upd_ne nSD]; exact hS4
            have aW5 : All2 (RowAt (upd H4 D (.dT (putK kvs (kT c0) (.int (cls.length : Nat)))))) ws rows := aW4.imp fun _ _ r => by
              obtain ⟨c, e, h⟩ := r
              exact ⟨c, e, by rw [upd_ne (fun z => by rw [z, hD4] at h; cases h)]; exact h⟩
            generalize upd H4 D (.dT (putK kvs (kT c0) (.int (cls.length : Nat)))) = H5 at hD5 k5 hR5 hS5 aW5
            have rr5 := rr.ke k5
            refine ⟨_, rfl, .inl ⟨rfl, _, .of hR5⟩, _, rfl, _, rfl, rv, S, r0, ps, rfl, rr5, hS5, fun a' b' k' e => ?_, fun v' H6 s6 rv' => ?_⟩
            · subst e
              have := lad_parts x.ld er
              omega
            · have hR6 := s6 _ _ hR5
              refine ⟨R, _, _, rfl, rfl, hR6, small1000 (by omega), ?_⟩
              refine ⟨rows ++ [mvL ps r0], cls ++ [c0], _, rows.length, rfl, (k5.trans (.same s6)).upd nR, rw_snoc hR6 (aW5.imp fun _ _ r => r.ke (Ke.same (F := Nof) s6)) rv', by rw [upd_ne (Ne.symm nRD)]; exact s6 _ _ hD5, fw.snoc nin, by rw [olc]; exact at_end, by rw [upd_ne nSR]; exact s6 _ _ hS5, O.new x.ld er ec nin⟩
          · have c1 : ¬ (!(valV kvs (kT c0)).isSome) = true := c1
            have inn : c0 ∈ cls := Classical.byContradiction fun z => c1 (by rw [fw.no c0 z]; rfl)
            obtain ⟨n, hn⟩ := List.getElem?_of_mem inn
            exact ⟨rows, cls, kvs, n, rfl, k4, ⟨ws, hR4, aW4⟩, hD4, fw, hn, hS4, O.old er ec hn⟩
        clear hR4 hD4 hS4 aW4 k4 ha4 sZ H4 nZ
        rintro σ' H4 ⟨rows', cls', kvs', n, rfl, k4, ⟨ws', hR4, aW4⟩, hD4, fw', hn, hS4, O'⟩
        have ha4 := k4.tups _ _ ha
        have g := DGet.t (k := kT c0) hD4 (by rw [kT_v]; exact ha4)
        rw [fw'.at n c0 hn] at g
        refine ⟨_, rfl, .inl ⟨rfl, _, .of hS4⟩, _, rfl, _, rfl, D, _, rfl, g, S, _, _, rfl, rfl, hS4, small1000 (by rw [List.length_map]; omega), ?_⟩
        refine ⟨_, _, rows', cls', ps ++ [n], kvs', rfl, k4.upd nS, ⟨ws', by rw [upd_ne (Ne.symm nSR)]; exact hR4, aW4.imp fun _ _ r => RowAt.wr r hS4⟩, by rw [upd_ne (Ne.symm nSD)]; exact hD4, fw', by rw [upd_same, List.map_append]; rfl, O'⟩
      · rintro σ H3 ⟨y6, y7, rows, cls, ps, kvs, rfl, k3, hR3, _, _, hS3, O⟩
        exact ⟨y6, y7, rows, cls, ps, rfl, k3, hR3, hS3, O⟩
    rintro σ' H3 ⟨y6, y7, rows, cls, ps, rfl, k3, hR3, hS3, O⟩
    have lps := O.lp
    have ole := O.le
    have hl := List.getElem?_eq_getElem (show ps.length - 1 < ps.length by omega)
    generalize ps[ps.length - 1]'(by omega) = last at hl
    have dn := dn_lad O.ld x.ib
    have ll : last < rows.length := by
      obtain ⟨c, hc, _⟩ := O.eq _ _ hl
      have := (List.getElem?_eq_some_iff.mp hc).1
      have := O.ld.1
      omega
    refine ⟨_, rfl, _, rfl, _, rfl, S, _, _, .int (last : Nat), rfl, rfl, .of hS3, at_last (by rw [List.length_map, List.getElem?_map, hl]; rfl), R, rows, last, rfl, hR3, dn, ll, by omega, fun ns rs p H4 ul tr lt np s4 hp => ?_⟩
    obtain ⟨_, on⟩ := O.done x.ld x.ib l0 hl ul tr lt
    exact q rs _ p H4 on (.ke0 (k1.trans k3) (.of np)) ((k1.trans k3).trans (.same s4)) hp
end
end To
namespace Du
open PySem PySem.Spec PyProof.Rows L2 GxR Nw Dr Kp Se Cl Ct Lr Lp Ll Od Wg Wl Wo Wk Un Um An Mb Nm To
/-! ### each claim by the first row that tells it -/
theorem pe_bmB {X : Cx} {K : PySem.W.Frag} {T : String} {name : Str} {id : String} {r : V → List V → Hp → VK → Prop} {o e : Expr} {es : List Expr} {to : TE} {t : TA} {apos cpos : Pos} (hK : X.K = K) (pa : PlainAttrs T) (slot : Slot T name id) (hty : typeOf (.builtin id) = pure (.type "method_descriptor")) (hm : MtR X id r) (ho : PE X o to) (ha : PA X (e :: es) t)
    (hbase : attributeBase o name X.env (eval o X.env) = eval o X.env := by rfl)
    (hfew : ((backTo cpos (starEach (e :: es) X.env)).all (fun x => !x.1) && (backToKw cpos (keywordEach [] X.env)).all (fun x => x.1.isSome)
      && decide ((e :: es).length + ([] : List Keyword).length + (if ([] : List Keyword).isEmpty then 0 else 1) < 30)) = true := by rfl)
    (hline : (apos.endLine == cpos.line) = true := by rfl) (hs : starEach (e :: es) X.env = (false, eval e X.env) :: starEach es X.env := by rfl) (hplain : (backTo cpos (starEach es X.env)).any (·.1) = false := by rfl) :
    PE X (.Call (.Attribute o name apos) (e :: es) [] cpos) (tBM K T r to t) := by
  subst hK
  exact pe_bm pa slot hty hm ho ha hbase hfew hline hs hplain
theorem mt_indexB {X : Cx} {K : PySem.W.Frag} (h : X.K = K) : MtR X "list.index" (rIndex K) := by subst h; exact mt_index
theorem mt_indexDB {X : Cx} {K : PySem.W.Frag} (hk : X.K = K) (hu : X.A.units + 65 < cLine) : MtR X "list.index" (rIndexD K) := by
  rw [← hk]
  exact mt_indexD hu
theorem eqv_ints : ∀ {l m : List Int}, PyData.eqvAll (l.map PyData.int) (m.map PyData.int) = true ↔ l = m
  | [], [] => ⟨fun _ => rfl, fun _ => rfl⟩
  | [], b :: m => ⟨fun h => absurd h (by simp [PyData.eqvAll]), fun h => nomatch h⟩
  | a :: l, [] => ⟨fun h => absurd h (by simp [PyData.eqvAll]), fun h => nomatch h⟩
  | a :: l, b :: m => by
    have ih := eqv_ints (l := l) (m := m)
    show (PyData.eqv (.int a) (.int b) && PyData.eqvAll (l.map PyData.int) (m.map PyData.int)) = true ↔ _
    rw [Bool.and_eq_true, ih, List.cons.injEq]
    refine and_congr ?_ Iff.rfl
    simp [PyData.eqv]
theorem idx_le : ∀ {cls : List (List Int)} {m : Nat} {c : List Int}, cls[m]? = some c → cls.idxOf c ≤ m
  | a :: l, m, c, h => by
    rw [List.idxOf_cons]
    by_cases z : a = c
    · subst z
      rw [beq_self_eq_true, cond_true]
      exact Nat.zero_le _
    · rw [beq_eq_false_iff_ne.mpr z, cond_false]
      cases m with
      | zero => exact absurd (Option.some.inj h) z
      | succ m =>
        have := idx_le (cls := l) (m := m) h
        omega
theorem idx_at {cls : List (List Int)} {c : List Int} (h : c ∈ cls) : cls[cls.idxOf c]? = some c := by
  rw [List.getElem?_eq_getElem (List.idxOf_lt_length_of_mem h), List.getElem_idxOf]
theorem idx_before {cls : List (List Int)} {c d : List Int} {m : Nat} (l : m < cls.idxOf c) (h : cls[m]? = some d) : d ≠ c := fun e => by
  subst e
  have := idx_le h
  omega
theorem lead_at {cls : List (List Int)} {m : Nat} {c : List Int} (h : cls[m]? = some c) : lead cls m = cls.idxOf c := by
  unfold lead
  rw [List.getD_eq_getElem?_getD, h]
  rfl
theorem dn_ldr {css cls : List (List Int)} {rows : List Rw} (h : Lad css rows cls) (ib : ∀ c ∈ css, IsCl c) : Dn (ldr cls rows) := fun n i j k e => by
  unfold ldr at e
  rw [List.getElem?_map] at e
  obtain ⟨r, er, e⟩ := Option.map_eq_some_iff.mp e
  cases r with
  | book b => cases e
  | cut a b k0 =>
    have e : Rw.cut (lead cls a) (lead cls b) k0 = Rw.cut i j k := e
    cases e
    have p := lad_parts h er
    have l := (List.getElem?_eq_some_iff.mp er).1
    have l2 : n < cls.length := by rw [← h.1]; exact l
    obtain ⟨x, y, h1, h2, h3⟩ := h.2 n _ _ er (List.getElem?_eq_getElem l2)
    rw [take_at p.1] at h1
    rw [take_at p.2] at h2
    rw [lead_at h1, lead_at h2]
    have i1 := idx_le h1
    have i2 := idx_le h2
    refine ⟨by omega, by omega, fun z => ?_⟩
    have z1 := idx_at (List.mem_of_getElem? h1)
    have z2 := idx_at (List.mem_of_getElem? h2)
    rw [z, z2] at z1
    have z1 := Option.some.inj z1
    subst z1
    have ic := h.isCl ib y (List.mem_of_getElem? h1)
    exact ic.opp k h3.2.1 h3.2.2.1
/-- the first rows' numbers -/
def lds (cls : List (List Int)) : List Int := cls.map fun c => ((cls.idxOf c : Nat) : Int)
theorem lds_len (cls : List (List Int)) : (lds cls).length = cls.length := List.length_map _
theorem lds_at {cls : List (List Int)} {m : Nat} (h : m < cls.length) : (lds cls)[m]? = some ((lead cls m : Nat) : Int) := by
  unfold lds
  rw [List.getElem?_map, List.getElem?_eq_getElem h, lead_at (List.getElem?_eq_getElem h)]
  rfl
/-- one more, if it isn't there -/
def ad (ms : List Int) (z : Int) : List Int := if z ∈ ms then ms else ms ++ [z]
theorem mem_ad {ms : List Int} {z x : Int} : x ∈ ad ms z ↔ x ∈ ms ∨ x = z := by
  unfold ad
  split
  · rename_i h
    exact ⟨.inl, fun y => y.elim id fun e => e ▸ h⟩
  · rw [List.mem_append, List.mem_singleton]
theorem ad_at {ms : List Int} {z x : Int} {s : Nat} (h : ms[s]? = some x) : (ad ms z)[s]? = some x := by
  unfold ad
  split
  · exact h
  · exact at_ahead h
theorem ad_le (ms : List Int) (z : Int) : ms.length ≤ (ad ms z).length := by
  unfold ad
  split
  · exact Nat.le_refl _
  · rw [List.length_append]
    omega
section
variable {rows : List Rw} {last t : Nat} {ms : List Int}
/-- what is marked, the first t of them gone through -/
structure Mk (rows : List Rw) (last t : Nat) (ms : List Int) : Prop where
  nd : ms.Nodup
  la : (last : Int) ∈ ms
  so : ∀ x ∈ ms, ∃ n : Nat, x = n ∧ Und rows last n
  cl : ∀ (s : Nat), s < t → ∀ (n i j : Nat) (k : Int), ms[s]? = some (n : Int) → rows[n]? = some (.cut i j k) → (i : Int) ∈ ms ∧ (j : Int) ∈ ms
theorem Mk.ul {ns : List Int} (f : Mk rows last ms.length ms) (up : ns.Pairwise (· < ·)) (h : ∀ x, x ∈ ns ↔ x ∈ ms) : UL rows last ns := ⟨up, fun x => by
  rw [h x]
  refine ⟨f.so x, fun ⟨n, e, u⟩ => ?_⟩
  rw [e]
  refine Und.closed (S := fun n => (n : Int) ∈ ms) f.la (fun n i j k s e => ?_) u
  obtain ⟨s', hl, hs⟩ := List.getElem_of_mem s
  exact f.cl s' hl n i j k (by rw [List.getElem?_eq_getElem hl, hs]) e⟩
theorem Mk.ad (f : Mk rows last t ms) (lt : t ≤ ms.length) {n : Nat} (u : Und rows last n) : Mk rows last t (ad ms (n : Int)) := by
  refine ⟨?_, mem_ad.mpr (.inl f.la), fun x hx => ?_, fun s hs m i j k e er => ?_⟩
  · unfold Du.ad
    split
    · exact f.nd
    · rename_i z
      rw [List.nodup_append]
      refine ⟨f.nd, by simp, fun a ha b hb e => ?_⟩
      rw [List.mem_singleton.mp hb] at e
      exact z (e ▸ ha)
  · rcases mem_ad.mp hx with z | z
    · exact f.so x z
    · exact ⟨n, z, u⟩
  · have lm : s < ms.length := by omega
    have e' := List.getElem?_eq_getElem lm
    have e2 := ad_at (z := (n : Int)) e'
    rw [e] at e2
    rw [← Option.some.inj e2] at e'
    obtain ⟨h1, h2⟩ := f.cl s hs m i j k e' er
    exact ⟨mem_ad.mpr (.inl h1), mem_ad.mpr (.inl h2)⟩
theorem Mk.len (f : Mk rows last t ms) (d : Dn rows) : ms.length ≤ last + 1 := nd_len f.nd fun x hx => by
  obtain ⟨n, rfl, u⟩ := f.so x hx
  have := u.le d
  omega
theorem Mk.book (f : Mk rows last t ms) {n b : Nat} (em : ms[t]? = some (n : Int)) (er : rows[n]? = some (.book b)) : Mk rows last (t + 1) ms := ⟨f.nd, f.la, f.so, fun s hs m i j k e1 e2 => by
  by_cases z : s = t
  · rw [z, em] at e1
    have : n = m := by
      have := Option.some.inj e1
      omega
    rw [← this, er] at e2
    cases e2
  · exact f.cl s (by omega) m i j k e1 e2⟩
theorem Mk.cut (f : Mk rows last t ms) {n i j : Nat} {k : Int} (em : ms[t]? = some (n : Int)) (er : rows[n]? = some (.cut i j k)) (hi : (i : Int) ∈ ms) (hj : (j : Int) ∈ ms) : Mk rows last (t + 1) ms := ⟨f.nd, f.la, f.so, fun s hs m i' j' k' e1 e2 => by
  by_cases z : s = t
  · rw [z, em] at e1
    have : n = m := by
      have := Option.some.inj e1
      omega
    rw [← this, er] at e2
    cases e2
    exact ⟨hi, hj⟩
  · exact f.cl s (by omega) m i' j' k' e1 e2⟩
end
structure Zd (mg : Str → Option Value) : Prop where
  z_len : mg "len" = none
  z_sorted : mg "sorted" = none
  z_set : mg "set" = none
section
variable {P : Program} {w : World} {K : PySem.W.Frag} {mg : Str → Option Value} {base : Heap}
abbrev sDue : Stmt := topS 55
abbrev nDue : List Str := ["book", "ladder", "claims", "lead", "needs", "at", "row", "one", "found", "number", "i", "j", "claim"]
theorem scDue : FnScope nDue ["book", "ladder"] (defScope sDue) := ⟨rfl, rfl, rfl, by decide +kernel, rfl, by decide +kernel, by decide +kernel⟩
def spDue : Sp := fun vs H Q _ => ∃ (b : V) (L : Addr) (css cls : List (List Int)) (rows : List Rw), vs = [b, .ref L] ∧ BL H b L css rows cls ∧ 1 ≤ rows.length ∧ css.length ≤ 16 ∧ ∀ rs p H', Dx rows cls rs → Ke Nof H H' → RwL H' p rs → Q (.ref p) H'
def meas : List (Option V) → Nat
  | [_, _, _, _, _, some (V.int a), _, _, _, _, _, _, _] => (600 - a).toNat
  | _ => 0
theorem ok_due {f fT : Addr} {fd fdT : FuncData} {k : Nat} (F : Fun K "_law_s_due" "_law_s_due" sDue f fd) (T : Zd mg)
    (FT : Fun K "_law_stold" "_law_stold" sSto fT fdT) (bT : Binds K fdT ["book", "rows"] []) (gT : mg "_law_stold" = some (.ref fT)) (GT : FnOk P w K mg base CX0 3 fT fdT ["book", "rows"] spStL) :
    FnOk P w K mg base CX0 (k + 4) f fd ["book", "ladder"] spDue := by
  refine F.ok scDue (fun vs H Q E h => ?_) (fun cdv A outer s H vs Q E hr h => ?_)
  · obtain ⟨b, L, css, cls, rows, rfl, _⟩ := h
    rfl
  · obtain ⟨b, L, css, cls, rows, rfl, x, l1, c16, q⟩ := h
    have hr3 : Room 3 _ := hr.mono (by omega)
    have hu : (A.deeper (envOfC "_law_s_due" (defScope sDue) s.heap.objs.size f cdv)).units + 65 < cLine := by
      have := hr.un
      omega
    refine ⟨_, (Evl.pss_cut (ps_set (i := 2) scDue.nd rfl (.inr rfl) (pe_ix ix_tup (pe_call GT hr3 (by rfl) gT FT.kp bT .nil pass0 (pa_cons (pv 0) (pa_cons (pv 1) pa_nil))) pe_int (fun _ _ => rfl)))
      (Evl.pss_cut (ps_set (i := 3) scDue.nd rfl (.inr rfl) (pe_lc (own := [("claim", 12)]) (g := (gName 12)) (tt := tYes) rfl scDue.nd (pi_list (pv 2)) (blkOk_by (N := nDue) (sc := defScope sDue) (by decide +kernel)) (fun _ _ _ _ _ => (pg_name (i := 12) scDue.nd rfl (.inl rfl))) (fun _ _ _ _ _ => pts_nil) (fun _ _ _ _ _ => (pe_bmB (K := K) rfl PySem.F.plainAttrs_list PySem.F.slot_list_index PySem.F.type_list_index (mt_indexDB (K := K) rfl hu) (pv 2) (pa_cons (pv 12) pa_nil)))))
      (Evl.pss_cut (ps_set (i := 4) scDue.nd rfl (.inr rfl) (pe_lstN (pa_cons (pe_ix ix_list (pv 3) (pe_un un_neg pe_int) (fun _ _ => rfl)) pa_nil)))
      (Evl.pss_cut (ps_set (i := 5) scDue.nd rfl (.inl rfl) pe_int)
      (Evl.pss_cut (ps_while PassesOwn.never (pt_cmpR op_lt (pv 5) (pe_callB call_len_seq (by rfl) T.z_len (by decide +kernel) (pa_cons (pv 4) pa_nil)) (nomark _)) (Evl.pss_cut (ps_set (i := 6) scDue.nd rfl (.inl rfl) (pe_ix ix_list (pv 1) (pe_ix ix_list (pv 4) (pv 5) (fun _ _ => rfl)) (fun _ _ => rfl)))
      (Evl.pss_cut (ps_set (i := 5) scDue.nd rfl (.inl rfl) (pe_op op_add (pv 5) pe_int))
      (pss_one (ps_if (pt_cmpR op_eq (pe_ix ix_tup (pv 6) pe_int (fun _ _ => rfl)) pe_str (nomark _)) (pss_one (ps_for PassesOwn.never rfl (pi_tup (pe_slice sl_tupN (pv 6) (po_some pe_int) (po_some pe_int))) (pg_name (i := 7) scDue.nd rfl (.inl rfl)) (pss_one (ps_if (pt_cmpR op_notIn_seq (pe_ix ix_list (pv 3) (pv 7) (fun _ _ => rfl)) (pv 4) (by rfl)) (pss_one (ps_expr (pe_bm PySem.F.plainAttrs_list PySem.F.slot_list_append PySem.F.type_list_append mt_append (pv 4) (pa_cons (pe_ix ix_list (pv 3) (pv 7) (fun _ _ => rfl)) pa_nil)))) pss_nil)))) pss_nil)))))
      (Evl.pss_cut (ps_set (i := 4) scDue.nd rfl (.inr rfl) (pe_callB (Sg.cr_sortedSA rfl) (by rfl) T.z_sorted (by decide +kernel) (pa_cons (pe_callTy (Sg.cr_setLB rfl) (by rfl) T.z_set (by decide +kernel) (pa_cons (pv 4) pa_nil)) pa_nil)))
      (Evl.pss_cut (ps_set (i := 8) scDue.nd rfl (.inl rfl) (pe_lstN pa_nil))
      (Evl.pss_cut (ps_for PassesOwn.never rfl (pi_list (pv 4)) (pg_name (i := 9) scDue.nd rfl (.inl rfl)) (Evl.pss_cut (ps_set (i := 6) scDue.nd rfl (.inl rfl) (pe_ix ix_list (pv 1) (pv 9) (fun _ _ => rfl)))
      (Evl.pss_cut (ps_if (pt_cmpR op_eq (pe_ix ix_tup (pv 6) pe_int (fun _ _ => rfl)) pe_str (nomark _)) (Evl.pss_cut (ps_asg (pe_lc (own := [("one", 7)]) (g := (gName 7)) (tt := tYes) rfl scDue.nd (pi_tup (pe_slice sl_tupN (pv 6) (po_some pe_int) (po_some pe_int))) (blkOk_by (N := nDue) (sc := defScope sDue) (by decide +kernel)) (fun _ _ _ _ _ => (pg_name (i := 7) scDue.nd rfl (.inl rfl))) (fun _ _ _ _ _ => pts_nil) (fun _ _ _ _ _ => (pe_bmB (K := K) rfl PySem.F.plainAttrs_list PySem.F.slot_list_index PySem.F.type_list_index (mt_indexB (K := K) rfl) (pv 4) (pa_cons (pe_ix (ix_listB (K := K) rfl) (pv 3) (pv 7) (fun _ _ => rfl)) pa_nil)))) (pg_lst rfl (pgs_cons (pg_name (i := 10) scDue.nd rfl (.inl rfl)) (pgs_cons (pg_name (i := 11) scDue.nd rfl (.inl rfl)) pgs_nil))))
      (pss_one (ps_set (i := 6) scDue.nd rfl (.inl rfl) (pe_tupN (pa_cons pe_str (pa_cons (pv 10) (pa_cons (pv 11) (pa_cons (pe_ix ix_tup (pv 6) pe_int (fun _ _ => rfl)) pa_nil)))))))) pss_nil)
      (pss_one (ps_expr (pe_bm PySem.F.plainAttrs_list PySem.F.slot_list_append PySem.F.type_list_append mt_append (pv 8) (pa_cons (pv 6) pa_nil)))))))
      (pss_one (ps_ret (pv 8))))))))))), ?_⟩
    have le := x.le
    have lc := x.ld.1
    have dn := dn_ldr x.ld x.ib
    have lr : (ldr cls rows).length = rows.length := List.length_map _
    -- claims
    refine Evl.q_cut (M := fun σ' H' => ∃ C : Addr, σ' = [some b, some (.ref L), some (.ref C), none, none, none, none, none, none, none, none, none, none] ∧ Ke Nof H H' ∧ ClL H' C cls) ?_ ?_
    · refine ⟨_, rfl, _, rfl, b, L, css, cls, rows, rfl, x, l1, c16, fun t p H1 k1 np ht hp => ?_⟩
      exact ⟨t, _, 0, .ref p, rfl, rfl, .of ht, rfl, p, rfl, k1, hp⟩
    rintro σ' H1 ⟨C, rfl, k1, cvs, hC, aC⟩
    obtain ⟨rvs, hL1, aR1⟩ := (x.ke k1 fun z => z).rw
    have lca := aC.1
    have lra := aR1.1
    -- lead
    refine Evl.q_cut (M := fun σ' H' => ∃ D : Addr, σ' = [some b, some (.ref L), some (.ref C), some (.ref D), none, none, none, none, none, none, none, none, none] ∧ Same H1 H' ∧ H' D = some (.lst ((lds cls).map V.int))) ?_ ?_
    · refine ⟨_, rfl, C, rfl, ⟨_, .of hC⟩, fun Z nZ => ?_⟩
      refine lc_list (xs := cvs) (Pv := fun u H' => Same H1 H' ∧ H' Z = some (.lst (((lds cls).take u).map V.int))) ⟨same_new nZ, upd_same⟩ (fun u H' _ z => .of (z.1 _ _ hC)) ?_ ?_
      · rintro u v H2 hv ⟨s2, hZ⟩
        obtain ⟨c, hc, tc⟩ := aC.at hv
        have li := (List.getElem?_eq_some_iff.mp hc).1
        have tc2 := tc.ke (Ke.same (F := Nof) s2)
        obtain ⟨a, rfl, ha⟩ := id tc2
        refine ⟨rfl, _, rfl, .inl ⟨rfl, _, .of (s2 _ _ hC)⟩, _, rfl, C, .ref a, Xb.cdat c, cls.map Xb.cdat, cls.idxOf c, Xb.cdat c, rfl, rfl, .lst (.of (s2 _ _ hC)) (Xb.dp_cls (aC.imp fun _ _ h => h.ke (Ke.same (F := Nof) s2))), .tup (.of ha) (dp_ints c), Xb.shaped_cls cls, shaped_tuple (by simp [flatD]), ?_, Nw.eqv_self (shaped_tuple (by simp [flatD])), fun m z' lm hz => ?_, ?_⟩
        · rw [List.getElem?_map, idx_at (List.mem_of_getElem? hc)]
          rfl
        · rw [List.getElem?_map] at hz
          obtain ⟨z0, hz0, rfl⟩ := Option.map_eq_some_iff.mp hz
          exact Bool.eq_false_iff.mpr fun y => idx_before lm hz0 (eqv_ints.mp y)
        · have hl := lds_at li
          rw [lead_at hc] at hl
          refine ⟨_, hZ, small1000 (by rw [List.length_map, List.length_take, lds_len]; omega), fun b o e => ?_, ?_⟩
          · rw [upd_ne (ne_of_none e nZ)]
            exact s2 _ _ e
          · rw [upd_same, take_snoc hl, List.map_append]
            rfl
      · rintro H2 ⟨s2, hZ⟩
        rw [lca, ← lds_len cls, List.take_length] at hZ
        exact ⟨Z, rfl, s2, hZ⟩
    rintro σ' H2 ⟨D, rfl, s2, hD⟩
    have hL2 := s2 _ _ hL1
    have aR2 : All2 (RowAt H2) rvs rows := aR1.imp fun _ _ r => r.ke (Ke.same (F := Nof) s2)
    have k2 : Ke Nof H H2 := k1.trans (.same s2)
    clear s2 aR1 hL1 k1 hC aC lca H1
    have ll : lead cls (rows.length - 1) < rows.length := by
      have e := List.getElem?_eq_getElem (show rows.length - 1 < cls.length by omega)
      rw [lead_at e]
      have := idx_le e
      omega
    generalize hla : lead cls (rows.length - 1) = la at ll
    have eD : (lds cls)[rows.length - 1]? = some ((la : Nat) : Int) := by rw [lds_at (by omega), hla]
    have lD := lds_len cls
    -- needs
    refine Evl.q_cut (M := fun σ' H' => ∃ M : Addr, σ' = [some b, some (.ref L), some (.ref C), some (.ref D), some (.ref M), none, none, none, none, none, none, none, none] ∧ H2 M = none ∧ Same H2 H' ∧ H' M = some (.lst [.int (la : Nat)])) ?_ ?_
    · refine ⟨_, rfl, _, rfl, D, _, _, .int (la : Nat), rfl, rfl, .of hD, at_last (by rw [List.length_map, List.getElem?_map, lD, ← lc, eD]; rfl), ?_⟩
      exact ⟨by show 1 ≤ sizeLine; decide, fun M H3 nM s3 hM _ => ⟨M, rfl, nM, s3, hM⟩⟩
    rintro σ' H3 ⟨M, rfl, nM, s3, hM⟩
    refine Evl.q_cut (M := fun σ' H' => σ' = [some b, some (.ref L), some (.ref C), some (.ref D), some (.ref M), some (.int 0), none, none, none, none, none, none, none] ∧ H3 = H') ⟨rfl, rfl⟩ ?_
    rintro σ' H' ⟨rfl, rfl⟩
    refine Evl.q_cut (M := fun σ' H' => ∃ (ms : List Int) (y5 y6 y7 : Option V), σ' = [some b, some (.ref L), some (.ref C), some (.ref D), some (.ref M), y5, y6, y7, none, none, none, none, none] ∧ Same H2 H' ∧ H' M = some (.lst (ms.map V.int)) ∧ Mk (ldr cls rows) la ms.length ms) ?_ ?_
    · refine while_by (fun σ H' => ∃ (ms : List Int) (t : Nat) (y6 y7 : Option V), σ = [some b, some (.ref L), some (.ref C), some (.ref D), some (.ref M), some (.int (t : Nat)), y6, y7, none, none, none, none, none] ∧ Same H2 H' ∧ H' M = some (.lst (ms.map V.int)) ∧ t ≤ ms.length ∧ Mk (ldr cls rows) la t ms) (fun σ _ => meas σ) ?_ ?_ ?_
      · exact ⟨[(la : Int)], 0, none, none, rfl, s3, hM, Nat.zero_le _, by simp, List.mem_singleton_self _, fun x hx => ⟨la, List.mem_singleton.mp hx, .self⟩, fun s hs => absurd hs (Nat.not_lt_zero _)⟩
      · clear s3 hM H3
        rintro σ H3 ⟨ms, t, y6, y7, rfl, s3, hM, lt, mk⟩
        have lm := mk.len dn
        refine ⟨_, rfl, _, rfl, M, _, rfl, .inl (.of hM), _, _, rfl, rfl, _, rfl, ite2 (fun y => ?_) (fun y => ?_)⟩
        · have tl : t < ms.length := by
            have := of_decide_eq_true y
            rw [List.length_map] at this
            omega
          obtain ⟨n, ex, un⟩ := mk.so _ (List.getElem_mem tl)
          have em : ms[t]? = some (n : Int) := by rw [List.getElem?_eq_getElem tl, ex]
          have ln : n < rows.length := by
            have := un.le dn
            omega
          obtain ⟨rv, hrv, a, rfl, ha⟩ := aR2.atR (List.getElem?_eq_getElem ln)
          generalize hg : rows[n] = r at ha
          have her : (ldr cls rows)[n]? = some (ldR cls r) := by
            unfold ldr
            rw [List.getElem?_map, List.getElem?_eq_getElem ln, hg]
            rfl
          have ha2 := s3 _ _ ha
          refine Evl.q_cut (M := fun σ' H' => σ' = [some b, some (.ref L), some (.ref C), some (.ref D), some (.ref M), some (.int (t : Nat)), some (.ref a), y7, none, none, none, none, none] ∧ H3 = H') ?_ ?_
          · exact ⟨_, rfl, _, rfl, _, rfl, M, _, (t : Nat), _, rfl, rfl, .of hM, at_of (j := t) rfl (by rw [List.getElem?_map, em]; rfl), L, _, (n : Nat), _, rfl, rfl, .of (s3 _ _ hL2), at_of (j := n) rfl hrv, rfl, rfl⟩
          rintro σ' H' ⟨rfl, rfl⟩
          refine Evl.q_cut (M := fun σ' H' => σ' = [some b, some (.ref L), some (.ref C), some (.ref D), some (.ref M), some (.int ((t + 1 : Nat) : Int)), some (.ref a), y7, none, none, none, none, none] ∧ H3 = H') ?_ ?_
          · exact ⟨_, rfl, _, _, rfl, rfl, rfl, rfl⟩
          rintro σ' H' ⟨rfl, rfl⟩
          have down : ∀ y7' : Option V, meas [some b, some (.ref L), some (.ref C), some (.ref D), some (.ref M), some (.int ((t + 1 : Nat) : Int)), some (.ref a), y7', none, none, none, none, none] < meas [some b, some (.ref L), some (.ref C), some (.ref D), some (.ref M), some (.int (t : Nat)), y6, y7, none, none, none, none, none] := fun y7' => by
            show (600 - ((t + 1 : Nat) : Int)).toNat < (600 - ((t : Nat) : Int)).toNat
            omega
          cases r with
          | book b' =>
            refine ⟨_, rfl, a, _, 0, .str "book", rfl, rfl, .of ha2, rfl, rfl, false, by simp; decide, ?_⟩
            exact ⟨⟨ms, t + 1, _, y7, rfl, s3, hM, tl, mk.book em her⟩, down _⟩
          | cut i' j' k' =>
            have pr := lad_parts x.ld (show rows[n]? = some (.cut i' j' k') by rw [List.getElem?_eq_getElem ln, hg])
            have li := lds_at (show i' < cls.length by omega)
            have lj := lds_at (show j' < cls.length by omega)
            refine ⟨_, rfl, a, _, 0, .str "cut", rfl, rfl, .of ha2, rfl, rfl, true, by simp, ?_⟩
            refine ⟨_, rfl, _, rfl, _, rfl, a, _, rfl, ha2, fun S H4 s4 hS => ?_⟩
            rw [show cutV (Rw.cut i' j' k').vs (some 1) (some 3) = [.int (i' : Nat), .int (j' : Nat)] from cut_13 _ _ _ _] at hS
            have nSM : S ≠ M := fun e => by
              have := s4 _ _ hM
              rw [← e, hS] at this
              cases this
            refine ⟨S, rfl, ⟨_, .of hS⟩, for_tup (K := K) (a := S) (xs := [.int (i' : Nat), .int (j' : Nat)]) (Pv := fun u σ H' => ∃ (ms' : List Int) (y7 : Option V), σ = [some b, some (.ref L), some (.ref C), some (.ref D), some (.ref M), some (.int ((t + 1 : Nat) : Int)), some (.ref a), y7, none, none, none, none, none] ∧ Same H2 H' ∧ H' S = some (.tup [.int (i' : Nat), .int (j' : Nat)]) ∧ H' M = some (.lst (ms'.map V.int)) ∧ Mk (ldr cls rows) la t ms' ∧ t < ms'.length ∧ ms'[t]? = some (n : Int) ∧ (0 < u → ((lead cls i' : Nat) : Int) ∈ ms') ∧ (1 < u → ((lead cls j' : Nat) : Int) ∈ ms')) ?_ (fun u σ H' _ z => ?_) ?_ ?_⟩
            · exact ⟨ms, y7, rfl, s3.trans s4, hS, s4 _ _ hM, mk, tl, em, fun z => absurd z (Nat.lt_irrefl _), fun z => absurd z (by decide)⟩
            · obtain ⟨_, _, _, _, z, _⟩ := z
              exact .of z
            · rintro u v σ H5 hv ⟨ms', y7', rfl, s5, hS5, hM5, mk5, tl5, em5, m1, m2⟩
              have key : ∃ (m : Nat), v = .int (m : Nat) ∧ m < cls.length ∧ Und (ldr cls rows) la (lead cls m) ∧ (∀ ms'' : List Int, (∀ x, x ∈ ms'' ↔ x ∈ ms' ∨ x = ((lead cls m : Nat) : Int)) → (0 < u + 1 → ((lead cls i' : Nat) : Int) ∈ ms'') ∧ (1 < u + 1 → ((lead cls j' : Nat) : Int) ∈ ms'')) := by
                match u, hv with
                | 0, hv =>
                  obtain rfl := Option.some.inj hv
                  exact ⟨i', rfl, by omega, .l un her, fun ms'' h => ⟨fun _ => (h _).mpr (.inr rfl), fun z => absurd z (by decide)⟩⟩
                | 1, hv =>
                  obtain rfl := Option.some.inj hv
                  exact ⟨j', rfl, by omega, .r un her, fun ms'' h => ⟨fun _ => (h _).mpr (.inl (m1 (by decide))), fun _ => (h _).mpr (.inr rfl)⟩⟩
              obtain ⟨m, rfl, lm5, und, fin⟩ := key
              have hD5 := s5 _ _ hD
              have lms := mk5.len dn
              have mk6 := mk5.ad (Nat.le_of_lt tl5) und
              have lms6 := mk6.len dn
              have at6 := ad_at (z := ((lead cls m : Nat) : Int)) em5
              have le6 := ad_le ms' ((lead cls m : Nat) : Int)
              have fin := fin (ad ms' ((lead cls m : Nat) : Int)) fun x => mem_ad
              refine ⟨_, rfl, _, rfl, D, _, (m : Nat), _, rfl, rfl, .of hD5, at_of (j := m) rfl (by rw [List.getElem?_map, lds_at lm5]; rfl), _, rfl, M, _, rfl, .inl (.of hM5), rfl, ints_flat ms', _, rfl, ite2 (fun y1 => ?_) (fun y1 => ?_)⟩
              · have y1 : (!inV (.int ((lead cls m : Nat) : Int)) (ms'.map V.int)) = true := y1
                have nin : ((lead cls m : Nat) : Int) ∉ ms' := fun z => by
                  rw [(Un.in_ints _ _).mpr z] at y1
                  cases y1
                have ea : ad ms' ((lead cls m : Nat) : Int) = ms' ++ [((lead cls m : Nat) : Int)] := if_neg nin
                rw [ea] at mk6 at6 le6 fin
                refine ⟨_, rfl, .inl ⟨rfl, _, .of hM5⟩, _, rfl, _, rfl, D, _, (m : Nat), _, rfl, rfl, .of hD5, at_of (j := m) rfl (by rw [List.getElem?_map, lds_at lm5]; rfl), M, _, _, rfl, rfl, hM5, small1000 (by rw [List.length_map]; omega), ?_⟩
                refine ⟨ms' ++ [((lead cls m : Nat) : Int)], _, rfl, fun c o e => ?_, by rw [upd_ne nSM]; exact hS5, by rw [upd_same, List.map_append]; rfl, mk6, by omega, at6, fin.1, fin.2⟩
                rw [upd_ne (ne_of_none e nM)]
                exact s5 _ _ e
              · have y1 : ¬ (!inV (.int ((lead cls m : Nat) : Int)) (ms'.map V.int)) = true := y1
                have inn : ((lead cls m : Nat) : Int) ∈ ms' := Classical.byContradiction fun z => y1 (by
                  have : inV (.int ((lead cls m : Nat) : Int)) (ms'.map V.int) = false := Bool.eq_false_iff.mpr fun y => z ((Un.in_ints _ _).mp y)
                  rw [this]
                  rfl)
                have ea : ad ms' ((lead cls m : Nat) : Int) = ms' := if_pos inn
                rw [ea] at fin
                exact ⟨ms', _, rfl, s5, hS5, hM5, mk5, tl5, em5, fin.1, fin.2⟩
            · rintro σ H5 ⟨ms', y7', rfl, s5, hS5, hM5, mk5, tl5, em5, m1, m2⟩
              exact ⟨⟨ms', t + 1, _, y7', rfl, s5, hM5, tl5, mk5.cut em5 her (m1 (by show 0 < 2; decide)) (m2 (by show 1 < 2; decide))⟩, down _⟩
        · have tl : t = ms.length := by
            have : ¬ (decide (((t : Nat) : Int) < (((ms.map V.int).length : Nat) : Int))) = true := y
            rw [decide_eq_true_iff, List.length_map] at this
            omega
          subst tl
          exact ⟨ms, _, y6, y7, rfl, s3, hM, mk⟩
      · rintro σ H0 Q1 Q2 hq ⟨v, e, w, e2, p, ys, e3, e4, i, j, e5, e6, b, e7, z⟩
        exact ⟨v, e, w, e2, p, ys, e3, e4, i, j, e5, e6, b, e7, hq _ _ z⟩
    clear s3 hM H3
    rintro σ' H3 ⟨ms, y5, y6, y7, rfl, s3, hM, mk⟩
    have lm := mk.len dn
    -- sorted
    refine Evl.q_cut (M := fun σ' H' => ∃ (N : Addr) (ns : List Int), σ' = [some b, some (.ref L), some (.ref C), some (.ref D), some (.ref N), y5, y6, y7, none, none, none, none, none] ∧ Same H2 H' ∧ H' N = some (.lst (ns.map V.int)) ∧ UL (ldr cls rows) la ns) ?_ ?_
    · refine ⟨_, rfl, M, ms, rfl, .of hM, by omega, fun p H4 n np s4 hp _ => ?_⟩
      refine ⟨p, _, _, rfl, hp, fun ns up me _ p2 H5 np2 s5 hp2 _ => ?_⟩
      exact ⟨p2, ns, rfl, (s3.trans s4).trans s5, hp2, mk.ul up fun x => by rw [me x, decide_eq_true_iff]⟩
    clear s3 hM lm mk nM H3 M
    rintro σ' H3 ⟨N, ns, rfl, s3, hN, ul⟩
    have lns := ul.len dn
    have nup := up_nodup ul.up
    -- found
    refine Evl.q_cut (M := fun σ' H' => ∃ R : Addr, σ' = [some b, some (.ref L), some (.ref C), some (.ref D), some (.ref N), y5, y6, y7, some (.ref R), none, none, none, none] ∧ H3 R = none ∧ Same H3 H' ∧ H' R = some (.lst [])) ?_ ?_
    · exact ⟨Nat.zero_le _, fun R H4 nR s4 hR _ => ⟨R, rfl, nR, s4, hR⟩⟩
    rintro σ' H4 ⟨R, rfl, nR, s4, hR⟩
    refine Evl.q_cut (M := fun σ' H' => ∃ (y6 y9 y10 y11 : Option V) (rs : List Rw), σ' = [some b, some (.ref L), some (.ref C), some (.ref D), some (.ref N), y5, y6, y7, some (.ref R), y9, y10, y11, none] ∧ Same H3 H' ∧ Tr (ldr cls rows) ns rs ∧ rs.length = ns.length ∧ RwL H' R rs) ?_ ?_
    · refine ⟨_, rfl, N, rfl, ⟨_, .of (s4 _ _ hN)⟩, for_list (K := K) (a := N) (xs := ns.map V.int) (Pv := fun t σ H' => ∃ (y6 y9 y10 y11 : Option V) (rs : List Rw), σ = [some b, some (.ref L), some (.ref C), some (.ref D), some (.ref N), y5, y6, y7, some (.ref R), y9, y10, y11, none] ∧ Same H3 H' ∧ Tr (ldr cls rows) ns rs ∧ rs.length = t ∧ RwL H' R rs) ?_ (fun t σ H' _ p => ?_) ?_ ?_⟩
      · exact ⟨y6, none, none, none, [], rfl, s4, fun t r h => (nomatch h), rfl, ⟨[], hR, .nil⟩⟩
      · obtain ⟨_, _, _, _, _, _, h, _⟩ := p
        exact .of (h _ _ hN)
      · rintro t v σ H5 hv ⟨y6, y9, y10, y11, rs, rfl, s5, tr, lt, ⟨rvs5, hR5, aR5⟩⟩
        obtain ⟨z, hx, rfl⟩ := at_int hv
        obtain ⟨n, rfl, un⟩ := (ul.me z).mp (List.mem_of_getElem? hx)
        have lx := (List.getElem?_eq_some_iff.mp hx).1
        have ln : n < rows.length := by
          have := un.le dn
          omega
        obtain ⟨rv, hrv, a, rfl, ha⟩ := aR2.atR (List.getElem?_eq_getElem ln)
        generalize hg : rows[n] = r at ha
        have her : (ldr cls rows)[n]? = some (ldR cls r) := by
          unfold ldr
          rw [List.getElem?_map, List.getElem?_eq_getElem ln, hg]
          rfl
        have s25 := s3.trans s5
        have ha3 := s25 _ _ ha
        have hN5 := s5 _ _ hN
        have lr5 := aR5.1
        refine Evl.q_cut (M := fun σ' H' => σ' = [some b, some (.ref L), some (.ref C), some (.ref D), some (.ref N), y5, some (.ref a), y7, some (.ref R), some (.int (n : Nat)), y10, y11, none] ∧ H5 = H') ?_ ?_
        · exact ⟨_, rfl, _, rfl, L, _, (n : Nat), _, rfl, rfl, .of (s25 _ _ hL2), at_of (j := n) rfl hrv, rfl, rfl⟩
        rintro σ' H' ⟨rfl, rfl⟩
        -- the row anew
        refine Evl.q_cut (M := fun σ' H' => ∃ (y10 y11 : Option V) (p : Addr) (r' : Rw), σ' = [some b, some (.ref L), some (.ref C), some (.ref D), some (.ref N), y5, some (.ref p), y7, some (.ref R), some (.int (n : Nat)), y10, y11, none] ∧ Same H5 H' ∧ H' p = some (.tup r'.vs) ∧ Mv ns (ldR cls r) r') ?_ ?_
        · cases r with
          | book b' =>
            exact ⟨_, rfl, a, _, 0, .str "book", rfl, rfl, .of ha3, rfl, rfl, false, by simp; decide, y10, y11, a, .book b', rfl, Same.refl _, ha3, rfl⟩
          | cut i' j' k' =>
            have pr := lad_parts x.ld (show rows[n]? = some (.cut i' j' k') by rw [List.getElem?_eq_getElem ln, hg])
            obtain ⟨p, q', p1, p2, h1, h2⟩ := parts_at dn ul hx her
            refine ⟨_, rfl, a, _, 0, .str "cut", rfl, rfl, .of ha3, rfl, rfl, true, by simp, ?_⟩
            refine Evl.q_cut (M := fun σ' H' => σ' = [some b, some (.ref L), some (.ref C), some (.ref D), some (.ref N), y5, some (.ref a), y7, some (.ref R), some (.int (n : Nat)), some (.int (p : Nat)), some (.int (q' : Nat)), none] ∧ Same H5 H') ?_ ?_
            · refine ⟨_, rfl, _, rfl, _, rfl, a, _, rfl, ha3, fun S H6 s6 hS => ?_⟩
              rw [show cutV (Rw.cut i' j' k').vs (some 1) (some 3) = [.int (i' : Nat), .int (j' : Nat)] from cut_13 _ _ _ _] at hS
              refine ⟨S, rfl, ⟨_, .of hS⟩, fun Z nZ => ?_⟩
              refine lc_tup (xs := [.int (i' : Nat), .int (j' : Nat)]) (Pv := fun u H' => Same H6 H' ∧ H' Z = some (.lst (([(p : Int), (q' : Int)].take u).map V.int))) ⟨same_new nZ, upd_same⟩ (fun u H' _ z => .of (z.1 _ _ hS)) ?_ ?_
              · rintro u v H7 hx' ⟨s7, hZ⟩
                have key : ∃ (m c : Nat), v = .int (m : Nat) ∧ m < cls.length ∧ ns[c]? = some ((lead cls m : Nat) : Int) ∧ [(p : Int), (q' : Int)][u]? = some (c : Int) := by
                  match u, hx' with
                  | 0, hx' => exact ⟨i', p, (Option.some.inj hx').symm, by omega, h1, rfl⟩
                  | 1, hx' => exact ⟨j', q', (Option.some.inj hx').symm, by omega, h2, rfl⟩
                have lu : u < 2 := (List.getElem?_eq_some_iff.mp hx').1
                obtain ⟨m, c, rfl, lmc, hm, hu'⟩ := key
                have s67 := s6.trans s7
                have hN7 := s67 _ _ hN5
                have hD7 := s67 _ _ (s25 _ _ hD)
                refine ⟨rfl, _, rfl, .inl ⟨rfl, _, .of hN7⟩, _, rfl, _, rfl, D, _, (m : Nat), _, rfl, rfl, .of hD7, at_of (j := m) rfl (by rw [List.getElem?_map, lds_at lmc]; rfl), N, _, .int ((lead cls m : Nat) : Int), c, .int ((lead cls m : Nat) : Int), rfl, rfl, .of hN7, rfl, ints_flat ns, by rw [List.getElem?_map, hm]; rfl, ?_, fun d z' ld hz' => ?_, ?_⟩
                · exact decide_eq_true rfl
                · obtain ⟨y, hy, rfl⟩ := at_int hz'
                  have : y ≠ ((lead cls m : Nat) : Int) := fun e => by
                    rw [e] at hy
                    have := nd_at nup hy hm
                    omega
                  exact decide_eq_false this
                · refine ⟨_, hZ, small1000 (by rw [List.length_map, List.length_take]; omega), fun b o e => ?_, ?_⟩
                  · rw [upd_ne (ne_of_none e nZ)]
                    exact s7 _ _ e
                  · rw [upd_same, take_snoc hu', List.map_append]
                    rfl
              · rintro H7 ⟨s7, hZ⟩
                exact ⟨Z, _, rfl, .of hZ, rfl, _, _, rfl, _, _, rfl, rfl, rfl, s6.trans s7⟩
            rintro σ' H6 ⟨rfl, s6⟩
            refine ⟨_, rfl, _, rfl, _, rfl, a, _, 3, .int k', rfl, rfl, .of (s6 _ _ ha3), rfl, by show 4 ≤ sizeLine; decide, fun t' H7 nt s7 ht _ => ?_⟩
            exact ⟨_, _, t', .cut p q' k', rfl, s6.trans s7, ht, p, q', h1, h2, rfl⟩
        rintro σ' H6 ⟨y10', y11', p, r', rfl, s6, hp, mv⟩
        have hR6 := s6 _ _ hR5
        refine ⟨_, rfl, .inl ⟨rfl, _, .of hR6⟩, _, rfl, R, _, _, rfl, rfl, hR6, small1000 (by omega), ?_⟩
        refine ⟨_, _, _, _, rs ++ [r'], rfl, fun c o e => ?_, tr.snoc (by rw [lt]; exact hx) her mv, by rw [List.length_append, lt]; rfl, rw_snoc hR6 (aR5.imp fun _ _ r => r.ke (Ke.same (F := Nof) s6)) ⟨p, rfl, hp⟩⟩
        rw [upd_ne (ne_of_none e nR)]
        exact (s5.trans s6) _ _ e
      · rintro σ H5 ⟨y6, y9, y10, y11, rs, rfl, s5, tr, lt, hR5⟩
        rw [List.length_map] at lt
        exact ⟨y6, y9, y10, y11, rs, rfl, s5, tr, lt, hR5⟩
    rintro σ' H5 ⟨y6, y9, y10, y11, rs, rfl, s5, tr, lt, hR5⟩
    exact ⟨_, rfl, q rs R H5 ⟨ns, by rw [hla]; exact ul, tr, lt⟩ (k2.trans (.same (s3.trans s5))) hR5⟩
end
end Du
namespace Nw
open PySem PySem.Spec PyProof.Rows L2
theorem prg_cl {X : Cx} {e : Expr} {te : L2.St → Hp → (Int → Int → Hp → Prop) → Prop} (he : PRg X e te) : PRg X e (fun σ H Q => ∃ R : Int → Int → Hp → Prop, (∀ a b H1, R a b H1 → Q a b H1) ∧ te σ H R) := by
  intro pins s σ H Q I ⟨R, i, q⟩
  refine thn (he pins s σ H R I q) fun x s1 ⟨r, a, b, t, u, v, H1, ex, hr, I1, z⟩ => ⟨r, a, b, t, u, v, H1, ex, hr, I1, i a b H1 z⟩
theorem pe_listRgN {X : Cx} {e : Expr} {te : L2.St → Hp → (Int → Int → Hp → Prop) → Prop} {p pos : Pos} (hc : X.calm = true) (hg : Gl X "list") (hm : X.mg "list" = none) (he : PRg X e te) (na : starEach [e] X.env = (false, eval e X.env) :: starEach [] X.env := by rfl) :
    PE X (.Call (.Name "list" p) [e] [] pos) (fun σ H Q => te σ H fun a b H1 => RgOk a b ∧ New H1 (.lst (rgV a b)) Q) :=
  pe_weak (pe_listRg hc hg hm (prg_cl he) na) fun _ _ _ q => ⟨_, fun _ _ _ z => ⟨z.1, z.2.to⟩, q⟩
end Nw
namespace Ag
open PySem PySem.Spec PyProof.Rows L2 GxR Nw Dr Kp Se Cl Ct Lr Lp Ll Od Wg Wl Wo Wk Un Um An Mb Nm To
/-! ### rows told again -/
structure Ag (css : List (List Int)) (rows0 : List Rw) (cls0 : List (List Int)) (rows : List Rw) (cls : List (List Int)) (tw : List Nat) : Prop where
  ld : Lad css rows cls
  lt : tw.length = rows0.length
  eq : ∀ (m p : Nat), tw[m]? = some p → ∃ c, cls[p]? = some c ∧ cls0[m]? = some c
theorem Ag.nil {css cls0 : List (List Int)} {rows0 : List Rw} (l : Lad css rows0 cls0) : Ag css rows0 cls0 rows0 cls0 (List.range rows0.length) := by
  refine ⟨l, List.length_range, fun m p h => ?_⟩
  have lm := (List.getElem?_eq_some_iff.mp h).1
  rw [List.length_range] at lm
  rw [List.getElem?_eq_getElem (by rw [List.length_range]; exact lm), List.getElem_range] at h
  cases h
  exact ⟨_, List.getElem?_eq_getElem (by rw [← l.1]; exact lm), List.getElem?_eq_getElem (by rw [← l.1]; exact lm)⟩
theorem Ag.new {css cls0 cls : List (List Int)} {rows0 rows : List Rw} {tw : List Nat} {n i j a b : Nat} {k : Int} (x : Ag css rows0 cls0 rows cls tw) (l : Lad css rows0 cls0) (e : rows0[n]? = some (.cut i j k)) (ha : tw[i]? = some a) (hb : tw[j]? = some b) :
    ∃ c, Ag css rows0 cls0 (rows ++ [.cut a b k]) (cls ++ [c]) (tw.set n rows.length) := by
  have ln := (List.getElem?_eq_some_iff.mp e).1
  have lc : n < cls0.length := by rw [← l.1]; exact ln
  have hc := List.getElem?_eq_getElem lc
  obtain ⟨p1, p2⟩ := lad_parts l e
  obtain ⟨u, v, h1, h2, h3⟩ := l.2 n _ _ e hc
  rw [take_at p1] at h1
  rw [take_at p2] at h2
  obtain ⟨u', g1, g1'⟩ := x.eq i a ha
  obtain ⟨v', g2, g2'⟩ := x.eq j b hb
  rw [h1] at g1'
  rw [h2] at g2'
  cases g1'
  cases g2'
  refine ⟨cls0[n], x.ld.snoc ⟨u, v, g1, g2, h3⟩, by rw [List.length_set, x.lt], fun m p h => ?_⟩
  rw [List.getElem?_set] at h
  split at h
  · rename_i z
    subst z
    split at h
    · cases h
      exact ⟨_, by rw [x.ld.1]; exact at_end, hc⟩
    · cases h
  · obtain ⟨c, q1, q2⟩ := x.eq m p h
    exact ⟨c, at_ahead q1, q2⟩
structure Zg (mg : Str → Option Value) : Prop where
  z_len : mg "len" = none
  z_list : mg "list" = none
  z_range : mg "range" = none
section
variable {P : Program} {w : World} {K : PySem.W.Frag} {mg : Str → Option Value} {base : Heap}
abbrev sAgn : Stmt := topS 54
theorem scAgn : FnScope ["feed", "ladder", "found", "twin", "number", "row"] ["feed", "ladder"] (defScope sAgn) := ⟨rfl, rfl, rfl, by decide +kernel, rfl, by decide +kernel, by decide +kernel⟩
def spAgn : Sp := fun vs H Q _ => ∃ (f c L : Addr) (B : Nat) (css cls : List (List Int)) (rows : List Rw), vs = [.ref f, .ref L] ∧ Feed H f c B ∧ B ≤ 2 ^ 56 ∧ L ≠ f ∧ RwL H L rows ∧ Lad css rows cls ∧ 1 ≤ rows.length ∧ rows.length ≤ 40 ∧
  ∀ (p : Addr) (cls' : List (List Int)) (rows' : List Rw) (H' : Hp), Feed H' f c (B + 40) → Ke (· = f) H H' → H p = none → p ≠ f → RwL H' p rows' → Lad css rows' cls' → 1 ≤ rows'.length → rows'.length ≤ 80 → Q (.ref p) H'
theorem ok_agn {f fD : Addr} {fd fdD : FuncData} {k : Nat} (F : Fun K "_law_s_again" "_law_s_again" sAgn f fd) (T : Zg mg)
    (FD : Fun K "_law_sdraw" "_law_sdraw" sDrw fD fdD) (bD : Binds K fdD ["feed", "many"] []) (gD : mg "_law_sdraw" = some (.ref fD)) (GD : FnOk P w K mg base CX0 2 fD fdD ["feed", "many"] spDrw) :
    FnOk P w K mg base CX0 (k + 3) f fd ["feed", "ladder"] spAgn := by
  refine F.ok scAgn (fun vs H Q E h => ?_) (fun cdv A outer s H vs Q E hr h => ?_)
  · obtain ⟨f, c, L, B, css, cls, rows, rfl, _⟩ := h
    rfl
  · obtain ⟨fe, c, L, B, css, cls0, rows0, rfl, F0, hB, nL, ⟨rvs, hL, aR⟩, ld, l1, l40, q⟩ := h
    have hr2 : Room 2 _ := hr.mono (by omega)
    refine ⟨_, (Evl.pss_cut (ps_set (i := 2) scAgn.nd rfl (.inl rfl) (pe_callTy call_list_ofN (by rfl) T.z_list (by decide +kernel) (pa_cons (pv 1) pa_nil)))
      (Evl.pss_cut (ps_set (i := 3) scAgn.nd rfl (.inl rfl) (pe_listRgN rfl (by rfl) T.z_list (prg_1 (by rfl) T.z_range (pe_callB call_len_seq (by rfl) T.z_len (by decide +kernel) (pa_cons (pv 1) pa_nil)))))
      (Evl.pss_cut (ps_for PassesOwn.never rfl (pi_range1 (by rfl) T.z_range (pa_cons (pe_callB call_len_seq (by rfl) T.z_len (by decide +kernel) (pa_cons (pv 1) pa_nil)) pa_nil)) (pg_name (i := 4) scAgn.nd rfl (.inl rfl)) (Evl.pss_cut (ps_set (i := 5) scAgn.nd rfl (.inl rfl) (pe_ix ix_list (pv 1) (pv 4) (fun _ _ => rfl)))
      (pss_one (ps_if (PW.pt (pw_and (pt_cmpR op_eq (pe_ix ix_tup (pv 5) pe_int (fun _ _ => rfl)) pe_str (nomark _)) (pw_and1 (pt_cmpR op_eq (pe_call GD hr2 (by rfl) gD FD.kp bD .nil pass0 (pa_cons (pv 0) (pa_cons pe_int pa_nil))) pe_int (nomark _))))) (Evl.pss_cut (ps_expr (pe_bm PySem.F.plainAttrs_list PySem.F.slot_list_append PySem.F.type_list_append mt_append (pv 2) (pa_cons (pe_tupN (pa_cons pe_str (pa_cons (pe_ix ix_list (pv 3) (pe_ix ix_tup (pv 5) pe_int (fun _ _ => rfl)) (fun _ _ => rfl)) (pa_cons (pe_ix ix_list (pv 3) (pe_ix ix_tup (pv 5) pe_int (fun _ _ => rfl)) (fun _ _ => rfl)) (pa_cons (pe_ix ix_tup (pv 5) pe_int (fun _ _ => rfl)) pa_nil))))) pa_nil)))
      (pss_one (ps_asg (pe_op op_sub (pe_callB call_len_seq (by rfl) T.z_len (by decide +kernel) (pa_cons (pv 2) pa_nil)) pe_int) (pg_sub (pv 3) (pv 4) set_list)))) pss_nil))))
      (pss_one (ps_ret (pv 2)))))), ?_⟩
    have lr := aR.1
    -- found
    refine Evl.q_cut (M := fun σ' H' => ∃ R : Addr, σ' = [some (.ref fe), some (.ref L), some (.ref R), none, none, none] ∧ H R = none ∧ Same H H' ∧ H' R = some (.lst rvs)) ?_ ?_
    · exact ⟨_, rfl, L, _, rfl, .inl (.of hL), fun Z H3 nZ s3 hZ _ => ⟨Z, rfl, nZ, s3, hZ⟩⟩
    rintro σ' H1 ⟨R, rfl, nR, s1, hR⟩
    -- twin
    refine Evl.q_cut (M := fun σ' H' => ∃ W : Addr, σ' = [some (.ref fe), some (.ref L), some (.ref R), some (.ref W), none, none] ∧ H W = none ∧ W ≠ R ∧ Same H H' ∧ H' R = some (.lst rvs) ∧ H' W = some (.lst ((List.range rows0.length).map fun n : Nat => V.int n))) ?_ ?_
    · refine ⟨_, rfl, L, _, rfl, .inl (.of (s1 _ _ hL)), ((rvs.length : Nat) : Int), rfl, .of_le (by omega) (by omega) (by omega) (by omega), fun W G nW s2 hW _ => ⟨W, rfl, s1.free nW, Ne.symm (ne_of_none hR nW), s1.trans s2, s2 _ _ hR, ?_⟩⟩
      rw [hW]
      unfold rgV
      rw [show (((rvs.length : Nat) : Int) - 0).toNat = rows0.length by omega]
      refine congrArg (fun z => some (HO.lst z)) (List.map_congr_left fun n _ => ?_)
      show V.int (0 + (n : Nat)) = V.int (n : Nat)
      rw [Int.zero_add]
    clear hR s1 H1
    rintro σ' H1 ⟨W, rfl, nW, nWR, s1, hR, hW⟩
    have nRf := F0.nf nR
    have nRc := F0.nc nR
    have nWf := F0.nf nW
    have nWc := F0.nc nW
    refine Evl.q_cut (M := fun σ' H' => ∃ (y4 y5 : Option V) (rows : List Rw) (cls : List (List Int)) (tw : List Nat), σ' = [some (.ref fe), some (.ref L), some (.ref R), some (.ref W), y4, y5] ∧ Feed H' fe c (B + rows0.length) ∧ Ke (· = fe) H H' ∧ RwL H' R rows ∧ rows0.length ≤ rows.length ∧ rows.length ≤ rows0.length + rows0.length ∧ Ag css rows0 cls0 rows cls tw) ?_ ?_
    · refine ⟨_, rfl, L, _, rfl, .inl (.of (s1 _ _ hL)), rows0.length, by rw [lr], by omega, by omega, for_range (Pv := fun i σ H' => ∃ (y4 y5 : Option V) (rows : List Rw) (cls : List (List Int)) (tw : List Nat), σ = [some (.ref fe), some (.ref L), some (.ref R), some (.ref W), y4, y5] ∧ Feed H' fe c (B + i) ∧ Ke (· = fe) H H' ∧ RwL H' R rows ∧ H' W = some (.lst (tw.map fun n : Nat => V.int n)) ∧ rows0.length ≤ rows.length ∧ rows.length ≤ rows0.length + i ∧ Ag css rows0 cls0 rows cls tw) ?_ ?_ ?_⟩
      · exact ⟨none, none, rows0, cls0, _, rfl, F0.same s1, .same s1, ⟨rvs, hR, aR.imp fun _ _ r => r.ke (Ke.same (F := Nof) s1)⟩, hW, Nat.le_refl _, Nat.le_refl _, .nil ld⟩
      · clear hR hW s1 H1
        rintro i σ H3 hi ⟨y4, y5, rows, cls, tw, rfl, F3, k3, ⟨ws, hR3, aW⟩, hW3, g1, g2, ag⟩
        have hi : i < rows0.length := hi
        have ei : (0 : Int) + (i : Nat) = (i : Nat) := Int.zero_add _
        rw [ei]
        obtain ⟨rv, hrv, a, rfl, ha⟩ := aR.atR (List.getElem?_eq_getElem hi)
        generalize hg : rows0[i] = r at ha
        have her : rows0[i]? = some r := by rw [List.getElem?_eq_getElem hi, hg]
        have hL3 := k3.lst hL nL
        have ha3 := k3.tups _ _ ha
        have lw := aW.1
        have ltw := ag.lt
        refine Evl.q_cut (M := fun σ' H' => σ' = [some (.ref fe), some (.ref L), some (.ref R), some (.ref W), some (.int (i : Nat)), some (.ref a)] ∧ H3 = H') ?_ ?_
        · exact ⟨_, rfl, _, rfl, L, _, (i : Nat), _, rfl, rfl, .of hL3, at_of (j := i) rfl hrv, rfl, rfl⟩
        rintro σ' H' ⟨rfl, rfl⟩
        have stay : ∀ H', Feed H' fe c (B + i + 1) → Ke (· = fe) H H' → RwL H' R rows → H' W = some (.lst (tw.map fun n : Nat => V.int n)) → ∃ (y4 y5 : Option V) (rows' : List Rw) (cls' : List (List Int)) (tw' : List Nat), [some (.ref fe), some (.ref L), some (.ref R), some (.ref W), some (.int (i : Nat)), some (.ref a)] = [some (.ref fe), some (.ref L), some (.ref R), some (.ref W), y4, y5] ∧ Feed H' fe c (B + (i + 1)) ∧ Ke (· = fe) H H' ∧ RwL H' R rows' ∧ H' W = some (.lst (tw'.map fun n : Nat => V.int n)) ∧ rows0.length ≤ rows'.length ∧ rows'.length ≤ rows0.length + (i + 1) ∧ Ag css rows0 cls0 rows' cls' tw' := fun H' F4 k4 h1 h2 => ⟨_, _, rows, cls, tw, rfl, F4, k4, h1, h2, g1, by omega, ag⟩
        cases r with
        | book b =>
          refine ⟨_, rfl, a, _, 0, .str "book", rfl, rfl, .of ha3, rfl, rfl, false, by simp; decide, ?_⟩
          exact stay _ (F3.mono (by omega)) k3 ⟨ws, hR3, aW⟩ hW3
        | cut i' j' k' =>
          obtain ⟨p1, p2⟩ := lad_parts ld her
          have tp := List.getElem?_eq_getElem (show i' < tw.length by omega)
          have tq := List.getElem?_eq_getElem (show j' < tw.length by omega)
          generalize tw[i']'(by omega) = p at tp
          generalize tw[j']'(by omega) = p' at tq
          obtain ⟨c', ag'⟩ := ag.new ld her tp tq
          refine ⟨_, rfl, a, _, 0, .str "cut", rfl, rfl, .of ha3, rfl, rfl, true, by simp, ?_⟩
          refine ⟨_, rfl, fe, c, 2, _, rfl, by decide, by decide, F3, by omega, fun d H4 d0 d1 F4 b4 => ?_⟩
          have k4 : Ke (· = fe) H3 H4 := .but F3 b4
          have hR4 := k4.lst hR3 nRf
          have hW4 := k4.lst hW3 nWf
          have aW4 : All2 (RowAt H4) ws rows := aW.imp fun _ _ r => r.ke k4
          have k14 := k3.trans k4
          refine ⟨rfl, _, rfl, ite2 (fun e => ?_) (fun e => stay _ (F4.mono (by omega)) k14 ⟨ws, hR4, aW4⟩ hW4)⟩
          have ha4 := k4.tups _ _ ha3
          refine Evl.q_cut (M := fun σ' H' => σ' = [some (.ref fe), some (.ref L), some (.ref R), some (.ref W), some (.int (i : Nat)), some (.ref a)] ∧ Feed H' fe c (B + i + 1) ∧ Ke (· = fe) H H' ∧ RwL H' R (rows ++ [.cut p p' k']) ∧ H' W = some (.lst (tw.map fun n : Nat => V.int n))) ?_ ?_
          · refine ⟨_, rfl, .inl ⟨rfl, _, .of hR4⟩, _, rfl, _, rfl, a, _, 1, .int (i' : Nat), rfl, rfl, .of ha4, rfl, W, _, (i' : Nat), _, rfl, rfl, .of hW4, at_of (j := i') rfl (by rw [List.getElem?_map, tp]; rfl), ?_⟩
            refine ⟨_, rfl, _, rfl, a, _, 2, .int (j' : Nat), rfl, rfl, .of ha4, rfl, W, _, (j' : Nat), _, rfl, rfl, .of hW4, at_of (j := j') rfl (by rw [List.getElem?_map, tq]; rfl), ?_⟩
            refine ⟨_, rfl, a, _, 3, .int k', rfl, rfl, .of ha4, rfl, by show 4 ≤ sizeLine; decide, fun t H5 nt s5 ht _ => ?_⟩
            have hR5 := s5 _ _ hR4
            refine ⟨R, _, _, rfl, rfl, hR5, small1000 (by omega), ?_⟩
            exact ⟨rfl, (F4.same s5).upd nRf nRc, (k14.trans (.same s5)).upd nR, rw_snoc hR5 (aW4.imp fun _ _ r => r.ke (Ke.same (F := Nof) s5)) ⟨t, rfl, ht⟩, by rw [upd_ne nWR]; exact s5 _ _ hW4⟩
          clear hR4 hW4 aW4 k14 F4 b4 k4 ha4 H4
          rintro σ' H4 ⟨rfl, F4, k4, ⟨ws4, hR4, aW4⟩, hW4⟩
          have lw4 := aW4.1
          rw [List.length_append, List.length_singleton] at lw4
          refine ⟨_, rfl, R, _, rfl, .inl (.of hR4), _, _, rfl, rfl, _, rfl, _, rfl, W, _, (i : Nat), i, rfl, rfl, hW4, ?_, ?_⟩
          · unfold ixN
            rw [if_pos (by omega), if_pos (by rw [List.length_map]; omega)]
            rfl
          · refine ⟨_, _, rows ++ [.cut p p' k'], cls ++ [c'], tw.set i rows.length, rfl, (F4.upd nWf nWc).mono (by omega), k4.upd nW, ⟨ws4, by rw [upd_ne (Ne.symm nWR)]; exact hR4, aW4.imp fun _ _ r => RowAt.wr r hW4⟩, ?_, by rw [List.length_append]; omega, by rw [List.length_append, List.length_singleton]; omega, ag'⟩
            have e9 : ((ws4.length : Nat) : Int) - 1 = ((rows.length : Nat) : Int) := by omega
            rw [upd_same, List.map_set]
            show some (HO.lst ((tw.map fun n : Nat => V.int n).set i (V.int (((ws4.length : Nat) : Int) - 1)))) = _
            rw [e9]
      · rintro σ H3 ⟨y4, y5, rows, cls, tw, rfl, F3, k3, hR3, _, g1, g2, ag⟩
        exact ⟨y4, y5, rows, cls, tw, rfl, F3, k3, hR3, g1, g2, ag⟩
    rintro σ' H3 ⟨y4, y5, rows, cls, tw, rfl, F3, k3, hR3, g1, g2, ag⟩
    exact ⟨_, rfl, q R cls rows H3 (F3.mono (by omega)) k3 nR nRf hR3 ag.ld (by omega) (by omega)⟩
end
end Ag
namespace K12
open PySem PySem.Spec PyProof.Rows L2 GxR Nw Dr Kp Se Cl Ct Lr Lp Ll Od Wg Wl Wo Wk Rf Wn Wf Wp Xb Un Lo Um An Mb Nm Sx To Du Ag
structure Zk (mg : Str → Option Value) : Prop where
  z_len : mg "len" = none
  z_range : mg "range" = none
  z_list : mg "list" = none
  z_repr : mg "repr" = none
  z_set : mg "set" = none
  z_isinstance : mg "isinstance" = none
theorem keys_of {H : Hp} : ∀ {vs : List V} {cs : List (List Int)}, All2 (TupI H) vs cs → ∃ ks : List (Addr × List Key), vs = ks.map (fun p => V.ref p.1) ∧ ks.map (·.2) = cs.map kT ∧ ∀ p ∈ ks, H p.1 = some (.tup (p.2.map kV))
  | [], [], _ => ⟨[], rfl, rfl, fun p h => nomatch h⟩
  | [], r :: t, h => by cases h.1
  | v :: t, [], h => by cases h.1
  | v :: t, r :: u, h => by
    obtain ⟨a, rfl, ha⟩ := h.2 0 v r rfl rfl
    obtain ⟨ks, e1, e2, al⟩ := keys_of (vs := t) (cs := u) ⟨by have := h.1; simp only [List.length_cons] at this; omega, fun i x y h1 h2 => h.2 (i + 1) x y h1 h2⟩
    refine ⟨(a, kT r) :: ks, by rw [List.map_cons, e1], by rw [List.map_cons, List.map_cons, e2], fun p hp => ?_⟩
    rcases List.mem_cons.mp hp with z | z
    · rw [z]
      show H a = some (.tup ((kT r).map kV))
      rw [kT_v]
      exact ha
    · exact al p z
theorem cl_last {H : Hp} {C : Addr} {cls : List (List Int)} (h : ClL H C cls) (l : 1 ≤ cls.length) : ∃ (cvs : List V) (v : V) (c : List Int), H C = some (.lst cvs) ∧ cvs[cvs.length - 1]? = some v ∧ cls[cls.length - 1]? = some c ∧ TupI H v c := by
  obtain ⟨cvs, hC, aC⟩ := h
  have e := List.getElem?_eq_getElem (show cls.length - 1 < cls.length by omega)
  obtain ⟨v, hv, tv⟩ := aC.atR e
  exact ⟨cvs, v, _, hC, by rw [aC.1]; exact hv, e, tv⟩
section
variable {P : Program} {w : World} {K : PySem.W.Frag} {mg : Str → Option Value} {base : Heap}
abbrev sLaw : Stmt := topS 56
theorem scL : FnScope ["script", "feed", "turn", "book", "ladder", "due", "handed", "again", "told", "claims"] ["script"] (defScope sLaw) := ⟨rfl, rfl, rfl, by decide +kernel, rfl, by decide +kernel, by decide +kernel⟩
def spLaw (Po : Addr) (K : PySem.W.Frag) : Sp := fun vs H Q _ => ∃ (a : Addr) (ns : List Int), vs = [.ref a] ∧ SqL K H a (ns.map V.int) ∧ TabG H Po ∧ ∀ H', Q (.bl true) H'
/-- a book and a ladder by it -/
structure G7 (fe : Addr) (b : V) (L : Addr) (css cls : List (List Int)) (rows : List Rw) (H : Hp) : Prop where
  bl : BL H b L css rows cls
  nL : L ≠ fe
  c1 : 1 ≤ css.length
  c16 : css.length ≤ 16
  r1 : 1 ≤ rows.length
theorem G7.ke {fe : Addr} {b : V} {L : Addr} {css cls : List (List Int)} {rows : List Rw} {H H' : Hp} (x : G7 fe b L css cls rows H) (k : Ke (· = fe) H H') : G7 fe b L css cls rows H' := ⟨x.bl.ke k x.nL, x.nL, x.c1, x.c16, x.r1⟩
/-- what stands -/
structure C7 (Po fe c : Addr) (B : Nat) (H : Hp) : Prop where
  to : TabG H Po
  fe : Feed H fe c B
theorem C7.ke {Po fe c : Addr} {B B' : Nat} {H H' : Hp} (x : C7 Po fe c B H) (k : Ke (· = fe) H H') (F : Feed H' fe c B') : C7 Po fe c B' H' := ⟨k.tabs _ x.to, F⟩
theorem C7.no {Po fe c : Addr} {B : Nat} {H H' : Hp} (x : C7 Po fe c B H) (k : Ke Nof H H') : C7 Po fe c B H' := ⟨k.tabs _ x.to, k.feed x.fe⟩
theorem C7.mono {Po fe c : Addr} {B B' : Nat} {H : Hp} (x : C7 Po fe c B H) (l : B ≤ B') : C7 Po fe c B' H := ⟨x.to, x.fe.mono l⟩
theorem ok_law {f f1 fO fS fP fN fG fD fX fA fU fW Po : Addr} {fd fd1 fdO fdS fdP fdN fdG fdD fdX fdA fdU fdW : FuncData} (FL : Fun K "law" "law" sLaw f fd) (T : Zk mg)
    (FT : Fun K "told_once" "told_once" sTon f1 fd1) (bT : Binds K fd1 ["book", "ladder"] []) (g1 : mg "told_once" = some (.ref f1)) (GT : FnOk P w K mg base CX0 8 f1 fd1 ["book", "ladder"] (spTon Po))
    (FO : Fun K "_law_sopen" "_law_sopen" sOpn fO fdO) (bO : Binds K fdO ["script"] []) (gO : mg "_law_sopen" = some (.ref fO)) (GO : FnOk P w K mg base CX0 1 fO fdO ["script"] (spOpn K))
    (FD : Fun K "_law_sdraw" "_law_sdraw" sDrw fD fdD) (bD : Binds K fdD ["feed", "many"] []) (gD : mg "_law_sdraw" = some (.ref fD)) (GD : FnOk P w K mg base CX0 2 fD fdD ["feed", "many"] spDrw)
    (FS : Fun K "_law_scase" "_law_scase" sSca fS fdS) (bS : Binds K fdS ["feed"] []) (gS : mg "_law_scase" = some (.ref fS)) (GS : FnOk P w K mg base CX0 5 fS fdS ["feed"] spSca)
    (FG : Fun K "_law_slong" "_law_slong" sSlo fG fdG) (bL : Binds K fdG ["feed"] []) (gL : mg "_law_slong" = some (.ref fG)) (GL : FnOk P w K mg base CX0 4 fG fdG ["feed"] spSlo)
    (FX : Fun K "_law_ssixty" "_law_ssixty" sSix fX fdX) (bX : Binds K fdX ["feed"] []) (gX : mg "_law_ssixty" = some (.ref fX)) (GX : FnOk P w K mg base CX0 4 fX fdX ["feed"] spSix)
    (FA : Fun K "_law_s_again" "_law_s_again" sAgn fA fdA) (bA : Binds K fdA ["feed", "ladder"] []) (gA : mg "_law_s_again" = some (.ref fA)) (GA : FnOk P w K mg base CX0 3 fA fdA ["feed", "ladder"] spAgn)
    (FU : Fun K "_law_s_due" "_law_s_due" sDue fU fdU) (bU : Binds K fdU ["book", "ladder"] []) (gU : mg "_law_s_due" = some (.ref fU)) (GU : FnOk P w K mg base CX0 4 fU fdU ["book", "ladder"] spDue)
    (FW : Fun K "_law_stold" "_law_stold" sSto fW fdW) (bW : Binds K fdW ["book", "rows"] []) (gW : mg "_law_stold" = some (.ref fW)) (GW : FnOk P w K mg base CX0 3 fW fdW ["book", "rows"] spStL)
    (FP : Fun K "_law_sspoilt" "_law_sspoilt" sSsp fP fdP) (bP : Binds K fdP ["feed", "book", "ladder"] []) (gP : mg "_law_sspoilt" = some (.ref fP)) (GP : FnOk P w K mg base CX0 4 fP fdP ["feed", "book", "ladder"] spSsp)
    (FN : Fun K "_law_sno_ladder" "_law_sno_ladder" sSno fN fdN) (bN : Binds K fdN ["acts", "book", "spoilt"] []) (gN : mg "_law_sno_ladder" = some (.ref fN)) (GN : Gx2.FnX P w K mg base CX0 11 fN fdN ["acts", "book", "spoilt"] (spSno [(f1, 0)] Po)) :
    Gd.FnG P w K mg base 12 f fd ["script"] (spLaw Po K) := by
  refine Gd.okG FL scL (fun vs H Q E h => ?_) (fun cdv A outer s H vs Q E gd0 hr h => ?_)
  · obtain ⟨a, ns, rfl, _⟩ := h
    rfl
  · obtain ⟨a, ns, rfl, hS, to, q⟩ := h
    have gd : (A.deeper (envOfC "law" (defScope sLaw) s.heap.objs.size f cdv)).guards = some [] := gd0
    have hu : (A.deeper (envOfC "law" (defScope sLaw) s.heap.objs.size f cdv)).units + 70 < cLine := by
      have := hr.un
      omega
    have hu4 : (A.deeper (envOfC "law" (defScope sLaw) s.heap.objs.size f cdv)).units + 64 < cLine := by
      have := hr.un
      omega
    have hr1 : Room 1 _ := hr.mono (by decide)
    have hr2 : Room 2 _ := hr.mono (by decide)
    have hr3 : Room 3 _ := hr.mono (by decide)
    have hr4 : Room 4 _ := hr.mono (by decide)
    have hr5 : Room 5 _ := hr.mono (by decide)
    have hr8 : Room 8 _ := hr.mono (by decide)
    have hr11 : Room 11 _ := hr.mono (by decide)
    refine ⟨_, (Evl.pss_cut (ps_set (i := 1) scL.nd rfl (.inl rfl) (pe_call GO hr1 (by rfl) gO FO.kp bO .nil pass0 (pa_cons (pv 0) pa_nil)))
      (Evl.pss_cut (ps_for PassesOwn.never rfl (pi_range1 (by rfl) T.z_range (pa_cons pe_int pa_nil)) (pg_name (i := 2) scL.nd rfl (.inl rfl)) (Evl.pss_cut (ps_asg (pe_call GS hr5 (by rfl) gS FS.kp bS .nil pass0 (pa_cons (pv 1) pa_nil)) (pg_tup rfl (pgs_cons (pg_name (i := 3) scL.nd rfl (.inl rfl)) (pgs_cons (pg_name (i := 4) scL.nd rfl (.inl rfl)) pgs_nil))))
      (Evl.pss_cut (ps_if (pt_cmpR op_eq (pe_call GD hr2 (by rfl) gD FD.kp bD .nil pass0 (pa_cons (pv 1) (pa_cons pe_int pa_nil))) pe_int (nomark _)) (pss_one (ps_set (i := 4) scL.nd rfl (.inl rfl) (pe_call GA hr3 (by rfl) gA FA.kp bA .nil pass0 (pa_cons (pv 1) (pa_cons (pv 4) pa_nil))))) pss_nil)
      (Evl.pss_cut (ps_if (pt_cmpR op_eq (pv 2) pe_int (nomark _)) (Evl.pss_cut (ps_asg (pe_call GL hr4 (by rfl) gL FG.kp bL .nil pass0 (pa_cons (pv 1) pa_nil)) (pg_tup rfl (pgs_cons (pg_name (i := 3) scL.nd rfl (.inl rfl)) (pgs_cons (pg_name (i := 4) scL.nd rfl (.inl rfl)) pgs_nil))))
      (pss_one (ps_if (pt_cmpR op_eq (pe_call GD hr2 (by rfl) gD FD.kp bD .nil pass0 (pa_cons (pv 1) (pa_cons pe_int pa_nil))) pe_int (nomark _)) (pss_one (ps_asg (pe_call GX hr4 (by rfl) gX FX.kp bX .nil pass0 (pa_cons (pv 1) pa_nil)) (pg_tup rfl (pgs_cons (pg_name (i := 3) scL.nd rfl (.inl rfl)) (pgs_cons (pg_name (i := 4) scL.nd rfl (.inl rfl)) pgs_nil))))) pss_nil))) pss_nil)
      (Evl.pss_cut (ps_set (i := 5) scL.nd rfl (.inl rfl) (pe_call GU hr4 (by rfl) gU FU.kp bU .nil pass0 (pa_cons (pv 3) (pa_cons (pv 4) pa_nil))))
      (Evl.pss_cut (ps_set (i := 6) scL.nd rfl (.inl rfl) (pe_callTy call_list_ofN (by rfl) T.z_list (by decide +kernel) (pa_cons (pv 4) pa_nil)))
      (Evl.pss_cut (ps_for PassesOwn.never rfl (pi_range1 (by rfl) T.z_range (pa_cons pe_int pa_nil)) (pg_name (i := 7) scL.nd rfl (.inl rfl)) (Evl.pss_cut (ps_set (i := 8) scL.nd rfl (.inl rfl) (pe_call GT hr8 (by rfl) g1 FT.kp bT .nil pass0 (pa_cons (pv 3) (pa_cons (pv 6) pa_nil))))
      (Evl.pss_cut (ps_if (PW.pt (pw_or (pt_not (pt_val (pe_callB call_isi (by rfl) T.z_isinstance (by decide +kernel) (pa_cons (pv 8) (pa_cons (pe_bltn (v := .ty "list") (u := .type "list") (by rfl) T.z_list (by decide +kernel) rfl) pa_nil))))) (pw_or (pt_cmpR op_ne (pe_callB (Rpa.cr_reprA gd hu) (by rfl) T.z_repr (by decide +kernel) (pa_cons (pv 8) pa_nil)) (pe_callB (Rpa.cr_reprA gd hu) (by rfl) T.z_repr (by decide +kernel) (pa_cons (pv 5) pa_nil)) (nomark _)) (pw_or1 (pt_cmpR (op_neD hr.units) (pv 6) (pv 4) (nomark _)))))) (pss_one (ps_ret pe_bl)) pss_nil)
      (Evl.pss_cut (ps_set (i := 9) scL.nd rfl (.inl rfl) (pe_ix ix_tup (pe_call GW hr3 (by rfl) gW FW.kp bW .nil pass0 (pa_cons (pv 3) (pa_cons (pv 8) pa_nil))) pe_int (fun _ _ => rfl)))
      (Evl.pss_cut (ps_if (PW.pt (pw_or (pt_cmpR op_lt (pe_callB Tsb.cr_lenSN (by rfl) T.z_len (by decide +kernel) (pa_cons (pe_callTy (Tsb.cr_setK rfl hu4) (by rfl) T.z_set (by decide +kernel) (pa_cons (pv 9) pa_nil)) pa_nil)) (pe_callB call_len_seq (by rfl) T.z_len (by decide +kernel) (pa_cons (pv 8) pa_nil)) (nomark _)) (pw_or1 (pt_cmpR (op_neD hr.units) (pe_ix ix_list (pv 9) (pe_un un_neg pe_int) (fun _ _ => rfl)) (pe_ix ix_list (pe_ix ix_tup (pe_call GW hr3 (by rfl) gW FW.kp bW .nil pass0 (pa_cons (pv 3) (pa_cons (pv 4) pa_nil))) pe_int (fun _ _ => rfl)) (pe_un un_neg pe_int) (fun _ _ => rfl)) (nomark _))))) (pss_one (ps_ret pe_bl)) pss_nil)
      (pss_one (ps_expr (pe_bm0 PySem.F.plainAttrs_list PySem.F.slot_list_clear PySem.F.type_list_clear mt_clear (pv 8)))))))))
      (pss_one (ps_for PassesOwn.never rfl (pi_range1 (by rfl) T.z_range (pa_cons pe_int pa_nil)) (pg_name (i := 7) scL.nd rfl (.inl rfl)) (pss_one (ps_if (pt_not (pt_val (Gx2.pe_callX GN gd hr11 (by rfl) gN FN.kp bN .nil pass0 (pa_cons (pe_lstN (pa_cons (pe_tupN (pa_cons (pe_glob (v := .ref f1) rfl g1 rfl) (pa_cons pe_int pa_nil))) pa_nil)) (pa_cons (pv 3) (pa_cons (pe_call GP hr4 (by rfl) gP FP.kp bP .nil pass0 (pa_cons (pv 1) (pa_cons (pv 3) (pa_cons (pv 4) pa_nil)))) pa_nil)))))) (pss_one (ps_ret pe_bl)) pss_nil)))))))))))
      (pss_one (ps_ret pe_bl)))), ?_⟩
    -- feed
    refine Evl.q_cut (M := fun σ' H' => ∃ fe c : Addr, σ' = [some (.ref a), some (.ref fe), none, none, none, none, none, none, none, none] ∧ C7 Po fe c 0 H') ?_ ?_
    · exact ⟨.ref a, rfl, a, ns, rfl, hS, fun fe c H1 nf nc s1 F1 => ⟨fe, c, rfl, (Ke.same (F := Nof) s1).tabs _ to, F1⟩⟩
    rintro σ' H1 ⟨fe, c, rfl, C1⟩
    refine Evl.q_cut (M := fun σ' H' => True) ?_ ?_
    · refine ⟨3, rfl, by decide, by decide, for_range (Pv := fun i σ H' => ∃ (y2 y3 y4 y5 y6 y7 y8 y9 : Option V), σ = [some (.ref a), some (.ref fe), y2, y3, y4, y5, y6, y7, y8, y9] ∧ C7 Po fe c (7000 * i) H') ?_ ?_ ?_⟩
      · exact ⟨none, none, none, none, none, none, none, none, rfl, C1⟩
      · clear C1 H1
        rintro i σ H1 hi ⟨y2, y3, y4, y5, y6, y7, y8, y9, rfl, C1⟩
        have hi : i < 3 := hi
        refine Evl.q_cut (M := fun σ' H' => ∃ (b : V) (L : Addr) (css cls : List (List Int)) (rows : List Rw), σ' = [some (.ref a), some (.ref fe), some (.int (0 + (i : Int))), some b, some (.ref L), y5, y6, y7, y8, y9] ∧ C7 Po fe c (7000 * i + 3000) H' ∧ G7 fe b L css cls rows H' ∧ rows.length ≤ 40) ?_ ?_
        · refine ⟨_, rfl, fe, c, _, rfl, C1.fe, by omega, fun t L b css cls rows H2 F2 k2 ht nLf nLc fr bl l1 l2 l3 l4 => ?_⟩
          exact ⟨t, _, rfl, .of ht, rfl, _, _, rfl, _, _, rfl, rfl, b, L, css, cls, rows, rfl, C1.ke k2 F2, ⟨bl, nLf, l1, l2, l3⟩, l4⟩
        clear C1 H1
        rintro σ' H1 ⟨b, L, css, cls, rows, rfl, C1, g7, r40⟩
        -- told again
        refine Evl.q_cut (M := fun σ' H' => ∃ (L : Addr) (cls : List (List Int)) (rows : List Rw), σ' = [some (.ref a), some (.ref fe), some (.int (0 + (i : Int))), some b, some (.ref L), y5, y6, y7, y8, y9] ∧ C7 Po fe c (7000 * i + 3100) H' ∧ G7 fe b L css cls rows H') ?_ ?_
        · refine ⟨_, rfl, fe, c, 2, _, rfl, by decide, by decide, C1.fe, by omega, fun d H2 d0 d1 F2 b2 => ?_⟩
          have k2 : Ke (· = fe) H1 H2 := .but C1.fe b2
          have C2 := C1.ke k2 F2
          have g2 := g7.ke k2
          refine ⟨rfl, _, rfl, ite2 (fun e => ?_) (fun e => ⟨L, cls, rows, rfl, C2.mono (by omega), g2⟩)⟩
          refine ⟨_, rfl, _, rfl, fe, c, L, _, css, cls, rows, rfl, C2.fe, by omega, g2.nL, g2.bl.rw, g2.bl.ld, g2.r1, r40, fun p cls' rows' H3 F3 k3 np npf hp ld l1 l80 => ?_⟩
          exact ⟨p, cls', rows', rfl, (C2.ke k3 F3).mono (by omega), ⟨g2.bl.bk.ke k3, hp, ld, g2.bl.ib, by omega⟩, npf, g2.c1, g2.c16, l1⟩
        clear C1 g7 r40 H1 L cls rows
        rintro σ' H1 ⟨L, cls, rows, rfl, C1, g7⟩
        refine Evl.q_cut (M := fun σ' H' => ∃ (b : V) (L : Addr) (css cls : List (List Int)) (rows : List Rw), σ' = [some (.ref a), some (.ref fe), some (.int (0 + (i : Int))), some b, some (.ref L), y5, y6, y7, y8, y9] ∧ C7 Po fe c (7000 * i + 6000) H' ∧ G7 fe b L css cls rows H') ?_ ?_
        · refine ⟨_, rfl, rfl, _, rfl, ite2 (fun e => ?_) (fun e => ⟨b, L, css, cls, rows, rfl, C1.mono (by omega), g7⟩)⟩
          refine Evl.q_cut (M := fun σ' H' => ∃ (b : V) (L : Addr) (css cls : List (List Int)) (rows : List Rw), σ' = [some (.ref a), some (.ref fe), some (.int (0 + (i : Int))), some b, some (.ref L), y5, y6, y7, y8, y9] ∧ C7 Po fe c (7000 * i + 4100) H' ∧ G7 fe b L css cls rows H') ?_ ?_
          · refine ⟨_, rfl, fe, c, _, rfl, C1.fe, by omega, fun t L b css cls rows H2 F2 k2 ht nLf nLc fr bl l1 l2 l3 => ?_⟩
            exact ⟨t, _, rfl, .of ht, rfl, _, _, rfl, _, _, rfl, rfl, b, L, css, cls, rows, rfl, (C1.ke k2 F2).mono (by omega), bl, nLf, by omega, by omega, by omega⟩
          clear C1 g7 H1 b L css cls rows
          rintro σ' H1 ⟨b, L, css, cls, rows, rfl, C1, g7⟩
          refine ⟨_, rfl, fe, c, 2, _, rfl, by decide, by decide, C1.fe, by omega, fun d H2 d0 d1 F2 b2 => ?_⟩
          have k2 : Ke (· = fe) H1 H2 := .but C1.fe b2
          have C2 := C1.ke k2 F2
          have g2 := g7.ke k2
          refine ⟨rfl, _, rfl, ite2 (fun e => ?_) (fun e => ⟨b, L, css, cls, rows, rfl, C2.mono (by omega), g2⟩)⟩
          refine ⟨_, rfl, fe, c, _, rfl, C2.fe, by omega, fun t L b css cls rows H3 F3 k3 ht nLf nLc fr bl l1 l2 l3 => ?_⟩
          exact ⟨t, _, rfl, .of ht, rfl, _, _, rfl, _, _, rfl, rfl, b, L, css, cls, rows, rfl, (C2.ke k3 F3).mono (by omega), bl, nLf, by omega, by omega, by omega⟩
        clear C1 g7 H1 b L css cls rows
        rintro σ' H1 ⟨b, L, css, cls, rows, rfl, C1, g7⟩
        have ib := g7.bl.ib
        have r200 := g7.bl.le
        have r1 := g7.r1
        have shl := shaped_rows rows
        -- due
        refine Evl.q_cut (M := fun σ' H' => ∃ (D : Addr) (rs : List Rw), σ' = [some (.ref a), some (.ref fe), some (.int (0 + (i : Int))), some b, some (.ref L), some (.ref D), y6, y7, y8, y9] ∧ Ke Nof H1 H' ∧ Dx rows cls rs ∧ RwL H' D rs) ?_ ?_
        · exact ⟨_, rfl, _, rfl, b, L, css, cls, rows, rfl, g7.bl, r1, g7.c16, fun rs p H2 dx k2 hp => ⟨p, rs, rfl, k2, dx, hp⟩⟩
        rintro σ' H2 ⟨D, rsd, rfl, k2, dx, hD⟩
        -- handed
        refine Evl.q_cut (M := fun σ' H' => ∃ (Z : Addr), σ' = [some (.ref a), some (.ref fe), some (.int (0 + (i : Int))), some b, some (.ref L), some (.ref D), some (.ref Z), y7, y8, y9] ∧ Ke Nof H1 H' ∧ RwL H' D rsd ∧ BL H' b Z css rows cls) ?_ ?_
        · obtain ⟨rvs, hL, aR⟩ := (g7.bl.ke k2 fun z => z).rw
          refine ⟨_, rfl, L, _, rfl, .inl (.of hL), fun Z H3 nZ s3 hZ _ => ?_⟩
          have k13 : Ke Nof H1 H3 := k2.trans (.same s3)
          exact ⟨Z, rfl, k13, RwL.same hD s3, (g7.bl.bk).ke k13, ⟨rvs, hZ, aR.imp fun _ _ r => r.ke (Ke.same (F := Nof) s3)⟩, g7.bl.ld, ib, r200⟩
        clear hD k2 H2
        rintro σ' H2 ⟨Z, rfl, k2, hD, blZ⟩
        have C2 := C1.no k2
        have g2 := g7.ke k2.all
        clear C1 g7 k2 H1
        -- twice
        refine Evl.q_cut (M := fun σ' H' => ∃ y7 y8 y9 : Option V, σ' = [some (.ref a), some (.ref fe), some (.int (0 + (i : Int))), some b, some (.ref L), some (.ref D), some (.ref Z), y7, y8, y9] ∧ Ke Nof H2 H') ?_ ?_
        · refine ⟨2, rfl, by decide, by decide, for_range (Pv := fun j σ H' => ∃ y7 y8 y9 : Option V, σ = [some (.ref a), some (.ref fe), some (.int (0 + (i : Int))), some b, some (.ref L), some (.ref D), some (.ref Z), y7, y8, y9] ∧ Ke Nof H2 H') ?_ ?_ ?_⟩
          · exact ⟨y7, y8, y9, rfl, .refl _ _⟩
          · clear y7 y8 y9
            rintro j σ H3 hj ⟨y7, y8, y9, rfl, k3⟩
            -- told
            refine Evl.q_cut (M := fun σ' H' => ∃ (Tt : Addr) (cs : List (List Int)), σ' = [some (.ref a), some (.ref fe), some (.int (0 + (i : Int))), some b, some (.ref L), some (.ref D), some (.ref Z), some (.int (0 + (j : Int))), some (.ref Tt), y9] ∧ Ke Nof H2 H' ∧ Frs H2 Tt ∧ RwL H' Tt rsd ∧ On css rows cls rsd cs) ?_ ?_
            · refine ⟨_, rfl, _, rfl, b, Z, css, cls, rows, rfl, blZ.ke k3 fun z => z, by omega, k3.tabs _ C2.to, fun rs cs p H4 on fr k4 hp => ?_⟩
              have e := on.dx.one dx
              subst e
              exact ⟨p, cs, rfl, k3.trans k4, .ke0 k3 fr, hp, on⟩
            clear k3 H3
            rintro σ' H3 ⟨Tt, cs, rfl, k3, frT, hT, on⟩
            have ole := on.le
            have or0 := on.r0
            have oc := on.ld.1
            have lc := g2.bl.ld.1
            have smr : Sm 300000 (.list (rsd.map dat)) := Th.sm ⟨or_rows (lad_b ib on.ld g2.c16 (by omega)), by rw [List.length_map]; omega⟩
            -- right
            refine Evl.q_cut (M := fun σ' H' => σ' = [some (.ref a), some (.ref fe), some (.int (0 + (i : Int))), some b, some (.ref L), some (.ref D), some (.ref Z), some (.int (0 + (j : Int))), some (.ref Tt), y9] ∧ H3 = H') ?_ ?_
            · obtain ⟨tvs, ht, aT⟩ := id hT
              obtain ⟨dvs, hd, aD⟩ := hD.ke k3 fun z => z
              obtain ⟨lvs, hl, aL⟩ := (g2.bl.ke k3 fun z => z).rw
              obtain ⟨zvs, hz, aZ⟩ := (blZ.ke k3 fun z => z).rw
              refine ⟨_, rfl, .ref Tt, .ty "list", .type "list", .type "list", true, rfl, .ty _, .base (.lst ht), kit_ty (by decide +kernel), _, rfl, ?_⟩
              refine ⟨_, rfl, .ref Tt, .list (rsd.map dat), rfl, .lst (.of ht) (dp_rows aT), smr.sh, smr.nd, Nat.le_trans smr.dp (by decide), Nat.le_trans smr.sz (by decide), ?_⟩
              refine ⟨_, rfl, .ref D, .list (rsd.map dat), rfl, .lst (.of hd) (dp_rows aD), smr.sh, smr.nd, Nat.le_trans smr.dp (by decide), Nat.le_trans smr.sz (by decide), ?_⟩
              refine ⟨rfl, _, rfl, ite2 (fun e => absurd e (by simp)) (fun e => ?_)⟩
              refine ⟨_, rfl, _, rfl, .list (rows.map dat), .list (rows.map dat), .lst (.of hz) (dp_rows aZ), .lst (.of hl) (dp_rows aL), shl, shl, _, rfl, ite2 (fun e => ?_) (fun e => ⟨rfl, rfl⟩)⟩
              rw [eqv_self shl] at e
              cases e
            rintro σ' H' ⟨rfl, rfl⟩
            -- claims
            refine Evl.q_cut (M := fun σ' H' => ∃ C : Addr, σ' = [some (.ref a), some (.ref fe), some (.int (0 + (i : Int))), some b, some (.ref L), some (.ref D), some (.ref Z), some (.int (0 + (j : Int))), some (.ref Tt), some (.ref C)] ∧ Ke Nof H3 H' ∧ ClL H' C cs) ?_ ?_
            · refine ⟨_, rfl, _, rfl, b, Tt, css, cs, rsd, rfl, ⟨g2.bl.bk.ke k3, hT, on.ld, ib, by omega⟩, by omega, g2.c16, fun t p H4 k4 np ht hp => ?_⟩
              exact ⟨t, _, 0, .ref p, rfl, rfl, .of ht, rfl, p, rfl, k4, hp⟩
            rintro σ' H4 ⟨C, rfl, k4, hC⟩
            -- each once, and the last
            refine Evl.q_cut (M := fun σ' H' => σ' = [some (.ref a), some (.ref fe), some (.int (0 + (i : Int))), some b, some (.ref L), some (.ref D), some (.ref Z), some (.int (0 + (j : Int))), some (.ref Tt), some (.ref C)] ∧ Ke Nof H3 H') ?_ ?_
            · obtain ⟨cvs, hCv, aC⟩ := id hC
              obtain ⟨ks, e1, e2, al⟩ := keys_of aC
              have lk : ks.length = cs.length := by
                have := congrArg List.length e2
                rw [List.length_map, List.length_map] at this
                exact this
              have hCk := hCv
              rw [e1] at hCk
              obtain ⟨tvs, ht, aT⟩ := hT.ke k4 fun z => z
              have lt := aT.1
              refine ⟨_, rfl, C, ks, rfl, .of hCk, fun p hp => .of (al p hp), by omega, ?_, fun S H5 nS s5 hS5 => ⟨S, _, rfl, hS5, ?_⟩⟩
              · rw [e2]
                exact List.pairwise_map.mpr (List.Pairwise.imp (fun ne e => ne (kT_inj e)) on.nd)
              have k35 : Ke Nof H3 H5 := k4.trans (.same s5)
              have hC5 : ClL H5 C cs := hC.ke (Ke.same (F := Nof) s5) fun z => z
              refine ⟨_, rfl, Tt, _, rfl, .inl (.of (s5 _ _ ht)), _, _, rfl, rfl, _, rfl, ite2 (fun e => ?_) (fun e => ?_)⟩
              · have := of_decide_eq_true e
                omega
              obtain ⟨cvs1, v1, c1, h1, hv1, ec1, tv1⟩ := cl_last hC5 (by omega)
              refine ⟨_, rfl, _, rfl, C, _, _, v1, rfl, rfl, .of h1, at_last hv1, ?_⟩
              refine ⟨_, rfl, _, rfl, b, L, css, cls, rows, rfl, (g2.bl.ke k3 fun z => z).ke k35 (fun z => z), r1, g2.c16, fun t p H6 k6 np ht6 hp => ?_⟩
              obtain ⟨cvs2, v2, c2, h2, hv2, ec2, tv2⟩ := cl_last hp (by omega)
              have la := on.la
              rw [ec1, ec2] at la
              cases la
              obtain ⟨a1, rfl, ha1⟩ := tv1.ke k6
              obtain ⟨a2, rfl, ha2⟩ := tv2
              have sh : SeqAt.shaped (cdat c1) = true := shaped_tuple (by simp [flatD])
              refine ⟨t, _, 0, .ref p, rfl, rfl, .of ht6, rfl, _, rfl, p, _, _, _, rfl, rfl, .of h2, at_last hv2, ?_⟩
              refine ⟨cdat c1, cdat c1, .tup (.of ha1) (dp_ints c1), .tup (.of ha2) (dp_ints c1), sh, sh, _, rfl, ite2 (fun e => ?_) (fun e => ⟨rfl, k35.trans k6⟩)⟩
              rw [eqv_self sh] at e
              cases e
            clear hC k4 H4
            rintro σ' H4 ⟨rfl, k4⟩
            obtain ⟨tvs, ht, aT⟩ := hT.ke k4 fun z => z
            exact ⟨_, rfl, .inl ⟨rfl, _, .of ht⟩, Tt, _, rfl, rfl, ht, _, _, _, rfl, (k3.trans k4).write frT ht⟩
          · rintro σ H3 ⟨y7, y8, y9, rfl, k3⟩
            exact ⟨y7, y8, y9, rfl, k3⟩
        rintro σ' H3 ⟨y7', y8', y9', rfl, k3⟩
        have C3 := C2.no k3
        have g3 := g2.ke k3.all
        clear C2 g2 k3 blZ hD
        -- spoilt three times
        refine ⟨3, rfl, by decide, by decide, for_range (Pv := fun j σ H' => ∃ (y7 : Option V), σ = [some (.ref a), some (.ref fe), some (.int (0 + (i : Int))), some b, some (.ref L), some (.ref D), some (.ref Z), y7, y8', y9'] ∧ C7 Po fe c (7000 * i + 6000 + 10 * j) H' ∧ G7 fe b L css cls rows H') ?_ ?_ ?_⟩
        · exact ⟨y7', rfl, C3, g3⟩
        · clear C3 g3 y7'
          rintro j σ H3 hj ⟨y7, rfl, C3, g3⟩
          have hj : j < 3 := hj
          refine ⟨by show 2 ≤ sizeLine; decide, fun p1 G1 n1 u1 h1 _ => ?_⟩
          refine ⟨by show 1 ≤ sizeLine; decide, fun X G2 nX u2 hX _ => ?_⟩
          have w2 := u1.trans u2
          have C4 := C3.no (.same w2)
          have g4 := g3.ke (.same w2)
          have nXf : X ≠ fe := (C3.fe.same u1).nf nX
          refine ⟨_, rfl, _, rfl, _, rfl, _, rfl, fe, c, b, L, css, cls, rows, _, rfl, C4.fe, by omega, g4.bl, g4.nL, g4.c1, g4.c16, g4.r1, by omega, fun t Tt ds rws cs H4 F4 k4 ht ot th no ah => ?_⟩
          have C5 := C4.ke k4 F4
          have g5 := g4.ke k4
          refine ⟨X, b, t, Tt, css, ds, rws, cs, _, rfl, k4.lst hX nXf, ⟨rfl, fun i x y hx hy => ?_⟩, ht, ⟨g5.bl.bk, g5.bl.ib, ot.un fun b (z : Nof b) => z.elim, th.shaped, no, C5.to⟩, th, ah, fun H5 k5 => ?_⟩
          · match i, hx, hy with
            | 0, hx, hy =>
              cases hx
              cases hy
              exact ⟨p1, rfl, k4.tups _ _ (u2 _ _ h1)⟩
            | n + 1, hx, _ => cases hx
          · exact ⟨_, rfl, _, rfl, (C5.no k5).mono (by omega), g5.ke k5.all⟩
        · rintro σ H3 ⟨y7, rfl, C3, g3⟩
          exact ⟨_, _, _, _, _, _, _, _, rfl, C3.mono (by show 7000 * i + 6000 + 10 * 3 ≤ _; omega)⟩
      · rintro σ H2 _
        trivial
    rintro σ' H2 _
    exact q H2
end
end K12
namespace Eg
open PySem PySem.Spec PyProof.Rows L2 GxR Nw Dr Kp
/-! ### the end of a law that shows lists: defs whose code objects have tables -/
/-- what stands where a def's code object has its table -/
abbrev Own (K : PySem.W.Frag) (h : Heap) (mg : Str → Option Value) (ys : List Str) : Prop := ∀ y ∈ ys, ∀ f, mg y = some (.ref f) → LamX.OwnTab K f h
/-- what is to be known of a law at the heap h -/
def LawG (l : PySem.W.OpenLaw) (w : World) (K : PySem.W.Frag) (k m : Nat) (x : Str) (mg : Str → Option Value) (g : Addr) (h : Heap) : Prop :=
  ∃ (fd : FuncData) (cs : List (Addr × Addr)) (sp : Sp), (∀ p ∈ cs, h.get? p.2 = some (PySem.W.tabObj #[])) ∧ (∀ p ∈ cs, K.lookup p.2 = none) ∧ (∀ p ∈ cs, PySem.W.CodeHd h p.1 p.2) ∧ (∀ (s : Shared) (u : Value), BindsTo s fd ⟨[u], []⟩ [(x, u)]) ∧
    (∀ (H : Hp) (a : Addr) (ns : List Int), ns.length ≤ m → (∀ p ∈ cs, H p.2 = some (.tbl #[])) → SqL K H a (ns.map V.int) → sp [.ref a] H (fun v _ => v = .bl true) fun _ _ _ => False) ∧
    ∀ base : Heap, K.In base → base.Ns mainGlobals mg → (∀ p ∈ cs, LamX.TabB base mg p.1 p.2) → Gd.FnG l.prog w K mg base k g fd [x] sp
theorem walk_own {l : PySem.W.OpenLaw} {m k : Nat} {pr : Program} {ls : List Str} {XP : (Str → Option Value) → Heap → Prop} {YP : World → Heap → Prop} {d : DefRec} {K : Params → PySem.W.Frag} {x : Str} (ys : List Str)
    (e1 : l.most = some m) (e2 : m ≤ sizeLine) (e3 : d.params.defaults = []) (room : Room k callerA) (named : ∀ y ∈ ys, ((recsOf pr).any fun e => e.name == y) = true) (inK : ∀ (w : World) (h : Heap), YP w h → (K w.params).In h)
    (go : ∀ (w : World) (mg : Str → Option Value) (g : Addr) (h : Heap), YP w h → (K w.params).In h → h.Ns mainGlobals mg → mg d.name = some (.ref g) → Own (K w.params) h mg ys → LawG l w (K w.params) k m x mg g h) :
    PySem.W.WalkO pr ls XP YP l.row.toRowW d [] (fun f vs => PySem.call f vs) := by
  refine Att.attach_callB e1 e3 fun w s0 s1 mg mb fa o pm cd doc a us ns G Y ho hd hcd hmg hobj hints hlen hbits hg => ?_
  have inH := inK w _ Y
  have tabs : Own (K w.params) s1.heap mg ys := fun y hy f hf c P ob fd e dd vs sl q1 q2 q3 q4 q5 => by
    obtain ⟨r, hr1, hr2⟩ := List.any_eq_true.mp (named y hy)
    obtain ⟨f', ob', fd', c', P', t1, t2, t3, t4, t5, ⟨⟨oc, vc, u1, _, u3, u4⟩, u5⟩⟩ := G.T.tab r hr1
    rw [show r.name = y from beq_iff_eq.mp hr2, hf] at t1
    cases t1
    rw [inH _ _ q1] at t2
    cases t2
    rw [q2] at t3
    cases t3
    rw [q3] at t4
    cases t4
    rw [inH _ _ q4] at u1
    cases u1
    cases u3
    rw [q5] at u4
    cases u4
    exact u5
  obtain ⟨fd, cs, sp, h1, h2, h3, h4, h5, h6⟩ := go w mg fa _ Y inH G.T.g hmg tabs
  exact Gd.law_at inH G.T.g G.T.b G.T.builtins G.T.nolimit hg h1 h2 h3 G.T.bmain hobj hints (Nat.le_trans hlen e2) room h6 h4 fun H z1 z2 => h5 H a ns hlen z1 z2
end Eg
namespace Cf
open PySem PySem.Spec PyProof.Rows L2
/-! ### classes of the program: isinstance, except -/
theorem cls_s {K : PySem.W.Frag} {C : Addr} (h : PySem.W.isClsIn K C = true) : (PySem.W.clsIn K C).isSome = true := h
theorem kit_cls {K : PySem.W.Frag} {t : Value} {D : Addr} {b : Bool} (h1 : (PySem.W.clsIn K D).isSome = true) (h2 : PySem.W.typeIn K (.ref D) = some (.type "type")) (h : PySem.W.subIn K t (.ref D) = some b) : PySem.W.kitCls K t (.ref D) = some b := by
  have e : ((PySem.W.clsIn K D).isSome && PySem.W.typeIn K (.ref D) == some (.type "type")) = true := by
    rw [h1, h2]
    rfl
  show (if ((PySem.W.clsIn K D).isSome && PySem.W.typeIn K (.ref D) == some (.type "type")) = true then PySem.W.subIn K t (.ref D) else none) = some b
  rw [if_pos e, h]
theorem kit_t {K : PySem.W.Frag} {t : Value} {D : Addr} (h1 : (PySem.W.clsIn K D).isSome = true) (h2 : PySem.W.typeIn K (.ref D) = some (.type "type")) (h : PySem.W.subIn K t (.ref D) = some true) : PySem.W.kitOne K t (.ref D) = some true := by
  unfold PySem.W.kitOne
  split
  · rfl
  · exact kit_cls h1 h2 h
theorem kit_f {K : PySem.W.Frag} {C D : Addr} (h1 : (PySem.W.clsIn K D).isSome = true) (h2 : PySem.W.typeIn K (.ref D) = some (.type "type")) (h : PySem.W.subIn K (.ref C) (.ref D) = some false) (hs : PySem.W.subIn K (.ref C) (.ref C) = some true) : PySem.W.kitOne K (.ref C) (.ref D) = some false := by
  unfold PySem.W.kitOne
  split
  · rename_i e
    have z : C = D := Value.ref.inj (beq_iff_eq.mp e)
    subst z
    rw [h] at hs
    cases hs
  · exact kit_cls h1 h2 h
theorem kit_v {K : PySem.W.Frag} {C : Addr} (h : PySem.W.subIn K (.ref C) (.type "ValueError") = some true) : PySem.W.kitOne K (.ref C) (.type "ValueError") = some true := by
  unfold PySem.W.kitOne
  split
  · rfl
  · show (if PySem.W.kitMeta "ValueError" = true then PySem.W.subIn K (.ref C) (.type "ValueError") else none) = some true
    rw [if_pos (by decide +kernel), h]
theorem exm_t {K : PySem.W.Frag} {t : Value} {D : Addr} (hb : PySem.W.subIn K (.ref D) (.type "BaseException") = some true) (h1 : (PySem.W.clsIn K D).isSome = true) (h2 : PySem.W.typeIn K (.ref D) = some (.type "type")) (h : PySem.W.subIn K t (.ref D) = some true) : PySem.W.exmOne K t (.ref D) = some true := by
  unfold PySem.W.exmOne
  rw [hb, if_pos (by decide)]
  exact kit_cls h1 h2 h
end Cf
namespace K12
open PySem PySem.Spec PyProof.Rows L2 GxR Nw Dr Kp Se Cl Ct Lr Lp Ll Od Wg Wl Wo Wk Ev1 Rf Wn Wf Wp Xb Un Lo Um Wd An Mb Nm Sx Eg
theorem all_mk {l : PySem.W.OpenLaw} {w : World} {K : PySem.W.Frag} {h : Heap} {mg : Str → Option Value} {top : Addr} (X : K.In h) (G : h.Ns mainGlobals mg) (htop : mg "law" = some (.ref top)) (ow : Own K h mg ["has_opposites"]) {fM fD fO fW fT fC fB fx fr ft fS fo fy fc fl fL fq fa fp fz fi fe fj fs fw fm fn fb fR fA fI fV fQ fZ gO oT oG oU cO PO S c0 c1 c2 c3 c4 c5 c6 c7 c8 g1 : Addr}
    {od_fM an_fM : Option Addr} {sl_fM : Array (Option Value)} {oc_fM kV_fM dc_fM pm_fM ct_fM : Value} {cd_fM : Value} {od_fD an_fD : Option Addr} {sl_fD : Array (Option Value)} {oc_fD kV_fD dc_fD pm_fD ct_fD : Value} {cd_fD : Value} {od_fO an_fO : Option Addr} {sl_fO : Array (Option Value)} {oc_fO kV_fO dc_fO pm_fO ct_fO : Value} {cd_fO : Value} {od_fW an_fW : Option Addr} {sl_fW : Array (Option Value)} {oc_fW kV_fW dc_fW pm_fW ct_fW : Value} {cd_fW : Value} {od_fT an_fT : Option Addr} {sl_fT : Array (Option Value)} {oc_fT kV_fT dc_fT pm_fT ct_fT : Value} {cd_fT : Value} {od_fC an_fC : Option Addr} {sl_fC : Array (Option Value)} {oc_fC kV_fC dc_fC pm_fC ct_fC : Value} {cd_fC : Value} {od_fB an_fB : Option Addr} {sl_fB : Array (Option Value)} {oc_fB kV_fB dc_fB pm_fB ct_fB : Value} {cd_fB : Value} {od_fx an_fx : Option Addr} {sl_fx : Array (Option Value)} {oc_fx kV_fx dc_fx pm_fx ct_fx : Value} {cd_fx : Value} {od_fr an_fr : Option Addr} {sl_fr : Array (Option Value)} {oc_fr kV_fr dc_fr pm_fr ct_fr : Value} {cd_fr : Value} {od_ft an_ft : Option Addr} {sl_ft : Array (Option Value)} {oc_ft kV_ft dc_ft pm_ft ct_ft : Value} {cd_ft : Value} {od_fS an_fS : Option Addr} {sl_fS : Array (Option Value)} {oc_fS kV_fS dc_fS pm_fS ct_fS : Value} {cd_fS : Value} {od_fo an_fo : Option Addr} {sl_fo : Array (Option Value)} {oc_fo kV_fo dc_fo pm_fo ct_fo : Value} {cd_fo : Value} {od_fy an_fy : Option Addr} {sl_fy : Array (Option Value)} {oc_fy kV_fy dc_fy pm_fy ct_fy : Value} {cd_fy : Value} {od_fc an_fc : Option Addr} {sl_fc : Array (Option Value)} {oc_fc kV_fc dc_fc pm_fc ct_fc : Value} {cd_fc : Value} {od_fl an_fl : Option Addr} {sl_fl : Array (Option Value)} {oc_fl kV_fl dc_fl pm_fl ct_fl : Value} {cd_fl : Value} {od_fL an_fL : Option Addr} {sl_fL : Array (Option Value)} {oc_fL kV_fL dc_fL pm_fL ct_fL : Value} {cd_fL : Value} {od_fq an_fq : Option Addr} {sl_fq : Array (Option Value)} {oc_fq kV_fq dc_fq pm_fq ct_fq : Value} {cd_fq : Value} {od_fa an_fa : Option Addr} {sl_fa : Array (Option Value)} {oc_fa kV_fa dc_fa pm_fa ct_fa : Value} {cd_fa : Value} {od_fp an_fp : Option Addr} {sl_fp : Array (Option Value)} {oc_fp kV_fp dc_fp pm_fp ct_fp : Value} {cd_fp : Value} {od_fz an_fz : Option Addr} {sl_fz : Array (Option Value)} {oc_fz kV_fz dc_fz pm_fz ct_fz : Value} {cd_fz : Value} {od_fi an_fi : Option Addr} {sl_fi : Array (Option Value)} {oc_fi kV_fi dc_fi pm_fi ct_fi : Value} {cd_fi : Value} {od_fe an_fe : Option Addr} {sl_fe : Array (Option Value)} {oc_fe kV_fe dc_fe pm_fe ct_fe : Value} {cd_fe : Value} {od_fj an_fj : Option Addr} {sl_fj : Array (Option Value)} {oc_fj kV_fj dc_fj pm_fj ct_fj : Value} {cd_fj : Value} {od_fs an_fs : Option Addr} {sl_fs : Array (Option Value)} {oc_fs kV_fs dc_fs pm_fs ct_fs : Value} {cd_fs : Value} {od_fw an_fw : Option Addr} {sl_fw : Array (Option Value)} {oc_fw kV_fw dc_fw pm_fw ct_fw : Value} {cd_fw : Value} {od_fm an_fm : Option Addr} {sl_fm : Array (Option Value)} {oc_fm kV_fm dc_fm pm_fm ct_fm : Value} {cd_fm : Value} {od_fn an_fn : Option Addr} {sl_fn : Array (Option Value)} {oc_fn kV_fn dc_fn pm_fn ct_fn : Value} {cd_fn : Value} {od_fb an_fb : Option Addr} {sl_fb : Array (Option Value)} {oc_fb kV_fb dc_fb pm_fb ct_fb : Value} {cd_fb : Value} {od_fR an_fR : Option Addr} {sl_fR : Array (Option Value)} {oc_fR kV_fR dc_fR pm_fR ct_fR : Value} {cd_fR : Value} {od_fA an_fA : Option Addr} {sl_fA : Array (Option Value)} {oc_fA kV_fA dc_fA pm_fA ct_fA : Value} {cd_fA : Value} {od_fI an_fI : Option Addr} {sl_fI : Array (Option Value)} {oc_fI kV_fI dc_fI pm_fI ct_fI : Value} {cd_fI : Value} {od_fV an_fV : Option Addr} {sl_fV : Array (Option Value)} {oc_fV kV_fV dc_fV pm_fV ct_fV : Value} {cd_fV : Value} {od_fQ an_fQ : Option Addr} {sl_fQ : Array (Option Value)} {oc_fQ kV_fQ dc_fQ pm_fQ ct_fQ : Value} {cd_fQ : Value} {od_fZ an_fZ : Option Addr} {sl_fZ : Array (Option Value)} {oc_fZ kV_fZ dc_fZ pm_fZ ct_fZ : Value} {cd_fZ : Value} {od_gO an_gO : Option Addr} {sl_gO : Array (Option Value)} {oc_gO kV_gO dc_gO pm_gO ct_gO : Value} {od_oT an_oT : Option Addr} {sl_oT : Array (Option Value)} {oc_oT kV_oT dc_oT pm_oT ct_oT : Value} {cd_oT : Value} {od_oG an_oG : Option Addr} {sl_oG : Array (Option Value)} {oc_oG kV_oG dc_oG pm_oG ct_oG : Value} {cd_oG : Value} {od_oU an_oU : Option Addr} {sl_oU : Array (Option Value)} {oc_oU kV_oU dc_oU pm_oU ct_oU : Value} {cd_oU : Value} {e_O : Value} {dd_O : Option Addr} {vs_O : Array Value} {sf_O : Array (Option Value)} {tk_MOST_THINGS : Tok} {tk_MOST_ROWS : Tok} {nm1 q1 : Str} {N1 : Addr} {bs1 bm1 : List Value} {sn1 : List Str} {sub1 : List Value} {ab1 : Bool} {col1 : Option Bool} {dd1 : Option Addr} {m01 m11 m21 m31 m51 : Option Value} {od_g1 an_g1 : Option Addr} {sl_g1 : Array (Option Value)} {oc_g1 kV_g1 dc_g1 pm_g1 cd_g1 ct_g1 : Value}
    (b_fM : PySem.W.nsIn K mainGlobals "_law_smixed" = some (some (.ref fM)))
    (l_fM : K.lookup fM = some ⟨oc_fM, od_fM, .func (PySem.W.fnOf "_law_smixed" "_law_smixed" (defArgs sMix) (defBody sMix) (defScope sMix) .none kV_fM dc_fM pm_fM an_fM cd_fM ct_fM), sl_fM⟩)
    (c_fM : PySem.W.codeIn K cd_fM "_law_smixed" = true)
    (k_fM : PySem.W.keepIn K (.ref fM) = true)
    (b_fD : PySem.W.nsIn K mainGlobals "_law_sdraw" = some (some (.ref fD)))
    (l_fD : K.lookup fD = some ⟨oc_fD, od_fD, .func (PySem.W.fnOf "_law_sdraw" "_law_sdraw" (defArgs sDrw) (defBody sDrw) (defScope sDrw) .none kV_fD dc_fD pm_fD an_fD cd_fD ct_fD), sl_fD⟩)
    (c_fD : PySem.W.codeIn K cd_fD "_law_sdraw" = true)
    (k_fD : PySem.W.keepIn K (.ref fD) = true)
    (b_fO : PySem.W.nsIn K mainGlobals "_law_sopen" = some (some (.ref fO)))
    (l_fO : K.lookup fO = some ⟨oc_fO, od_fO, .func (PySem.W.fnOf "_law_sopen" "_law_sopen" (defArgs sOpn) (defBody sOpn) (defScope sOpn) .none kV_fO dc_fO pm_fO an_fO cd_fO ct_fO), sl_fO⟩)
    (c_fO : PySem.W.codeIn K cd_fO "_law_sopen" = true)
    (k_fO : PySem.W.keepIn K (.ref fO) = true)
    (b_fW : PySem.W.nsIn K mainGlobals "_law_swhole" = some (some (.ref fW)))
    (l_fW : K.lookup fW = some ⟨oc_fW, od_fW, .func (PySem.W.fnOf "_law_swhole" "_law_swhole" (defArgs sSwh) (defBody sSwh) (defScope sSwh) .none kV_fW dc_fW pm_fW an_fW cd_fW ct_fW), sl_fW⟩)
    (c_fW : PySem.W.codeIn K cd_fW "_law_swhole" = true)
    (k_fW : PySem.W.keepIn K (.ref fW) = true)
    (b_fT : PySem.W.nsIn K mainGlobals "_law_sthings" = some (some (.ref fT)))
    (l_fT : K.lookup fT = some ⟨oc_fT, od_fT, .func (PySem.W.fnOf "_law_sthings" "_law_sthings" (defArgs sThg) (defBody sThg) (defScope sThg) .none kV_fT dc_fT pm_fT an_fT cd_fT ct_fT), sl_fT⟩)
    (c_fT : PySem.W.codeIn K cd_fT "_law_sthings" = true)
    (k_fT : PySem.W.keepIn K (.ref fT) = true)
    (b_fC : PySem.W.nsIn K mainGlobals "_law_sclaim" = some (some (.ref fC)))
    (l_fC : K.lookup fC = some ⟨oc_fC, od_fC, .func (PySem.W.fnOf "_law_sclaim" "_law_sclaim" (defArgs sClm) (defBody sClm) (defScope sClm) .none kV_fC dc_fC pm_fC an_fC cd_fC ct_fC), sl_fC⟩)
    (c_fC : PySem.W.codeIn K cd_fC "_law_sclaim" = true)
    (k_fC : PySem.W.keepIn K (.ref fC) = true)
    (b_fB : PySem.W.nsIn K mainGlobals "_law_sbook" = some (some (.ref fB)))
    (l_fB : K.lookup fB = some ⟨oc_fB, od_fB, .func (PySem.W.fnOf "_law_sbook" "_law_sbook" (defArgs sBok) (defBody sBok) (defScope sBok) .none kV_fB dc_fB pm_fB an_fB cd_fB ct_fB), sl_fB⟩)
    (c_fB : PySem.W.codeIn K cd_fB "_law_sbook" = true)
    (k_fB : PySem.W.keepIn K (.ref fB) = true)
    (b_fx : PySem.W.nsIn K mainGlobals "_law_scut" = some (some (.ref fx)))
    (l_fx : K.lookup fx = some ⟨oc_fx, od_fx, .func (PySem.W.fnOf "_law_scut" "_law_scut" (defArgs sSct) (defBody sSct) (defScope sSct) .none kV_fx dc_fx pm_fx an_fx cd_fx ct_fx), sl_fx⟩)
    (c_fx : PySem.W.codeIn K cd_fx "_law_scut" = true)
    (k_fx : PySem.W.keepIn K (.ref fx) = true)
    (b_fr : PySem.W.nsIn K mainGlobals "_law_srow" = some (some (.ref fr)))
    (l_fr : K.lookup fr = some ⟨oc_fr, od_fr, .func (PySem.W.fnOf "_law_srow" "_law_srow" (defArgs sSrw) (defBody sSrw) (defScope sSrw) .none kV_fr dc_fr pm_fr an_fr cd_fr ct_fr), sl_fr⟩)
    (c_fr : PySem.W.codeIn K cd_fr "_law_srow" = true)
    (k_fr : PySem.W.keepIn K (.ref fr) = true)
    (b_ft : PySem.W.nsIn K mainGlobals "_law_stold" = some (some (.ref ft)))
    (l_ft : K.lookup ft = some ⟨oc_ft, od_ft, .func (PySem.W.fnOf "_law_stold" "_law_stold" (defArgs sSto) (defBody sSto) (defScope sSto) .none kV_ft dc_ft pm_ft an_ft cd_ft ct_ft), sl_ft⟩)
    (c_ft : PySem.W.codeIn K cd_ft "_law_stold" = true)
    (k_ft : PySem.W.keepIn K (.ref ft) = true)
    (b_fS : PySem.W.nsIn K mainGlobals "_law_scase" = some (some (.ref fS)))
    (l_fS : K.lookup fS = some ⟨oc_fS, od_fS, .func (PySem.W.fnOf "_law_scase" "_law_scase" (defArgs sSca) (defBody sSca) (defScope sSca) .none kV_fS dc_fS pm_fS an_fS cd_fS ct_fS), sl_fS⟩)
    (c_fS : PySem.W.codeIn K cd_fS "_law_scase" = true)
    (k_fS : PySem.W.keepIn K (.ref fS) = true)
    (b_fo : PySem.W.nsIn K mainGlobals "_law_sodd_rows" = some (some (.ref fo)))
    (l_fo : K.lookup fo = some ⟨oc_fo, od_fo, .func (PySem.W.fnOf "_law_sodd_rows" "_law_sodd_rows" (defArgs sSor) (defBody sSor) (defScope sSor) .none kV_fo dc_fo pm_fo an_fo cd_fo ct_fo), sl_fo⟩)
    (c_fo : PySem.W.codeIn K cd_fo "_law_sodd_rows" = true)
    (k_fo : PySem.W.keepIn K (.ref fo) = true)
    (b_fy : PySem.W.nsIn K mainGlobals "_law_sways" = some (some (.ref fy)))
    (l_fy : K.lookup fy = some ⟨oc_fy, od_fy, .func (PySem.W.fnOf "_law_sways" "_law_sways" (defArgs sSwy) (defBody sSwy) (defScope sSwy) .none kV_fy dc_fy pm_fy an_fy cd_fy ct_fy), sl_fy⟩)
    (c_fy : PySem.W.codeIn K cd_fy "_law_sways" = true)
    (k_fy : PySem.W.keepIn K (.ref fy) = true)
    (b_fc : PySem.W.nsIn K mainGlobals "_law_sodd_cuts" = some (some (.ref fc)))
    (l_fc : K.lookup fc = some ⟨oc_fc, od_fc, .func (PySem.W.fnOf "_law_sodd_cuts" "_law_sodd_cuts" (defArgs sSoc) (defBody sSoc) (defScope sSoc) .none kV_fc dc_fc pm_fc an_fc cd_fc ct_fc), sl_fc⟩)
    (c_fc : PySem.W.codeIn K cd_fc "_law_sodd_cuts" = true)
    (k_fc : PySem.W.keepIn K (.ref fc) = true)
    (b_fl : PySem.W.nsIn K mainGlobals "_law_sladder" = some (some (.ref fl)))
    (l_fl : K.lookup fl = some ⟨oc_fl, od_fl, .func (PySem.W.fnOf "_law_sladder" "_law_sladder" (defArgs sSld) (defBody sSld) (defScope sSld) .none kV_fl dc_fl pm_fl an_fl cd_fl ct_fl), sl_fl⟩)
    (c_fl : PySem.W.codeIn K cd_fl "_law_sladder" = true)
    (k_fl : PySem.W.keepIn K (.ref fl) = true)
    (b_fL : PySem.W.nsIn K mainGlobals "law" = some (some (.ref fL)))
    (l_fL : K.lookup fL = some ⟨oc_fL, od_fL, .func (PySem.W.fnOf "law" "law" (defArgs sLaw) (defBody sLaw) (defScope sLaw) .none kV_fL dc_fL pm_fL an_fL cd_fL ct_fL), sl_fL⟩)
    (c_fL : PySem.W.codeIn K cd_fL "law" = true)
    (k_fL : PySem.W.keepIn K (.ref fL) = true)
    (b_fq : PySem.W.nsIn K mainGlobals "_law_srefused" = some (some (.ref fq)))
    (l_fq : K.lookup fq = some ⟨oc_fq, od_fq, .func (PySem.W.fnOf "_law_srefused" "_law_srefused" (defArgs sRef) (defBody sRef) (defScope sRef) .none kV_fq dc_fq pm_fq an_fq cd_fq ct_fq), sl_fq⟩)
    (c_fq : PySem.W.codeIn K cd_fq "_law_srefused" = true)
    (k_fq : PySem.W.keepIn K (.ref fq) = true)
    (b_fa : PySem.W.nsIn K mainGlobals "_law_sladder_at" = some (some (.ref fa)))
    (l_fa : K.lookup fa = some ⟨oc_fa, od_fa, .func (PySem.W.fnOf "_law_sladder_at" "_law_sladder_at" (defArgs sLat) (defBody sLat) (defScope sLat) .none kV_fa dc_fa pm_fa an_fa cd_fa ct_fa), sl_fa⟩)
    (c_fa : PySem.W.codeIn K cd_fa "_law_sladder_at" = true)
    (k_fa : PySem.W.keepIn K (.ref fa) = true)
    (b_fp : PySem.W.nsIn K mainGlobals "_law_sspoilt" = some (some (.ref fp)))
    (l_fp : K.lookup fp = some ⟨oc_fp, od_fp, .func (PySem.W.fnOf "_law_sspoilt" "_law_sspoilt" (defArgs sSsp) (defBody sSsp) (defScope sSsp) .none kV_fp dc_fp pm_fp an_fp cd_fp ct_fp), sl_fp⟩)
    (c_fp : PySem.W.codeIn K cd_fp "_law_sspoilt" = true)
    (k_fp : PySem.W.keepIn K (.ref fp) = true)
    (b_fz : PySem.W.nsIn K mainGlobals "_law_sno_ladder" = some (some (.ref fz)))
    (l_fz : K.lookup fz = some ⟨oc_fz, od_fz, .func (PySem.W.fnOf "_law_sno_ladder" "_law_sno_ladder" (defArgs sSno) (defBody sSno) (defScope sSno) .none kV_fz dc_fz pm_fz an_fz cd_fz ct_fz), sl_fz⟩)
    (c_fz : PySem.W.codeIn K cd_fz "_law_sno_ladder" = true)
    (k_fz : PySem.W.keepIn K (.ref fz) = true)
    (b_fi : PySem.W.nsIn K mainGlobals "_law_swide" = some (some (.ref fi)))
    (l_fi : K.lookup fi = some ⟨oc_fi, od_fi, .func (PySem.W.fnOf "_law_swide" "_law_swide" (defArgs sSwd) (defBody sSwd) (defScope sSwd) .none kV_fi dc_fi pm_fi an_fi cd_fi ct_fi), sl_fi⟩)
    (c_fi : PySem.W.codeIn K cd_fi "_law_swide" = true)
    (k_fi : PySem.W.keepIn K (.ref fi) = true)
    (b_fe : PySem.W.nsIn K mainGlobals "_law_scut_by" = some (some (.ref fe)))
    (l_fe : K.lookup fe = some ⟨oc_fe, od_fe, .func (PySem.W.fnOf "_law_scut_by" "_law_scut_by" (defArgs sScb) (defBody sScb) (defScope sScb) .none kV_fe dc_fe pm_fe an_fe cd_fe ct_fe), sl_fe⟩)
    (c_fe : PySem.W.codeIn K cd_fe "_law_scut_by" = true)
    (k_fe : PySem.W.keepIn K (.ref fe) = true)
    (b_fj : PySem.W.nsIn K mainGlobals "_law_slong" = some (some (.ref fj)))
    (l_fj : K.lookup fj = some ⟨oc_fj, od_fj, .func (PySem.W.fnOf "_law_slong" "_law_slong" (defArgs sSlo) (defBody sSlo) (defScope sSlo) .none kV_fj dc_fj pm_fj an_fj cd_fj ct_fj), sl_fj⟩)
    (c_fj : PySem.W.codeIn K cd_fj "_law_slong" = true)
    (k_fj : PySem.W.keepIn K (.ref fj) = true)
    (b_fs : PySem.W.nsIn K mainGlobals "_law_ssixty" = some (some (.ref fs)))
    (l_fs : K.lookup fs = some ⟨oc_fs, od_fs, .func (PySem.W.fnOf "_law_ssixty" "_law_ssixty" (defArgs sSix) (defBody sSix) (defScope sSix) .none kV_fs dc_fs pm_fs an_fs cd_fs ct_fs), sl_fs⟩)
    (c_fs : PySem.W.codeIn K cd_fs "_law_ssixty" = true)
    (k_fs : PySem.W.keepIn K (.ref fs) = true)
    (b_fw : PySem.W.nsIn K mainGlobals "is_whole" = some (some (.ref fw)))
    (l_fw : K.lookup fw = some ⟨oc_fw, od_fw, .func (PySem.W.fnOf "is_whole" "is_whole" (defArgs sWho) (defBody sWho) (defScope sWho) .none kV_fw dc_fw pm_fw an_fw cd_fw ct_fw), sl_fw⟩)
    (c_fw : PySem.W.codeIn K cd_fw "is_whole" = true)
    (k_fw : PySem.W.keepIn K (.ref fw) = true)
    (b_fm : PySem.W.nsIn K mainGlobals "can_meet" = some (some (.ref fm)))
    (l_fm : K.lookup fm = some ⟨oc_fm, od_fm, .func (PySem.W.fnOf "can_meet" "can_meet" (defArgs sCme) (defBody sCme) (defScope sCme) .none kV_fm dc_fm pm_fm an_fm cd_fm ct_fm), sl_fm⟩)
    (c_fm : PySem.W.codeIn K cd_fm "can_meet" = true)
    (k_fm : PySem.W.keepIn K (.ref fm) = true)
    (b_fn : PySem.W.nsIn K mainGlobals "cut_or_none" = some (some (.ref fn)))
    (l_fn : K.lookup fn = some ⟨oc_fn, od_fn, .func (PySem.W.fnOf "cut_or_none" "cut_or_none" (defArgs sCon) (defBody sCon) (defScope sCon) .none kV_fn dc_fn pm_fn an_fn cd_fn ct_fn), sl_fn⟩)
    (c_fn : PySem.W.codeIn K cd_fn "cut_or_none" = true)
    (k_fn : PySem.W.keepIn K (.ref fn) = true)
    (b_fb : PySem.W.nsIn K mainGlobals "is_number_of" = some (some (.ref fb)))
    (l_fb : K.lookup fb = some ⟨oc_fb, od_fb, .func (PySem.W.fnOf "is_number_of" "is_number_of" (defArgs sNum) (defBody sNum) (defScope sNum) .none kV_fb dc_fb pm_fb an_fb cd_fb ct_fb), sl_fb⟩)
    (c_fb : PySem.W.codeIn K cd_fb "is_number_of" = true)
    (k_fb : PySem.W.keepIn K (.ref fb) = true)
    (b_fR : PySem.W.nsIn K mainGlobals "claim_of_row" = some (some (.ref fR)))
    (l_fR : K.lookup fR = some ⟨oc_fR, od_fR, .func (PySem.W.fnOf "claim_of_row" "claim_of_row" (defArgs sRow) (defBody sRow) (defScope sRow) .none kV_fR dc_fR pm_fR an_fR cd_fR ct_fR), sl_fR⟩)
    (c_fR : PySem.W.codeIn K cd_fR "claim_of_row" = true)
    (k_fR : PySem.W.keepIn K (.ref fR) = true)
    (b_fA : PySem.W.nsIn K mainGlobals "claims_ahead_of_fault" = some (some (.ref fA)))
    (l_fA : K.lookup fA = some ⟨oc_fA, od_fA, .func (PySem.W.fnOf "claims_ahead_of_fault" "claims_ahead_of_fault" (defArgs sAhe) (defBody sAhe) (defScope sAhe) .none kV_fA dc_fA pm_fA an_fA cd_fA ct_fA), sl_fA⟩)
    (c_fA : PySem.W.codeIn K cd_fA "claims_ahead_of_fault" = true)
    (k_fA : PySem.W.keepIn K (.ref fA) = true)
    (b_fI : PySem.W.nsIn K mainGlobals "claims_of" = some (some (.ref fI)))
    (l_fI : K.lookup fI = some ⟨oc_fI, od_fI, .func (PySem.W.fnOf "claims_of" "claims_of" (defArgs sClo) (defBody sClo) (defScope sClo) .none kV_fI dc_fI pm_fI an_fI cd_fI ct_fI), sl_fI⟩)
    (c_fI : PySem.W.codeIn K cd_fI "claims_of" = true)
    (k_fI : PySem.W.keepIn K (.ref fI) = true)
    (b_fV : PySem.W.nsIn K mainGlobals "rows_under" = some (some (.ref fV)))
    (l_fV : K.lookup fV = some ⟨oc_fV, od_fV, .func (PySem.W.fnOf "rows_under" "rows_under" (defArgs sRun) (defBody sRun) (defScope sRun) .none kV_fV dc_fV pm_fV an_fV cd_fV ct_fV), sl_fV⟩)
    (c_fV : PySem.W.codeIn K cd_fV "rows_under" = true)
    (k_fV : PySem.W.keepIn K (.ref fV) = true)
    (b_fQ : PySem.W.nsIn K mainGlobals "moved_row" = some (some (.ref fQ)))
    (l_fQ : K.lookup fQ = some ⟨oc_fQ, od_fQ, .func (PySem.W.fnOf "moved_row" "moved_row" (defArgs sMov) (defBody sMov) (defScope sMov) .none kV_fQ dc_fQ pm_fQ an_fQ cd_fQ ct_fQ), sl_fQ⟩)
    (c_fQ : PySem.W.codeIn K cd_fQ "moved_row" = true)
    (k_fQ : PySem.W.keepIn K (.ref fQ) = true)
    (b_fZ : PySem.W.nsIn K mainGlobals "trimmed_to" = some (some (.ref fZ)))
    (l_fZ : K.lookup fZ = some ⟨oc_fZ, od_fZ, .func (PySem.W.fnOf "trimmed_to" "trimmed_to" (defArgs sTrt) (defBody sTrt) (defScope sTrt) .none kV_fZ dc_fZ pm_fZ an_fZ cd_fZ ct_fZ), sl_fZ⟩)
    (c_fZ : PySem.W.codeIn K cd_fZ "trimmed_to" = true)
    (k_fZ : PySem.W.keepIn K (.ref fZ) = true)
    (b_gO : PySem.W.nsIn K mainGlobals "has_opposites" = some (some (.ref gO)))
    (l_gO : K.lookup gO = some ⟨oc_gO, od_gO, .func (PySem.W.fnOf "has_opposites" "has_opposites" (defArgs sHop) (defBody sHop) (defScope sHop) .none kV_gO dc_gO pm_gO an_gO (.ref cO) ct_gO), sl_gO⟩)
    (c_gO : PySem.W.codeIn K (.ref cO) "has_opposites" = true)
    (k_gO : PySem.W.keepIn K (.ref gO) = true)
    (b_oT : PySem.W.nsIn K mainGlobals "told_once" = some (some (.ref oT)))
    (l_oT : K.lookup oT = some ⟨oc_oT, od_oT, .func (PySem.W.fnOf "told_once" "told_once" (defArgs _root_.To.sTon) (defBody _root_.To.sTon) (defScope _root_.To.sTon) .none kV_oT dc_oT pm_oT an_oT cd_oT ct_oT), sl_oT⟩)
    (c_oT : PySem.W.codeIn K cd_oT "told_once" = true)
    (k_oT : PySem.W.keepIn K (.ref oT) = true)
    (b_oG : PySem.W.nsIn K mainGlobals "_law_s_again" = some (some (.ref oG)))
    (l_oG : K.lookup oG = some ⟨oc_oG, od_oG, .func (PySem.W.fnOf "_law_s_again" "_law_s_again" (defArgs Ag.sAgn) (defBody Ag.sAgn) (defScope Ag.sAgn) .none kV_oG dc_oG pm_oG an_oG cd_oG ct_oG), sl_oG⟩)
    (c_oG : PySem.W.codeIn K cd_oG "_law_s_again" = true)
    (k_oG : PySem.W.keepIn K (.ref oG) = true)
    (b_oU : PySem.W.nsIn K mainGlobals "_law_s_due" = some (some (.ref oU)))
    (l_oU : K.lookup oU = some ⟨oc_oU, od_oU, .func (PySem.W.fnOf "_law_s_due" "_law_s_due" (defArgs Du.sDue) (defBody Du.sDue) (defScope Du.sDue) .none kV_oU dc_oU pm_oU an_oU cd_oU ct_oU), sl_oU⟩)
    (c_oU : PySem.W.codeIn K cd_oU "_law_s_due" = true)
    (k_oU : PySem.W.keepIn K (.ref oU) = true)
    (lc_O : K.lookup cO = some ⟨e_O, dd_O, .fields vs_O, sf_O⟩)
    (v_O : vs_O[11]? = some (Value.ref PO))
    (hd_O : PySem.W.codeHdIn K cO PO = true)
    (np_O : K.lookup PO = none)
    (b_MOST_THINGS : PySem.W.nsIn K mainGlobals "MOST_THINGS" = some (some (.int 8 tk_MOST_THINGS)))
    (b_MOST_ROWS : PySem.W.nsIn K mainGlobals "MOST_ROWS" = some (some (.int 200 tk_MOST_ROWS)))
    (z_zip : PySem.W.nsIn K mainGlobals "zip" = some none)
    (z_range : PySem.W.nsIn K mainGlobals "range" = some none)
    (z_isinstance : PySem.W.nsIn K mainGlobals "isinstance" = some none)
    (z_len : PySem.W.nsIn K mainGlobals "len" = some none)
    (z_list : PySem.W.nsIn K mainGlobals "list" = some none)
    (z_min : PySem.W.nsIn K mainGlobals "min" = some none)
    (z_max : PySem.W.nsIn K mainGlobals "max" = some none)
    (z_tuple : PySem.W.nsIn K mainGlobals "tuple" = some none)
    (z_sorted : PySem.W.nsIn K mainGlobals "sorted" = some none)
    (z_all : PySem.W.nsIn K mainGlobals "all" = some none)
    (z_any : PySem.W.nsIn K mainGlobals "any" = some none)
    (z_bool : PySem.W.nsIn K mainGlobals "bool" = some none)
    (z_int : PySem.W.nsIn K mainGlobals "int" = some none)
    (z_repr : PySem.W.nsIn K mainGlobals "repr" = some none)
    (z_abs : PySem.W.nsIn K mainGlobals "abs" = some none)
    (z_set : PySem.W.nsIn K mainGlobals "set" = some none)
    (z_enumerate : PySem.W.nsIn K mainGlobals "enumerate" = some none)
    (z_str : PySem.W.nsIn K mainGlobals "str" = some none)
    (z_ValueError : PySem.W.nsIn K mainGlobals "ValueError" = some none)
    (z_reversed : PySem.W.nsIn K mainGlobals "reversed" = some none)
    (aS : PySem.W.nsIn K mainGlobals "SpareError" = some (some (.ref S)))
    (bS : PySem.W.subIn K (.ref S) (.type "BaseException") = some true)
    (hn : PySem.W.specialIn K (.builtin "object.__class__") "__get__" = some (some (.builtin "getset_descriptor.__get__")))
    (ht : PySem.W.takesIn K (.builtin "object.__class__") = some true)
    (lS : PySem.W.isClsIn K S = true)
    (tS : PySem.W.typeIn K (.ref S) = some (.type "type"))
    (a0 : PySem.W.nsIn K mainGlobals "NoCut" = some (some (.ref c0)))
    (hg0 : PySem.W.findIn K (.ref c0) "__getattribute__" = some (some (.builtin "BaseException.__getattribute__")))
    (hk0 : PySem.W.findIn K (.ref c0) "__getattr__" = some none)
    (hs0 : PySem.W.subIn K (.ref c0) (.type "BaseException") = some true)
    (hd0 : PySem.W.hasDictIn K c0 = true)
    (ha0 : PySem.W.findIn K (.ref c0) "__class__" = some (some (.builtin "object.__class__")))
    (hm0 : PySem.W.mroIn K c0 (.type "object") = some true)
    (lc0 : PySem.W.isClsIn K c0 = true)
    (ty0 : PySem.W.typeIn K (.ref c0) = some (.type "type"))
    (ss0 : PySem.W.subIn K (.ref c0) (.ref S) = some true)
    (sv0 : PySem.W.subIn K (.ref c0) (.type "ValueError") = some true)
    (a1 : PySem.W.nsIn K mainGlobals "NoLadder" = some (some (.ref c1)))
    (hg1 : PySem.W.findIn K (.ref c1) "__getattribute__" = some (some (.builtin "BaseException.__getattribute__")))
    (hk1 : PySem.W.findIn K (.ref c1) "__getattr__" = some none)
    (hs1 : PySem.W.subIn K (.ref c1) (.type "BaseException") = some true)
    (hd1 : PySem.W.hasDictIn K c1 = true)
    (ha1 : PySem.W.findIn K (.ref c1) "__class__" = some (some (.builtin "object.__class__")))
    (hm1 : PySem.W.mroIn K c1 (.type "object") = some true)
    (lc1 : PySem.W.isClsIn K c1 = true)
    (ty1 : PySem.W.typeIn K (.ref c1) = some (.type "type"))
    (ss1 : PySem.W.subIn K (.ref c1) (.ref S) = some true)
    (sv1 : PySem.W.subIn K (.ref c1) (.type "ValueError") = some true)
    (a2 : PySem.W.nsIn K mainGlobals "NoInstead" = some (some (.ref c2)))
    (hg2 : PySem.W.findIn K (.ref c2) "__getattribute__" = some (some (.builtin "BaseException.__getattribute__")))
    (hk2 : PySem.W.findIn K (.ref c2) "__getattr__" = some none)
    (hs2 : PySem.W.subIn K (.ref c2) (.type "BaseException") = some true)
    (hd2 : PySem.W.hasDictIn K c2 = true)
    (ha2 : PySem.W.findIn K (.ref c2) "__class__" = some (some (.builtin "object.__class__")))
    (hm2 : PySem.W.mroIn K c2 (.type "object") = some true)
    (lc2 : PySem.W.isClsIn K c2 = true)
    (ty2 : PySem.W.typeIn K (.ref c2) = some (.type "type"))
    (ss2 : PySem.W.subIn K (.ref c2) (.ref S) = some true)
    (sv2 : PySem.W.subIn K (.ref c2) (.type "ValueError") = some true)
    (a3 : PySem.W.nsIn K mainGlobals "TooGreat" = some (some (.ref c3)))
    (hg3 : PySem.W.findIn K (.ref c3) "__getattribute__" = some (some (.builtin "BaseException.__getattribute__")))
    (hk3 : PySem.W.findIn K (.ref c3) "__getattr__" = some none)
    (hs3 : PySem.W.subIn K (.ref c3) (.type "BaseException") = some true)
    (hd3 : PySem.W.hasDictIn K c3 = true)
    (ha3 : PySem.W.findIn K (.ref c3) "__class__" = some (some (.builtin "object.__class__")))
    (hm3 : PySem.W.mroIn K c3 (.type "object") = some true)
    (lc3 : PySem.W.isClsIn K c3 = true)
    (ty3 : PySem.W.typeIn K (.ref c3) = some (.type "type"))
    (ss3 : PySem.W.subIn K (.ref c3) (.ref S) = some true)
    (sv3 : PySem.W.subIn K (.ref c3) (.type "ValueError") = some true)
    (a4 : PySem.W.nsIn K mainGlobals "TooMany" = some (some (.ref c4)))
    (hg4 : PySem.W.findIn K (.ref c4) "__getattribute__" = some (some (.builtin "BaseException.__getattribute__")))
    (hk4 : PySem.W.findIn K (.ref c4) "__getattr__" = some none)
    (hs4 : PySem.W.subIn K (.ref c4) (.type "BaseException") = some true)
    (hd4 : PySem.W.hasDictIn K c4 = true)
    (ha4 : PySem.W.findIn K (.ref c4) "__class__" = some (some (.builtin "object.__class__")))
    (hm4 : PySem.W.mroIn K c4 (.type "object") = some true)
    (lc4 : PySem.W.isClsIn K c4 = true)
    (ty4 : PySem.W.typeIn K (.ref c4) = some (.type "type"))
    (ss4 : PySem.W.subIn K (.ref c4) (.ref S) = some true)
    (sv4 : PySem.W.subIn K (.ref c4) (.type "ValueError") = some true)
    (a5 : PySem.W.nsIn K mainGlobals "NoTelling" = some (some (.ref c5)))
    (hg5 : PySem.W.findIn K (.ref c5) "__getattribute__" = some (some (.builtin "BaseException.__getattribute__")))
    (hk5 : PySem.W.findIn K (.ref c5) "__getattr__" = some none)
    (hs5 : PySem.W.subIn K (.ref c5) (.type "BaseException") = some true)
    (hd5 : PySem.W.hasDictIn K c5 = true)
    (ha5 : PySem.W.findIn K (.ref c5) "__class__" = some (some (.builtin "object.__class__")))
    (hm5 : PySem.W.mroIn K c5 (.type "object") = some true)
    (lc5 : PySem.W.isClsIn K c5 = true)
    (ty5 : PySem.W.typeIn K (.ref c5) = some (.type "type"))
    (ss5 : PySem.W.subIn K (.ref c5) (.ref S) = some true)
    (sv5 : PySem.W.subIn K (.ref c5) (.type "ValueError") = some true)
    (a6 : PySem.W.nsIn K mainGlobals "NoText" = some (some (.ref c6)))
    (hg6 : PySem.W.findIn K (.ref c6) "__getattribute__" = some (some (.builtin "BaseException.__getattribute__")))
    (hk6 : PySem.W.findIn K (.ref c6) "__getattr__" = some none)
    (hs6 : PySem.W.subIn K (.ref c6) (.type "BaseException") = some true)
    (hd6 : PySem.W.hasDictIn K c6 = true)
    (ha6 : PySem.W.findIn K (.ref c6) "__class__" = some (some (.builtin "object.__class__")))
    (hm6 : PySem.W.mroIn K c6 (.type "object") = some true)
    (lc6 : PySem.W.isClsIn K c6 = true)
    (ty6 : PySem.W.typeIn K (.ref c6) = some (.type "type"))
    (ss6 : PySem.W.subIn K (.ref c6) (.ref S) = some true)
    (sv6 : PySem.W.subIn K (.ref c6) (.type "ValueError") = some true)
    (a7 : PySem.W.nsIn K mainGlobals "NoRow" = some (some (.ref c7)))
    (hg7 : PySem.W.findIn K (.ref c7) "__getattribute__" = some (some (.builtin "BaseException.__getattribute__")))
    (hk7 : PySem.W.findIn K (.ref c7) "__getattr__" = some none)
    (hs7 : PySem.W.subIn K (.ref c7) (.type "BaseException") = some true)
    (hd7 : PySem.W.hasDictIn K c7 = true)
    (ha7 : PySem.W.findIn K (.ref c7) "__class__" = some (some (.builtin "object.__class__")))
    (hm7 : PySem.W.mroIn K c7 (.type "object") = some true)
    (lc7 : PySem.W.isClsIn K c7 = true)
    (ty7 : PySem.W.typeIn K (.ref c7) = some (.type "type"))
    (ss7 : PySem.W.subIn K (.ref c7) (.ref S) = some true)
    (sv7 : PySem.W.subIn K (.ref c7) (.type "ValueError") = some true)
    (a8 : PySem.W.nsIn K mainGlobals "NoBack" = some (some (.ref c8)))
    (hg8 : PySem.W.findIn K (.ref c8) "__getattribute__" = some (some (.builtin "BaseException.__getattribute__")))
    (hk8 : PySem.W.findIn K (.ref c8) "__getattr__" = some none)
    (hs8 : PySem.W.subIn K (.ref c8) (.type "BaseException") = some true)
    (hd8 : PySem.W.hasDictIn K c8 = true)
    (ha8 : PySem.W.findIn K (.ref c8) "__class__" = some (some (.builtin "object.__class__")))
    (hm8 : PySem.W.mroIn K c8 (.type "object") = some true)
    (lc8 : PySem.W.isClsIn K c8 = true)
    (ty8 : PySem.W.typeIn K (.ref c8) = some (.type "type"))
    (ss8 : PySem.W.subIn K (.ref c8) (.ref S) = some true)
    (sv8 : PySem.W.subIn K (.ref c8) (.type "ValueError") = some true)
    (s00 : PySem.W.subIn K (.ref c0) (.ref c0) = some true)
    (s01 : PySem.W.subIn K (.ref c0) (.ref c1) = some false)
    (s02 : PySem.W.subIn K (.ref c0) (.ref c2) = some false)
    (s03 : PySem.W.subIn K (.ref c0) (.ref c3) = some false)
    (s04 : PySem.W.subIn K (.ref c0) (.ref c4) = some false)
    (s05 : PySem.W.subIn K (.ref c0) (.ref c5) = some false)
    (s06 : PySem.W.subIn K (.ref c0) (.ref c6) = some false)
    (s07 : PySem.W.subIn K (.ref c0) (.ref c7) = some false)
    (s08 : PySem.W.subIn K (.ref c0) (.ref c8) = some false)
    (s10 : PySem.W.subIn K (.ref c1) (.ref c0) = some false)
    (s11 : PySem.W.subIn K (.ref c1) (.ref c1) = some true)
    (s12 : PySem.W.subIn K (.ref c1) (.ref c2) = some false)
    (s13 : PySem.W.subIn K (.ref c1) (.ref c3) = some false)
    (s14 : PySem.W.subIn K (.ref c1) (.ref c4) = some false)
    (s15 : PySem.W.subIn K (.ref c1) (.ref c5) = some false)
    (s16 : PySem.W.subIn K (.ref c1) (.ref c6) = some false)
    (s17 : PySem.W.subIn K (.ref c1) (.ref c7) = some false)
    (s18 : PySem.W.subIn K (.ref c1) (.ref c8) = some false)
    (s20 : PySem.W.subIn K (.ref c2) (.ref c0) = some false)
    (s21 : PySem.W.subIn K (.ref c2) (.ref c1) = some false)
    (s22 : PySem.W.subIn K (.ref c2) (.ref c2) = some true)
    (s23 : PySem.W.subIn K (.ref c2) (.ref c3) = some false)
    (s24 : PySem.W.subIn K (.ref c2) (.ref c4) = some false)
    (s25 : PySem.W.subIn K (.ref c2) (.ref c5) = some false)
    (s26 : PySem.W.subIn K (.ref c2) (.ref c6) = some false)
    (s27 : PySem.W.subIn K (.ref c2) (.ref c7) = some false)
    (s28 : PySem.W.subIn K (.ref c2) (.ref c8) = some false)
    (s30 : PySem.W.subIn K (.ref c3) (.ref c0) = some false)
    (s31 : PySem.W.subIn K (.ref c3) (.ref c1) = some false)
    (s32 : PySem.W.subIn K (.ref c3) (.ref c2) = some false)
    (s33 : PySem.W.subIn K (.ref c3) (.ref c3) = some true)
    (s34 : PySem.W.subIn K (.ref c3) (.ref c4) = some false)
    (s35 : PySem.W.subIn K (.ref c3) (.ref c5) = some false)
    (s36 : PySem.W.subIn K (.ref c3) (.ref c6) = some false)
    (s37 : PySem.W.subIn K (.ref c3) (.ref c7) = some false)
    (s38 : PySem.W.subIn K (.ref c3) (.ref c8) = some false)
    (s40 : PySem.W.subIn K (.ref c4) (.ref c0) = some false)
    (s41 : PySem.W.subIn K (.ref c4) (.ref c1) = some false)
    (s42 : PySem.W.subIn K (.ref c4) (.ref c2) = some false)
    (s43 : PySem.W.subIn K (.ref c4) (.ref c3) = some false)
    (s44 : PySem.W.subIn K (.ref c4) (.ref c4) = some true)
    (s45 : PySem.W.subIn K (.ref c4) (.ref c5) = some false)
    (s46 : PySem.W.subIn K (.ref c4) (.ref c6) = some false)
    (s47 : PySem.W.subIn K (.ref c4) (.ref c7) = some false)
    (s48 : PySem.W.subIn K (.ref c4) (.ref c8) = some false)
    (s50 : PySem.W.subIn K (.ref c5) (.ref c0) = some false)
    (s51 : PySem.W.subIn K (.ref c5) (.ref c1) = some false)
    (s52 : PySem.W.subIn K (.ref c5) (.ref c2) = some false)
    (s53 : PySem.W.subIn K (.ref c5) (.ref c3) = some false)
    (s54 : PySem.W.subIn K (.ref c5) (.ref c4) = some false)
    (s55 : PySem.W.subIn K (.ref c5) (.ref c5) = some true)
    (s56 : PySem.W.subIn K (.ref c5) (.ref c6) = some false)
    (s57 : PySem.W.subIn K (.ref c5) (.ref c7) = some false)
    (s58 : PySem.W.subIn K (.ref c5) (.ref c8) = some false)
    (s60 : PySem.W.subIn K (.ref c6) (.ref c0) = some false)
    (s61 : PySem.W.subIn K (.ref c6) (.ref c1) = some false)
    (s62 : PySem.W.subIn K (.ref c6) (.ref c2) = some false)
    (s63 : PySem.W.subIn K (.ref c6) (.ref c3) = some false)
    (s64 : PySem.W.subIn K (.ref c6) (.ref c4) = some false)
    (s65 : PySem.W.subIn K (.ref c6) (.ref c5) = some false)
    (s66 : PySem.W.subIn K (.ref c6) (.ref c6) = some true)
    (s67 : PySem.W.subIn K (.ref c6) (.ref c7) = some false)
    (s68 : PySem.W.subIn K (.ref c6) (.ref c8) = some false)
    (s70 : PySem.W.subIn K (.ref c7) (.ref c0) = some false)
    (s71 : PySem.W.subIn K (.ref c7) (.ref c1) = some false)
    (s72 : PySem.W.subIn K (.ref c7) (.ref c2) = some false)
    (s73 : PySem.W.subIn K (.ref c7) (.ref c3) = some false)
    (s74 : PySem.W.subIn K (.ref c7) (.ref c4) = some false)
    (s75 : PySem.W.subIn K (.ref c7) (.ref c5) = some false)
    (s76 : PySem.W.subIn K (.ref c7) (.ref c6) = some false)
    (s77 : PySem.W.subIn K (.ref c7) (.ref c7) = some true)
    (s78 : PySem.W.subIn K (.ref c7) (.ref c8) = some false)
    (s80 : PySem.W.subIn K (.ref c8) (.ref c0) = some false)
    (s81 : PySem.W.subIn K (.ref c8) (.ref c1) = some false)
    (s82 : PySem.W.subIn K (.ref c8) (.ref c2) = some false)
    (s83 : PySem.W.subIn K (.ref c8) (.ref c3) = some false)
    (s84 : PySem.W.subIn K (.ref c8) (.ref c4) = some false)
    (s85 : PySem.W.subIn K (.ref c8) (.ref c5) = some false)
    (s86 : PySem.W.subIn K (.ref c8) (.ref c6) = some false)
    (s87 : PySem.W.subIn K (.ref c8) (.ref c7) = some false)
    (s88 : PySem.W.subIn K (.ref c8) (.ref c8) = some true)
    (kp1 : PySem.W.keepIn K (.ref c1) = true)
    (x1 : K.lookup c1 = some (excClassObj nm1 q1 c1 N1 bs1 bm1 true sn1 sub1 ab1 col1 dd1 m01 m11 m21 m31 m51 "ValueError.__new__"))
    (rv1 : PySem.HandSPX.refsVE bm1 = true)
    (sa1 : PySem.W.findIn K (.ref c1) "__setattr__" = some (some (.builtin "object.__setattr__")))
    (na1 : PySem.W.findIn K (.ref c1) "at" = some none)
    (in1 : PySem.W.findIn K (.ref c1) "__init__" = some (some (.ref g1)))
    (tf1 : PySem.W.typeIn K (.ref g1) = some (.type "function"))
    (l_g1 : K.lookup g1 = some ⟨oc_g1, od_g1, .func (PySem.W.fnOf "__init__" "NoLadder.__init__" (defArgs sIn1) (defBody sIn1) (defScope sIn1) .none kV_g1 dc_g1 pm_g1 an_g1 cd_g1 ct_g1), sl_g1⟩)
    (c_g1 : PySem.W.codeIn K cd_g1 "NoLadder.__init__" = true)
    (k_g1 : PySem.W.keepIn K (.ref g1) = true) :
    LawG l w K 12 63 "script" mg top h := by
  have e := htop.symm.trans (PySem.W.mg_of X G b_fL)
  cases e
  have F_fM := fun_mk (st := sMix) l_fM c_fM k_fM
  have B_fM := F_fM.binds (ps := ["cell", "at"]) fun _ _ _ _ _ _ us hl => match us, hl with | [_, _], _ => rfl
  have g_fM := PySem.W.mg_of X G b_fM
  have F_fD := fun_mk (st := sDrw) l_fD c_fD k_fD
  have B_fD := F_fD.binds (ps := ["feed", "many"]) fun _ _ _ _ _ _ us hl => match us, hl with | [_, _], _ => rfl
  have g_fD := PySem.W.mg_of X G b_fD
  have F_fO := fun_mk (st := sOpn) l_fO c_fO k_fO
  have B_fO := F_fO.binds (ps := ["script"]) fun _ _ _ _ _ _ us hl => match us, hl with | [_], _ => rfl
  have g_fO := PySem.W.mg_of X G b_fO
  have F_fW := fun_mk (st := sSwh) l_fW c_fW k_fW
  have B_fW := F_fW.binds (ps := ["thing"]) fun _ _ _ _ _ _ us hl => match us, hl with | [_], _ => rfl
  have g_fW := PySem.W.mg_of X G b_fW
  have F_fT := fun_mk (st := sThg) l_fT c_fT k_fT
  have B_fT := F_fT.binds (ps := ["feed", "least", "most"]) fun _ _ _ _ _ _ us hl => match us, hl with | [_, _, _], _ => rfl
  have g_fT := PySem.W.mg_of X G b_fT
  have F_fC := fun_mk (st := sClm) l_fC c_fC k_fC
  have B_fC := F_fC.binds (ps := ["feed", "things", "most"]) fun _ _ _ _ _ _ us hl => match us, hl with | [_, _, _], _ => rfl
  have g_fC := PySem.W.mg_of X G b_fC
  have F_fB := fun_mk (st := sBok) l_fB c_fB k_fB
  have B_fB := F_fB.binds (ps := ["feed", "things", "most"]) fun _ _ _ _ _ _ us hl => match us, hl with | [_, _, _], _ => rfl
  have g_fB := PySem.W.mg_of X G b_fB
  have F_fx := fun_mk (st := sSct) l_fx c_fx k_fx
  have B_fx := F_fx.binds (ps := ["one", "other", "k"]) fun _ _ _ _ _ _ us hl => match us, hl with | [_, _, _], _ => rfl
  have g_fx := PySem.W.mg_of X G b_fx
  have F_fr := fun_mk (st := sSrw) l_fr c_fr k_fr
  have B_fr := F_fr.binds (ps := ["book", "claims", "row"]) fun _ _ _ _ _ _ us hl => match us, hl with | [_, _, _], _ => rfl
  have g_fr := PySem.W.mg_of X G b_fr
  have F_ft := fun_mk (st := sSto) l_ft c_ft k_ft
  have B_ft := F_ft.binds (ps := ["book", "rows"]) fun _ _ _ _ _ _ us hl => match us, hl with | [_, _], _ => rfl
  have g_ft := PySem.W.mg_of X G b_ft
  have F_fS := fun_mk (st := sSca) l_fS c_fS k_fS
  have B_fS := F_fS.binds (ps := ["feed"]) fun _ _ _ _ _ _ us hl => match us, hl with | [_], _ => rfl
  have g_fS := PySem.W.mg_of X G b_fS
  have F_fo := fun_mk (st := sSor) l_fo c_fo k_fo
  have B_fo := F_fo.binds (ps := ["n", "number", "row"]) fun _ _ _ _ _ _ us hl => match us, hl with | [_, _, _], _ => rfl
  have g_fo := PySem.W.mg_of X G b_fo
  have F_fy := fun_mk (st := sSwy) l_fy c_fy k_fy
  have B_fy := F_fy.binds (ps := ["book", "claims", "i", "j"]) fun _ _ _ _ _ _ us hl => match us, hl with | [_, _, _, _], _ => rfl
  have g_fy := PySem.W.mg_of X G b_fy
  have F_fc := fun_mk (st := sSoc) l_fc c_fc k_fc
  have B_fc := F_fc.binds (ps := ["row", "number"]) fun _ _ _ _ _ _ us hl => match us, hl with | [_, _], _ => rfl
  have g_fc := PySem.W.mg_of X G b_fc
  have F_fl := fun_mk (st := sSld) l_fl c_fl k_fl
  have B_fl := F_fl.binds (ps := ["feed", "book", "many"]) fun _ _ _ _ _ _ us hl => match us, hl with | [_, _, _], _ => rfl
  have g_fl := PySem.W.mg_of X G b_fl
  have F_fL := fun_mk (st := sLaw) l_fL c_fL k_fL
  have B_fL := F_fL.binds (ps := ["script"]) fun _ _ _ _ _ _ us hl => match us, hl with | [_], _ => rfl
  have g_fL := PySem.W.mg_of X G b_fL
  have F_fq := fun_mk (st := sRef) l_fq c_fq k_fq
  have B_fq := F_fq.binds (ps := ["act"]) fun _ _ _ _ _ _ us hl => match us, hl with | [_], _ => rfl
  have g_fq := PySem.W.mg_of X G b_fq
  have F_fa := fun_mk (st := sLat) l_fa c_fa k_fa
  have B_fa := F_fa.binds (ps := ["act"]) fun _ _ _ _ _ _ us hl => match us, hl with | [_], _ => rfl
  have g_fa := PySem.W.mg_of X G b_fa
  have F_fp := fun_mk (st := sSsp) l_fp c_fp k_fp
  have B_fp := F_fp.binds (ps := ["feed", "book", "ladder"]) fun _ _ _ _ _ _ us hl => match us, hl with | [_, _, _], _ => rfl
  have g_fp := PySem.W.mg_of X G b_fp
  have F_fz := fun_mk (st := sSno) l_fz c_fz k_fz
  have B_fz := F_fz.binds (ps := ["acts", "book", "spoilt"]) fun _ _ _ _ _ _ us hl => match us, hl with | [_, _, _], _ => rfl
  have g_fz := PySem.W.mg_of X G b_fz
  have F_fi := fun_mk (st := sSwd) l_fi c_fi k_fi
  have B_fi := F_fi.binds (ps := ["one", "other"]) fun _ _ _ _ _ _ us hl => match us, hl with | [_, _], _ => rfl
  have g_fi := PySem.W.mg_of X G b_fi
  have F_fe := fun_mk (st := sScb) l_fe c_fe k_fe
  have B_fe := F_fe.binds (ps := ["one", "other", "say"]) fun _ _ _ _ _ _ us hl => match us, hl with | [_, _, _], _ => rfl
  have g_fe := PySem.W.mg_of X G b_fe
  have F_fj := fun_mk (st := sSlo) l_fj c_fj k_fj
  have B_fj := F_fj.binds (ps := ["feed"]) fun _ _ _ _ _ _ us hl => match us, hl with | [_], _ => rfl
  have g_fj := PySem.W.mg_of X G b_fj
  have F_fs := fun_mk (st := sSix) l_fs c_fs k_fs
  have B_fs := F_fs.binds (ps := ["feed"]) fun _ _ _ _ _ _ us hl => match us, hl with | [_], _ => rfl
  have g_fs := PySem.W.mg_of X G b_fs
  have F_fw := fun_mk (st := sWho) l_fw c_fw k_fw
  have B_fw := F_fw.binds (ps := ["thing"]) fun _ _ _ _ _ _ us hl => match us, hl with | [_], _ => rfl
  have g_fw := PySem.W.mg_of X G b_fw
  have F_fm := fun_mk (st := sCme) l_fm c_fm k_fm
  have B_fm := F_fm.binds (ps := ["one", "other", "k"]) fun _ _ _ _ _ _ us hl => match us, hl with | [_, _, _], _ => rfl
  have g_fm := PySem.W.mg_of X G b_fm
  have F_fn := fun_mk (st := sCon) l_fn c_fn k_fn
  have B_fn := F_fn.binds (ps := ["one", "other", "k"]) fun _ _ _ _ _ _ us hl => match us, hl with | [_, _, _], _ => rfl
  have g_fn := PySem.W.mg_of X G b_fn
  have F_fb := fun_mk (st := sNum) l_fb c_fb k_fb
  have B_fb := F_fb.binds (ps := ["thing", "many"]) fun _ _ _ _ _ _ us hl => match us, hl with | [_, _], _ => rfl
  have g_fb := PySem.W.mg_of X G b_fb
  have F_fR := fun_mk (st := sRow) l_fR c_fR k_fR
  have B_fR := F_fR.binds (ps := ["book", "claims", "row"]) fun _ _ _ _ _ _ us hl => match us, hl with | [_, _, _], _ => rfl
  have g_fR := PySem.W.mg_of X G b_fR
  have F_fA := fun_mk (st := sAhe) l_fA c_fA k_fA
  have B_fA := F_fA.binds (ps := ["book", "thing"]) fun _ _ _ _ _ _ us hl => match us, hl with | [_, _], _ => rfl
  have g_fA := PySem.W.mg_of X G b_fA
  have F_fI := fun_mk (st := sClo) l_fI c_fI k_fI
  have B_fI := F_fI.binds (ps := ["book", "ladder"]) fun _ _ _ _ _ _ us hl => match us, hl with | [_, _], _ => rfl
  have g_fI := PySem.W.mg_of X G b_fI
  have F_fV := fun_mk (st := sRun) l_fV c_fV k_fV
  have B_fV := F_fV.binds (ps := ["ladder", "last"]) fun _ _ _ _ _ _ us hl => match us, hl with | [_, _], _ => rfl
  have g_fV := PySem.W.mg_of X G b_fV
  have F_fQ := fun_mk (st := sMov) l_fQ c_fQ k_fQ
  have B_fQ := F_fQ.binds (ps := ["row", "places"]) fun _ _ _ _ _ _ us hl => match us, hl with | [_, _], _ => rfl
  have g_fQ := PySem.W.mg_of X G b_fQ
  have F_fZ := fun_mk (st := sTrt) l_fZ c_fZ k_fZ
  have B_fZ := F_fZ.binds (ps := ["ladder", "last"]) fun _ _ _ _ _ _ us hl => match us, hl with | [_, _], _ => rfl
  have g_fZ := PySem.W.mg_of X G b_fZ
  have F_gO := fun_mk (st := sHop) l_gO c_gO k_gO
  have B_gO := F_gO.binds (ps := ["says"]) fun _ _ _ _ _ _ us hl => match us, hl with | [_], _ => rfl
  have g_gO := PySem.W.mg_of X G b_gO
  have F_oT := fun_mk (st := _root_.To.sTon) l_oT c_oT k_oT
  have B_oT := F_oT.binds (ps := ["book", "ladder"]) fun _ _ _ _ _ _ us hl => match us, hl with | [_, _], _ => rfl
  have g_oT := PySem.W.mg_of X G b_oT
  have F_oG := fun_mk (st := Ag.sAgn) l_oG c_oG k_oG
  have B_oG := F_oG.binds (ps := ["feed", "ladder"]) fun _ _ _ _ _ _ us hl => match us, hl with | [_, _], _ => rfl
  have g_oG := PySem.W.mg_of X G b_oG
  have F_oU := fun_mk (st := Du.sDue) l_oU c_oU k_oU
  have B_oU := F_oU.binds (ps := ["book", "ladder"]) fun _ _ _ _ _ _ us hl => match us, hl with | [_, _], _ => rfl
  have g_oU := PySem.W.mg_of X G b_oU
  have C_gO : Se.FunC K "has_opposites" "has_opposites" sHop gO cO _ := ⟨⟨_, _, _, _, _, _, _, _, rfl, l_gO, c_gO⟩, k_gO⟩
  have M_MOST_THINGS := PySem.W.mg_of X G b_MOST_THINGS
  have M_MOST_ROWS := PySem.W.mg_of X G b_MOST_ROWS
  have F_g1 := fun_mk (st := sIn1) l_g1 c_g1 k_g1
  have B_g1 := F_g1.binds (ps := ["self", "at"]) fun _ _ _ _ _ _ us hl => match us, hl with | [_, _], _ => rfl
  have Z_zip := PySem.W.mg_none_of X G z_zip
  have Z_range := PySem.W.mg_none_of X G z_range
  have Z_isinstance := PySem.W.mg_none_of X G z_isinstance
  have Z_len := PySem.W.mg_none_of X G z_len
  have Z_list := PySem.W.mg_none_of X G z_list
  have Z_min := PySem.W.mg_none_of X G z_min
  have Z_max := PySem.W.mg_none_of X G z_max
  have Z_tuple := PySem.W.mg_none_of X G z_tuple
  have Z_sorted := PySem.W.mg_none_of X G z_sorted
  have Z_all := PySem.W.mg_none_of X G z_all
  have Z_any := PySem.W.mg_none_of X G z_any
  have Z_bool := PySem.W.mg_none_of X G z_bool
  have Z_int := PySem.W.mg_none_of X G z_int
  have Z_repr := PySem.W.mg_none_of X G z_repr
  have Z_abs := PySem.W.mg_none_of X G z_abs
  have Z_set := PySem.W.mg_none_of X G z_set
  have Z_enumerate := PySem.W.mg_none_of X G z_enumerate
  have Z_str := PySem.W.mg_none_of X G z_str
  have Z_ValueError := PySem.W.mg_none_of X G z_ValueError
  have Z_reversed := PySem.W.mg_none_of X G z_reversed
  have Tx : Rf.Txt K mg (fun i => [c0, c1, c2, c3, c4, c5, c6, c7, c8].getD i 0) S := {
    g := fun i x e => match i, e with
    | 0, e => by cases e; exact PySem.W.mg_of X G a0
    | 1, e => by cases e; exact PySem.W.mg_of X G a1
    | 2, e => by cases e; exact PySem.W.mg_of X G a2
    | 3, e => by cases e; exact PySem.W.mg_of X G a3
    | 4, e => by cases e; exact PySem.W.mg_of X G a4
    | 5, e => by cases e; exact PySem.W.mg_of X G a5
    | 6, e => by cases e; exact PySem.W.mg_of X G a6
    | 7, e => by cases e; exact PySem.W.mg_of X G a7
    | 8, e => by cases e; exact PySem.W.mg_of X G a8
    | n + 9, e => by cases e
    gS := PySem.W.mg_of X G aS
    ec := fun i hi => match i, hi with
    | 0, _ => ⟨hg0, hk0, hs0, hd0, ha0, hn, ht, hm0⟩
    | 1, _ => ⟨hg1, hk1, hs1, hd1, ha1, hn, ht, hm1⟩
    | 2, _ => ⟨hg2, hk2, hs2, hd2, ha2, hn, ht, hm2⟩
    | 3, _ => ⟨hg3, hk3, hs3, hd3, ha3, hn, ht, hm3⟩
    | 4, _ => ⟨hg4, hk4, hs4, hd4, ha4, hn, ht, hm4⟩
    | 5, _ => ⟨hg5, hk5, hs5, hd5, ha5, hn, ht, hm5⟩
    | 6, _ => ⟨hg6, hk6, hs6, hd6, ha6, hn, ht, hm6⟩
    | 7, _ => ⟨hg7, hk7, hs7, hd7, ha7, hn, ht, hm7⟩
    | 8, _ => ⟨hg8, hk8, hs8, hd8, ha8, hn, ht, hm8⟩
    ap := fun i j hi hj => match i, hi, j, hj with
    | 0, _, 0, _ => Cf.kit_t (Cf.cls_s lc0) ty0 s00
    | 0, _, 1, _ => Cf.kit_f (Cf.cls_s lc1) ty1 s01 s00
    | 0, _, 2, _ => Cf.kit_f (Cf.cls_s lc2) ty2 s02 s00
    | 0, _, 3, _ => Cf.kit_f (Cf.cls_s lc3) ty3 s03 s00
    | 0, _, 4, _ => Cf.kit_f (Cf.cls_s lc4) ty4 s04 s00
    | 0, _, 5, _ => Cf.kit_f (Cf.cls_s lc5) ty5 s05 s00
    | 0, _, 6, _ => Cf.kit_f (Cf.cls_s lc6) ty6 s06 s00
    | 0, _, 7, _ => Cf.kit_f (Cf.cls_s lc7) ty7 s07 s00
    | 0, _, 8, _ => Cf.kit_f (Cf.cls_s lc8) ty8 s08 s00
    | 1, _, 0, _ => Cf.kit_f (Cf.cls_s lc0) ty0 s10 s11
    | 1, _, 1, _ => Cf.kit_t (Cf.cls_s lc1) ty1 s11
    | 1, _, 2, _ => Cf.kit_f (Cf.cls_s lc2) ty2 s12 s11
    | 1, _, 3, _ => Cf.kit_f (Cf.cls_s lc3) ty3 s13 s11
    | 1, _, 4, _ => Cf.kit_f (Cf.cls_s lc4) ty4 s14 s11
    | 1, _, 5, _ => Cf.kit_f (Cf.cls_s lc5) ty5 s15 s11
    | 1, _, 6, _ => Cf.kit_f (Cf.cls_s lc6) ty6 s16 s11
    | 1, _, 7, _ => Cf.kit_f (Cf.cls_s lc7) ty7 s17 s11
    | 1, _, 8, _ => Cf.kit_f (Cf.cls_s lc8) ty8 s18 s11
    | 2, _, 0, _ => Cf.kit_f (Cf.cls_s lc0) ty0 s20 s22
    | 2, _, 1, _ => Cf.kit_f (Cf.cls_s lc1) ty1 s21 s22
    | 2, _, 2, _ => Cf.kit_t (Cf.cls_s lc2) ty2 s22
    | 2, _, 3, _ => Cf.kit_f (Cf.cls_s lc3) ty3 s23 s22
    | 2, _, 4, _ => Cf.kit_f (Cf.cls_s lc4) ty4 s24 s22
    | 2, _, 5, _ => Cf.kit_f (Cf.cls_s lc5) ty5 s25 s22
    | 2, _, 6, _ => Cf.kit_f (Cf.cls_s lc6) ty6 s26 s22
    | 2, _, 7, _ => Cf.kit_f (Cf.cls_s lc7) ty7 s27 s22
    | 2, _, 8, _ => Cf.kit_f (Cf.cls_s lc8) ty8 s28 s22
    | 3, _, 0, _ => Cf.kit_f (Cf.cls_s lc0) ty0 s30 s33
    | 3, _, 1, _ => Cf.kit_f (Cf.cls_s lc1) ty1 s31 s33
    | 3, _, 2, _ => Cf.kit_f (Cf.cls_s lc2) ty2 s32 s33
    | 3, _, 3, _ => Cf.kit_t (Cf.cls_s lc3) ty3 s33
    | 3, _, 4, _ => Cf.kit_f (Cf.cls_s lc4) ty4 s34 s33
    | 3, _, 5, _ => Cf.kit_f (Cf.cls_s lc5) ty5 s35 s33
    | 3, _, 6, _ => Cf.kit_f (Cf.cls_s lc6) ty6 s36 s33
    | 3, _, 7, _ => Cf.kit_f (Cf.cls_s lc7) ty7 s37 s33
    | 3, _, 8, _ => Cf.kit_f (Cf.cls_s lc8) ty8 s38 s33
    | 4, _, 0, _ => Cf.kit_f (Cf.cls_s lc0) ty0 s40 s44
    | 4, _, 1, _ => Cf.kit_f (Cf.cls_s lc1) ty1 s41 s44
    | 4, _, 2, _ => Cf.kit_f (Cf.cls_s lc2) ty2 s42 s44
    | 4, _, 3, _ => Cf.kit_f (Cf.cls_s lc3) ty3 s43 s44
    | 4, _, 4, _ => Cf.kit_t (Cf.cls_s lc4) ty4 s44
    | 4, _, 5, _ => Cf.kit_f (Cf.cls_s lc5) ty5 s45 s44
    | 4, _, 6, _ => Cf.kit_f (Cf.cls_s lc6) ty6 s46 s44
    | 4, _, 7, _ => Cf.kit_f (Cf.cls_s lc7) ty7 s47 s44
    | 4, _, 8, _ => Cf.kit_f (Cf.cls_s lc8) ty8 s48 s44
    | 5, _, 0, _ => Cf.kit_f (Cf.cls_s lc0) ty0 s50 s55
    | 5, _, 1, _ => Cf.kit_f (Cf.cls_s lc1) ty1 s51 s55
    | 5, _, 2, _ => Cf.kit_f (Cf.cls_s lc2) ty2 s52 s55
    | 5, _, 3, _ => Cf.kit_f (Cf.cls_s lc3) ty3 s53 s55
    | 5, _, 4, _ => Cf.kit_f (Cf.cls_s lc4) ty4 s54 s55
    | 5, _, 5, _ => Cf.kit_t (Cf.cls_s lc5) ty5 s55
    | 5, _, 6, _ => Cf.kit_f (Cf.cls_s lc6) ty6 s56 s55
    | 5, _, 7, _ => Cf.kit_f (Cf.cls_s lc7) ty7 s57 s55
    | 5, _, 8, _ => Cf.kit_f (Cf.cls_s lc8) ty8 s58 s55
    | 6, _, 0, _ => Cf.kit_f (Cf.cls_s lc0) ty0 s60 s66
    | 6, _, 1, _ => Cf.kit_f (Cf.cls_s lc1) ty1 s61 s66
    | 6, _, 2, _ => Cf.kit_f (Cf.cls_s lc2) ty2 s62 s66
    | 6, _, 3, _ => Cf.kit_f (Cf.cls_s lc3) ty3 s63 s66
    | 6, _, 4, _ => Cf.kit_f (Cf.cls_s lc4) ty4 s64 s66
    | 6, _, 5, _ => Cf.kit_f (Cf.cls_s lc5) ty5 s65 s66
    | 6, _, 6, _ => Cf.kit_t (Cf.cls_s lc6) ty6 s66
    | 6, _, 7, _ => Cf.kit_f (Cf.cls_s lc7) ty7 s67 s66
    | 6, _, 8, _ => Cf.kit_f (Cf.cls_s lc8) ty8 s68 s66
    | 7, _, 0, _ => Cf.kit_f (Cf.cls_s lc0) ty0 s70 s77
    | 7, _, 1, _ => Cf.kit_f (Cf.cls_s lc1) ty1 s71 s77
    | 7, _, 2, _ => Cf.kit_f (Cf.cls_s lc2) ty2 s72 s77
    | 7, _, 3, _ => Cf.kit_f (Cf.cls_s lc3) ty3 s73 s77
    | 7, _, 4, _ => Cf.kit_f (Cf.cls_s lc4) ty4 s74 s77
    | 7, _, 5, _ => Cf.kit_f (Cf.cls_s lc5) ty5 s75 s77
    | 7, _, 6, _ => Cf.kit_f (Cf.cls_s lc6) ty6 s76 s77
    | 7, _, 7, _ => Cf.kit_t (Cf.cls_s lc7) ty7 s77
    | 7, _, 8, _ => Cf.kit_f (Cf.cls_s lc8) ty8 s78 s77
    | 8, _, 0, _ => Cf.kit_f (Cf.cls_s lc0) ty0 s80 s88
    | 8, _, 1, _ => Cf.kit_f (Cf.cls_s lc1) ty1 s81 s88
    | 8, _, 2, _ => Cf.kit_f (Cf.cls_s lc2) ty2 s82 s88
    | 8, _, 3, _ => Cf.kit_f (Cf.cls_s lc3) ty3 s83 s88
    | 8, _, 4, _ => Cf.kit_f (Cf.cls_s lc4) ty4 s84 s88
    | 8, _, 5, _ => Cf.kit_f (Cf.cls_s lc5) ty5 s85 s88
    | 8, _, 6, _ => Cf.kit_f (Cf.cls_s lc6) ty6 s86 s88
    | 8, _, 7, _ => Cf.kit_f (Cf.cls_s lc7) ty7 s87 s88
    | 8, _, 8, _ => Cf.kit_t (Cf.cls_s lc8) ty8 s88
    kv := fun i hi => match i, hi with
    | 0, _ => Cf.kit_v sv0
    | 1, _ => Cf.kit_v sv1
    | 2, _ => Cf.kit_v sv2
    | 3, _ => Cf.kit_v sv3
    | 4, _ => Cf.kit_v sv4
    | 5, _ => Cf.kit_v sv5
    | 6, _ => Cf.kit_v sv6
    | 7, _ => Cf.kit_v sv7
    | 8, _ => Cf.kit_v sv8
    xm := fun i hi => match i, hi with
    | 0, _ => Cf.exm_t bS (Cf.cls_s lS) tS ss0
    | 1, _ => Cf.exm_t bS (Cf.cls_s lS) tS ss1
    | 2, _ => Cf.exm_t bS (Cf.cls_s lS) tS ss2
    | 3, _ => Cf.exm_t bS (Cf.cls_s lS) tS ss3
    | 4, _ => Cf.exm_t bS (Cf.cls_s lS) tS ss4
    | 5, _ => Cf.exm_t bS (Cf.cls_s lS) tS ss5
    | 6, _ => Cf.exm_t bS (Cf.cls_s lS) tS ss6
    | 7, _ => Cf.exm_t bS (Cf.cls_s lS) tS ss7
    | 8, _ => Cf.exm_t bS (Cf.cls_s lS) tS ss8
    z_isinstance := Z_isinstance
    z_ValueError := Z_ValueError
    z_len := Z_len }
  refine ⟨PySem.W.fnOf "law" "law" (defArgs sLaw) (defBody sLaw) (defScope sLaw) .none kV_fL dc_fL pm_fL an_fL cd_fL ct_fL, [(cO, PO)], spLaw PO K, ?_, ?_, ?_, fun s u => .of_eq rfl, fun H a ns _ hT hS => ?_, fun base hb hn hT => ?_⟩
  · intro p hp
    simp only [List.mem_cons, List.not_mem_nil, or_false] at hp
    rcases hp with rfl
    · exact ow "has_opposites" (by simp) _ g_gO cO PO _ _ _ _ _ _ l_gO rfl rfl lc_O v_O
  · intro p hp
    simp only [List.mem_cons, List.not_mem_nil, or_false] at hp
    rcases hp with rfl
    · exact np_O
  · intro p hp
    simp only [List.mem_cons, List.not_mem_nil, or_false] at hp
    rcases hp with rfl
    · exact PySem.W.codeHd_of_K X hd_O
  · exact ⟨a, ns, rfl, hS, ⟨#[], hT (cO, PO) (by simp), trivial⟩, fun _ => rfl⟩
  · have t_O := hT (cO, PO) (by simp)
    have T_O : TabB base mg cO PO := ⟨t_O.code, t_O.bm, t_O.gP⟩
    have Ts : Zs mg := by constructor <;> assumption
    have Tc : Zc mg := by constructor <;> assumption
    have Td : Zd mg := by constructor <;> assumption
    have Tp : Zp mg := by constructor <;> assumption
    have Ty : Zy mg := by constructor <;> assumption
    have Te : Ze mg := by constructor <;> assumption
    have To : Wo.Zo mg := by constructor <;> assumption
    have Tl : Lo.Zo mg := by constructor <;> assumption
    have Tn : Zn mg := by constructor <;> assumption
    have Tw : Zw mg := by constructor <;> assumption
    have Tv : Zv mg := by constructor <;> assumption
    have Tt : Um.Zt mg := by constructor <;> assumption
    have Tx6 : Zx mg := by constructor <;> assumption
    have Tk : Zk mg := by constructor <;> assumption
    have Tto : _root_.To.Zo mg := by constructor <;> assumption
    have Tdu : Du.Zd mg := by constructor <;> assumption
    have Tag : Ag.Zg mg := by constructor <;> assumption
    have O1 : OexC K c1 := ⟨⟨nm1, q1, N1, bs1, bm1, sn1, sub1, ab1, col1, dd1, m01, m11, m21, m31, m51, x1, rv1⟩, sa1, hs1, ty1, kp1⟩
    have X1 : PySem.W.exmOne K (.ref c1) (.ref c1) = some true := Cf.exm_t hs1 (Cf.cls_s lc1) ty1 s11
    have GD : FnOk l.prog w K mg base CX0 2 fD _ ["feed", "many"] spDrw := ok_drw F_fD F_fM B_fM g_fM Z_len
    have GO : FnOk l.prog w K mg base CX0 1 fO _ ["script"] (spOpn K) := ok_opn F_fO Z_list
    have GT : FnOk l.prog w K mg base CX0 3 fT _ ["feed", "least", "most"] spThg := ok_thg F_fT Ts F_fD B_fD g_fD GD
    have GC : FnOk l.prog w K mg base CX0 3 fC _ ["feed", "things", "most"] spClm := ok_clm F_fC Ts F_fD B_fD g_fD GD
    have GB : FnOk l.prog w K mg base CX0 4 fB _ ["feed", "things", "most"] spBok := ok_bok F_fB Ts F_fD B_fD g_fD GD F_fC B_fC g_fC GC
    have GX : FnOk l.prog w K mg base CX0 1 fx _ ["one", "other", "k"] spSct := ok_sct F_fx Td
    have GW : FnOk l.prog w K mg base CX0 1 fW _ ["thing"] spWhG := ok_swG F_fW Ty
    have Gr : FnOk l.prog w K mg base CX0 2 fr _ ["book", "claims", "row"] spSrG := ok_srG F_fr Ty F_fW B_fW g_fW GW F_fx B_fx g_fx GX
    have Gr2 : FnOk l.prog w K mg base CX0 2 fr _ ["book", "claims", "row"] spSrw := sr_weak Gr
    have Gt : FnOk l.prog w K mg base CX0 3 ft _ ["book", "rows"] spSto := ok_sto F_ft Te F_fr B_fr g_fr Gr
    have Gy : FnOk l.prog w K mg base CX0 3 fy _ ["book", "claims", "i", "j"] spSwy := ok_swy F_fy Ty F_fr B_fr g_fr Gr2
    have Gl : FnOk l.prog w K mg base CX0 4 fl _ ["feed", "book", "many"] spSld := ok_sld F_fl Ty F_fD B_fD g_fD GD F_fy B_fy g_fy Gy F_fr B_fr g_fr Gr2
    have GS : FnOk l.prog w K mg base CX0 5 fS _ ["feed"] spSca := ok_sca F_fS F_fD B_fD g_fD GD F_fT B_fT g_fT GT F_fB B_fB g_fB GB F_fl B_fl g_fl Gl
    have Gc : FnOk l.prog w K mg base CX0 1 fc _ ["row", "number"] spSoc := ok_soc F_fc To
    have Go : FnOk l.prog w K mg base CX0 2 fo _ ["n", "number", "row"] spSor := ok_sor F_fo To F_fc B_fc g_fc Gc
    have Gp : FnOk l.prog w K mg base CX0 4 fp _ ["feed", "book", "ladder"] spSsp := ok_ssp F_fp Tv F_fD B_fD g_fD GD F_fo B_fo g_fo Go F_ft B_ft g_ft Gt
    have Gw : FnOk l.prog w K mg base CX0 1 fw _ ["thing"] spWhG := ok_whp F_fw Tc
    have Gh : FnOk l.prog w K mg base CX0 3 gO _ ["says"] (spHop PO) := ok_hop C_gO Tc T_O
    have Gm : FnOk l.prog w K mg base CX0 2 fm _ ["one", "other", "k"] spCme := ok_cme F_fm Tc M_MOST_THINGS F_fw B_fw g_fw (wh_weak Gw)
    have Gm2 : FnOk l.prog w K mg base CX0 2 fm _ ["one", "other", "k"] spCmN := ok_cmN F_fm Tc M_MOST_THINGS F_fw B_fw g_fw Gw
    have Gn1 : FnOk l.prog w K mg base CX0 4 fn _ ["one", "other", "k"] (spCon PO) := ok_con F_fn Tc F_fm B_fm g_fm Gm k_gO B_gO g_gO Gh
    have Gn2 : FnOk l.prog w K mg base CX0 4 fn _ ["one", "other", "k"] spCoN := ok_coN F_fn Tc F_fm B_fm g_fm Gm2 k_gO B_gO g_gO Gh
    have Gb : FnOk l.prog w K mg base CX0 2 fb _ ["thing", "many"] spNmG := ok_numG F_fb F_fw B_fw g_fw Gw
    have Gb2 : FnOk l.prog w K mg base CX0 2 fb _ ["thing", "many"] spNum := ok_num F_fb F_fw B_fw g_fw (wh_weak Gw)
    have GR : FnOk l.prog w K mg base CX0 5 fR _ ["book", "claims", "row"] (spRoG PO) := ok_roG F_fR Tp F_fb B_fb g_fb Gb F_fn B_fn g_fn (ok_or Gn1 Gn2)
    have GR2 : FnOk l.prog w K mg base CX0 5 fR _ ["book", "claims", "row"] (spRow PO) := ok_row F_fR Tp F_fb B_fb g_fb Gb2 F_fn B_fn g_fn Gn1
    have GA : FnOk l.prog w K mg base CX0 6 fA _ ["book", "thing"] (spAhG PO) := ok_ahG F_fA Tp M_MOST_ROWS F_fR B_fR g_fR GR
    have GA2 : FnOk l.prog w K mg base CX0 6 fA _ ["book", "thing"] (spAhe PO) := ok_ahe F_fA Tp M_MOST_ROWS F_fR B_fR g_fR GR2
    have GI : FnOk l.prog w K mg base CX0 7 fI _ ["book", "ladder"] (spClo PO) := ok_clo F_fI Tp F_fA B_fA g_fA GA2
    have GV : FnOk l.prog w K mg base CX0 1 fV _ ["ladder", "last"] spRun := ok_run F_fV Tn
    have GQ : FnOk l.prog w K mg base CX0 1 fQ _ ["row", "places"] spMov := ok_mov F_fQ
    have GZ : FnOk l.prog w K mg base CX0 2 fZ _ ["ladder", "last"] spTrt := ok_trt F_fZ Tt F_fV B_fV g_fV GV F_fQ B_fQ g_fQ GQ
    have Ge : FnOk l.prog w K mg base CX0 1 fe _ ["one", "other", "say"] spScb := ok_scb F_fe
    have Gj : FnOk l.prog w K mg base CX0 4 fj _ ["feed"] spSlo := ok_slo F_fj Tl F_fD B_fD g_fD GD F_fT B_fT g_fT GT F_fe B_fe g_fe Ge
    have Gi : FnOk l.prog w K mg base CX0 1 fi _ ["one", "other"] spSwd := ok_swd F_fi Tw
    have Gs6 : FnOk l.prog w K mg base CX0 4 fs _ ["feed"] spSix := ok_six F_fs Tx6 F_fD B_fD g_fD GD F_fT B_fT g_fT GT F_fy B_fy g_fy Gy F_fr B_fr g_fr Gr2 F_fi B_fi g_fi Gi
    have GQ2 : FnOk l.prog w K mg base CX0 1 fQ _ ["row", "places"] spMvl := ok_mvl F_fQ
    have GtL : FnOk l.prog w K mg base CX0 3 ft _ ["book", "rows"] spStL := sto_lad Gt
    have JT : FnOk l.prog w K mg base CX0 8 oT _ ["book", "ladder"] (_root_.To.spTon PO) := _root_.To.ok_ton F_oT Tto F_fI B_fI g_fI GI F_fQ B_fQ g_fQ GQ2 F_fZ B_fZ g_fZ GZ
    have JG : FnOk l.prog w K mg base CX0 3 oG _ ["feed", "ladder"] Ag.spAgn := Ag.ok_agn F_oG Tag F_fD B_fD g_fD GD
    have JU : FnOk l.prog w K mg base CX0 4 oU _ ["book", "ladder"] Du.spDue := Du.ok_due F_oU Tdu F_ft B_ft g_ft GtL
    have G1 : FnOk l.prog w K mg base CX0 1 g1 _ ["self", "at"] (spInit K) := ok_in1 F_g1
    have BI : Gx2.FnX l.prog w K mg base (L2.CX l.prog w) 7 fI _ ["book", "ladder"] (spBad c1 PO 0) := bad_claims_of F_fI Tp F_fA B_fA g_fA GA (PySem.W.mg_of X G a1) O1 na1 in1 tf1 B_g1 G1
    have BA0 : Gx2.FnX l.prog w K mg base (L2.CX l.prog w) 9 oT _ ["book", "ladder"] (spBad c1 PO 0) := bad_told_once F_oT F_fI B_fI g_fI BI
    have Gq : Gx2.FnX l.prog w K mg base CX0 10 fq _ ["act"] (spAny [(oT, 0)] fun fa m => spRfB fa PO m) := anyX fun p hp => by
      simp only [List.mem_cons, List.not_mem_nil, or_false] at hp
      subst hp
      exact ref_0 F_fq Tx k_oT B_oT BA0
    have Ga : Gx2.FnX l.prog w K mg base CX0 10 fa _ ["act"] (spAny [(oT, 0)] fun fa m => spLtB fa PO m) := anyX fun p hp => by
      simp only [List.mem_cons, List.not_mem_nil, or_false] at hp
      subst hp
      exact lat_0 F_fa Tx X1 na1 k_oT B_oT BA0
    have Gz : Gx2.FnX l.prog w K mg base CX0 11 fz _ ["acts", "book", "spoilt"] (spSno [(oT, 0)] PO) := ok_sno F_fz Tv (fun p hp => by
      simp only [List.mem_cons, List.not_mem_nil, or_false] at hp
      subst hp
      exact .inl rfl) F_fq B_fq g_fq Gq F_fa B_fa g_fa Ga
    exact ok_law F_fL Tk F_oT B_oT g_oT JT F_fO B_fO g_fO GO F_fD B_fD g_fD GD F_fS B_fS g_fS GS F_fj B_fj g_fj Gj F_fs B_fs g_fs Gs6 F_oG B_oG g_oG JG F_oU B_oU g_oU JU F_ft B_ft g_ft GtL F_fp B_fp g_fp Gp F_fz B_fz g_fz Gz
end K12

open PySem PySem.W PyProof.Rows
set_option maxHeartbeats 0 in
theorem PySem.Challenge.cw_sparecut_k12_told_once_holds : PySem.Challenge.rw_sparecut_k12_told_once.Holds := by
  w_on; o_law; k_head; (case hw => w_witness2)
  k_fill
  refine Eg.walk_own (l := PySem.Challenge.rw_sparecut_k12_told_once) (m := 63) (k := 12) (x := "script") ["has_opposites"] rfl (by decide) rfl ⟨rfl, by decide, by decide⟩ (by decide +kernel) (fun w h Y => PySem.W.kIn_of Y) ?F
  case F =>
    intro w mg fa h Y KX G hmg ow
    refine' K12.all_mk KX G hmg ow ?b_fM ?l_fM ?c_fM ?k_fM ?b_fD ?l_fD ?c_fD ?k_fD ?b_fO ?l_fO ?c_fO ?k_fO ?b_fW ?l_fW ?c_fW ?k_fW ?b_fT ?l_fT ?c_fT ?k_fT ?b_fC ?l_fC ?c_fC ?k_fC ?b_fB ?l_fB ?c_fB ?k_fB ?b_fx ?l_fx ?c_fx ?k_fx ?b_fr ?l_fr ?c_fr ?k_fr ?b_ft ?l_ft ?c_ft ?k_ft ?b_fS ?l_fS ?c_fS ?k_fS ?b_fo ?l_fo ?c_fo ?k_fo ?b_fy ?l_fy ?c_fy ?k_fy ?b_fc ?l_fc ?c_fc ?k_fc ?b_fl ?l_fl ?c_fl ?k_fl ?b_fL ?l_fL ?c_fL ?k_fL ?b_fq ?l_fq ?c_fq ?k_fq ?b_fa ?l_fa ?c_fa ?k_fa ?b_fp ?l_fp ?c_fp ?k_fp ?b_fz ?l_fz ?c_fz ?k_fz ?b_fi ?l_fi ?c_fi ?k_fi ?b_fe ?l_fe ?c_fe ?k_fe ?b_fj ?l_fj ?c_fj ?k_fj ?b_fs ?l_fs ?c_fs ?k_fs ?b_fw ?l_fw ?c_fw ?k_fw ?b_fm ?l_fm ?c_fm ?k_fm ?b_fn ?l_fn ?c_fn ?k_fn ?b_fb ?l_fb ?c_fb ?k_fb ?b_fR ?l_fR ?c_fR ?k_fR ?b_fA ?l_fA ?c_fA ?k_fA ?b_fI ?l_fI ?c_fI ?k_fI ?b_fV ?l_fV ?c_fV ?k_fV ?b_fQ ?l_fQ ?c_fQ ?k_fQ ?b_fZ ?l_fZ ?c_fZ ?k_fZ ?b_gO ?l_gO ?c_gO ?k_gO ?b_oT ?l_oT ?c_oT ?k_oT ?b_oG ?l_oG ?c_oG ?k_oG ?b_oU ?l_oU ?c_oU ?k_oU ?lc_O ?v_O ?hd_O ?np_O ?b_MOST_THINGS ?b_MOST_ROWS ?z_zip ?z_range ?z_isinstance ?z_len ?z_list ?z_min ?z_max ?z_tuple ?z_sorted ?z_all ?z_any ?z_bool ?z_int ?z_repr ?z_abs ?z_set ?z_enumerate ?z_str ?z_ValueError ?z_reversed ?aS ?bS ?hn ?ht ?lS ?tS ?a0 ?hg0 ?hk0 ?hs0 ?hd0 ?ha0 ?hm0 ?lc0 ?ty0 ?ss0 ?sv0 ?a1 ?hg1 ?hk1 ?hs1 ?hd1 ?ha1 ?hm1 ?lc1 ?ty1 ?ss1 ?sv1 ?a2 ?hg2 ?hk2 ?hs2 ?hd2 ?ha2 ?hm2 ?lc2 ?ty2 ?ss2 ?sv2 ?a3 ?hg3 ?hk3 ?hs3 ?hd3 ?ha3 ?hm3 ?lc3 ?ty3 ?ss3 ?sv3 ?a4 ?hg4 ?hk4 ?hs4 ?hd4 ?ha4 ?hm4 ?lc4 ?ty4 ?ss4 ?sv4 ?a5 ?hg5 ?hk5 ?hs5 ?hd5 ?ha5 ?hm5 ?lc5 ?ty5 ?ss5 ?sv5 ?a6 ?hg6 ?hk6 ?hs6 ?hd6 ?ha6 ?hm6 ?lc6 ?ty6 ?ss6 ?sv6 ?a7 ?hg7 ?hk7 ?hs7 ?hd7 ?ha7 ?hm7 ?lc7 ?ty7 ?ss7 ?sv7 ?a8 ?hg8 ?hk8 ?hs8 ?hd8 ?ha8 ?hm8 ?lc8 ?ty8 ?ss8 ?sv8 ?s00 ?s01 ?s02 ?s03 ?s04 ?s05 ?s06 ?s07 ?s08 ?s10 ?s11 ?s12 ?s13 ?s14 ?s15 ?s16 ?s17 ?s18 ?s20 ?s21 ?s22 ?s23 ?s24 ?s25 ?s26 ?s27 ?s28 ?s30 ?s31 ?s32 ?s33 ?s34 ?s35 ?s36 ?s37 ?s38 ?s40 ?s41 ?s42 ?s43 ?s44 ?s45 ?s46 ?s47 ?s48 ?s50 ?s51 ?s52 ?s53 ?s54 ?s55 ?s56 ?s57 ?s58 ?s60 ?s61 ?s62 ?s63 ?s64 ?s65 ?s66 ?s67 ?s68 ?s70 ?s71 ?s72 ?s73 ?s74 ?s75 ?s76 ?s77 ?s78 ?s80 ?s81 ?s82 ?s83 ?s84 ?s85 ?s86 ?s87 ?s88 ?kp1 ?x1 ?rv1 ?sa1 ?na1 ?in1 ?tf1 ?l_g1 ?c_g1 ?k_g1
    (case b_fM => k_is)
    (case l_fM => k_is)
    (case c_fM => k_is)
    (case k_fM => k_is)
    (case b_fD => k_is)
    (case l_fD => k_is)
    (case c_fD => k_is)
    (case k_fD => k_is)
    (case b_fO => k_is)
    (case l_fO => k_is)
    (case c_fO => k_is)
    (case k_fO => k_is)
    (case b_fW => k_is)
    (case l_fW => k_is)
    (case c_fW => k_is)
    (case k_fW => k_is)
    (case b_fT => k_is)
    (case l_fT => k_is)
    (case c_fT => k_is)
    (case k_fT => k_is)
    (case b_fC => k_is)
    (case l_fC => k_is)
    (case c_fC => k_is)
    (case k_fC => k_is)
    (case b_fB => k_is)
    (case l_fB => k_is)
    (case c_fB => k_is)
    (case k_fB => k_is)
    (case b_fx => k_is)
    (case l_fx => k_is)
    (case c_fx => k_is)
    (case k_fx => k_is)
    (case b_fr => k_is)
    (case l_fr => k_is)
    (case c_fr => k_is)
    (case k_fr => k_is)
    (case b_ft => k_is)
    (case l_ft => k_is)
    (case c_ft => k_is)
    (case k_ft => k_is)
    (case b_fS => k_is)
    (case l_fS => k_is)
    (case c_fS => k_is)
    (case k_fS => k_is)
    (case b_fo => k_is)
    (case l_fo => k_is)
    (case c_fo => k_is)
    (case k_fo => k_is)
    (case b_fy => k_is)
    (case l_fy => k_is)
    (case c_fy => k_is)
    (case k_fy => k_is)
    (case b_fc => k_is)
    (case l_fc => k_is)
    (case c_fc => k_is)
    (case k_fc => k_is)
    (case b_fl => k_is)
    (case l_fl => k_is)
    (case c_fl => k_is)
    (case k_fl => k_is)
    (case b_fL => k_is)
    (case l_fL => k_is)
    (case c_fL => k_is)
    (case k_fL => k_is)
    (case b_fq => k_is)
    (case l_fq => k_is)
    (case c_fq => k_is)
    (case k_fq => k_is)
    (case b_fa => k_is)
    (case l_fa => k_is)
    (case c_fa => k_is)
    (case k_fa => k_is)
    (case b_fp => k_is)
    (case l_fp => k_is)
    (case c_fp => k_is)
    (case k_fp => k_is)
    (case b_fz => k_is)
    (case l_fz => k_is)
    (case c_fz => k_is)
    (case k_fz => k_is)
    (case b_fi => k_is)
    (case l_fi => k_is)
    (case c_fi => k_is)
    (case k_fi => k_is)
    (case b_fe => k_is)
    (case l_fe => k_is)
    (case c_fe => k_is)
    (case k_fe => k_is)
    (case b_fj => k_is)
    (case l_fj => k_is)
    (case c_fj => k_is)
    (case k_fj => k_is)
    (case b_fs => k_is)
    (case l_fs => k_is)
    (case c_fs => k_is)
    (case k_fs => k_is)
    (case b_fw => k_is)
    (case l_fw => k_is)
    (case c_fw => k_is)
    (case k_fw => k_is)
    (case b_fm => k_is)
    (case l_fm => k_is)
    (case c_fm => k_is)
    (case k_fm => k_is)
    (case b_fn => k_is)
    (case l_fn => k_is)
    (case c_fn => k_is)
    (case k_fn => k_is)
    (case b_fb => k_is)
    (case l_fb => k_is)
    (case c_fb => k_is)
    (case k_fb => k_is)
    (case b_fR => k_is)
    (case l_fR => k_is)
    (case c_fR => k_is)
    (case k_fR => k_is)
    (case b_fA => k_is)
    (case l_fA => k_is)
    (case c_fA => k_is)
    (case k_fA => k_is)
    (case b_fI => k_is)
    (case l_fI => k_is)
    (case c_fI => k_is)
    (case k_fI => k_is)
    (case b_fV => k_is)
    (case l_fV => k_is)
    (case c_fV => k_is)
    (case k_fV => k_is)
    (case b_fQ => k_is)
    (case l_fQ => k_is)
    (case c_fQ => k_is)
    (case k_fQ => k_is)
    (case b_fZ => k_is)
    (case l_fZ => k_is)
    (case c_fZ => k_is)
    (case k_fZ => k_is)
    (case b_gO => k_is)
    (case l_gO => k_is)
    (case c_gO => k_is)
    (case k_gO => k_is)
    (case b_oT => k_is)
    (case l_oT => k_is)
    (case c_oT => k_is)
    (case k_oT => k_is)
    (case b_oG => k_is)
    (case l_oG => k_is)
    (case c_oG => k_is)
    (case k_oG => k_is)
    (case b_oU => k_is)
    (case l_oU => k_is)
    (case c_oU => k_is)
    (case k_oU => k_is)
    (case lc_O => k_is)
    (case v_O => exact rfl)
    (case hd_O => kernel_rfl)
    (case np_O => kernel_rfl)
    (case b_MOST_THINGS => k_is)
    (case b_MOST_ROWS => k_is)
    (case z_zip => k_is)
    (case z_range => k_is)
    (case z_isinstance => k_is)
    (case z_len => k_is)
    (case z_list => k_is)
    (case z_min => k_is)
    (case z_max => k_is)
    (case z_tuple => k_is)
    (case z_sorted => k_is)
    (case z_all => k_is)
    (case z_any => k_is)
    (case z_bool => k_is)
    (case z_int => k_is)
    (case z_repr => k_is)
    (case z_abs => k_is)
    (case z_set => k_is)
    (case z_enumerate => k_is)
    (case z_str => k_is)
    (case z_ValueError => k_is)
    (case z_reversed => k_is)
    (case aS => k_is)
    (case bS => k_is)
    (case hn => k_is)
    (case ht => k_is)
    (case lS => k_is)
    (case tS => k_is)
    (case a0 => k_is)
    (case hg0 => k_is)
    (case hk0 => k_is)
    (case hs0 => k_is)
    (case hd0 => k_is)
    (case ha0 => k_is)
    (case hm0 => k_is)
    (case lc0 => k_is)
    (case ty0 => k_is)
    (case ss0 => k_is)
    (case sv0 => k_is)
    (case a1 => k_is)
    (case hg1 => k_is)
    (case hk1 => k_is)
    (case hs1 => k_is)
    (case hd1 => k_is)
    (case ha1 => k_is)
    (case hm1 => k_is)
    (case lc1 => k_is)
    (case ty1 => k_is)
    (case ss1 => k_is)
    (case sv1 => k_is)
    (case a2 => k_is)
    (case hg2 => k_is)
    (case hk2 => k_is)
    (case hs2 => k_is)
    (case hd2 => k_is)
    (case ha2 => k_is)
    (case hm2 => k_is)
    (case lc2 => k_is)
    (case ty2 => k_is)
    (case ss2 => k_is)
    (case sv2 => k_is)
    (case a3 => k_is)
    (case hg3 => k_is)
    (case hk3 => k_is)
    (case hs3 => k_is)
    (case hd3 => k_is)
    (case ha3 => k_is)
    (case hm3 => k_is)
    (case lc3 => k_is)
    (case ty3 => k_is)
    (case ss3 => k_is)
    (case sv3 => k_is)
    (case a4 => k_is)
    (case hg4 => k_is)
    (case hk4 => k_is)
    (case hs4 => k_is)
    (case hd4 => k_is)
    (case ha4 => k_is)
    (case hm4 => k_is)
    (case lc4 => k_is)
    (case ty4 => k_is)
    (case ss4 => k_is)
    (case sv4 => k_is)
    (case a5 => k_is)
    (case hg5 => k_is)
    (case hk5 => k_is)
    (case hs5 => k_is)
    (case hd5 => k_is)
    (case ha5 => k_is)
    (case hm5 => k_is)
    (case lc5 => k_is)
    (case ty5 => k_is)
    (case ss5 => k_is)
    (case sv5 => k_is)
    (case a6 => k_is)
    (case hg6 => k_is)
    (case hk6 => k_is)
    (case hs6 => k_is)
    (case hd6 => k_is)
    (case ha6 => k_is)
    (case hm6 => k_is)
    (case lc6 => k_is)
    (case ty6 => k_is)
    (case ss6 => k_is)
    (case sv6 => k_is)
    (case a7 => k_is)
    (case hg7 => k_is)
    (case hk7 => k_is)
    (case hs7 => k_is)
    (case hd7 => k_is)
    (case ha7 => k_is)
    (case hm7 => k_is)
    (case lc7 => k_is)
    (case ty7 => k_is)
    (case ss7 => k_is)
    (case sv7 => k_is)
    (case a8 => k_is)
    (case hg8 => k_is)
    (case hk8 => k_is)
    (case hs8 => k_is)
    (case hd8 => k_is)
    (case ha8 => k_is)
    (case hm8 => k_is)
    (case lc8 => k_is)
    (case ty8 => k_is)
    (case ss8 => k_is)
    (case sv8 => k_is)
    (case s00 => k_is)
    (case s01 => k_is)
    (case s02 => k_is)
    (case s03 => k_is)
    (case s04 => k_is)
    (case s05 => k_is)
    (case s06 => k_is)
    (case s07 => k_is)
    (case s08 => k_is)
    (case s10 => k_is)
    (case s11 => k_is)
    (case s12 => k_is)
    (case s13 => k_is)
    (case s14 => k_is)
    (case s15 => k_is)
    (case s16 => k_is)
    (case s17 => k_is)
    (case s18 => k_is)
    (case s20 => k_is)
    (case s21 => k_is)
    (case s22 => k_is)
    (case s23 => k_is)
    (case s24 => k_is)
    (case s25 => k_is)
    (case s26 => k_is)
    (case s27 => k_is)
    (case s28 => k_is)
    (case s30 => k_is)
    (case s31 => k_is)
    (case s32 => k_is)
    (case s33 => k_is)
    (case s34 => k_is)
    (case s35 => k_is)
    (case s36 => k_is)
    (case s37 => k_is)
    (case s38 => k_is)
    (case s40 => k_is)
    (case s41 => k_is)
    (case s42 => k_is)
    (case s43 => k_is)
    (case s44 => k_is)
    (case s45 => k_is)
    (case s46 => k_is)
    (case s47 => k_is)
    (case s48 => k_is)
    (case s50 => k_is)
    (case s51 => k_is)
    (case s52 => k_is)
    (case s53 => k_is)
    (case s54 => k_is)
    (case s55 => k_is)
    (case s56 => k_is)
    (case s57 => k_is)
    (case s58 => k_is)
    (case s60 => k_is)
    (case s61 => k_is)
    (case s62 => k_is)
    (case s63 => k_is)
    (case s64 => k_is)
    (case s65 => k_is)
    (case s66 => k_is)
    (case s67 => k_is)
    (case s68 => k_is)
    (case s70 => k_is)
    (case s71 => k_is)
    (case s72 => k_is)
    (case s73 => k_is)
    (case s74 => k_is)
    (case s75 => k_is)
    (case s76 => k_is)
    (case s77 => k_is)
    (case s78 => k_is)
    (case s80 => k_is)
    (case s81 => k_is)
    (case s82 => k_is)
    (case s83 => k_is)
    (case s84 => k_is)
    (case s85 => k_is)
    (case s86 => k_is)
    (case s87 => k_is)
    (case s88 => k_is)
    (case kp1 => k_is)
    (case x1 => k_is)
    (case rv1 => decide +kernel)
    (case sa1 => k_is)
    (case na1 => k_is)
    (case in1 => k_is)
    (case tf1 => k_is)
    (case l_g1 => k_is)
    (case c_g1 => k_is)
    (case k_g1 => k_is)
