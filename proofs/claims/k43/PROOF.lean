import PyProof.Rows.All
import Wide.All
import OpenK.AllK
import Wide.FinOn
import PyProof.EqAt
import PyProof.EqKinds
import PyProof.TupleCall
import PySem.Challenge.RW_sparecut_k43_how_many_are_needed
import HandS.ForMost
import HandS.Evl
import HandS.Conv
import HandS.Exc
import HandS.ExcOwn
import HandS.ExcInit
import HandS.ExcValue
import HandS.ExcIs
import KE.KExcIs
import KE.KxText
import HandS.AnyAll
import HandS.GenOver
import HandS.GenList
import HandS.SortInts
import HandS.TupAny
import HandS.TupMul
import HandS.Strs
import HandS.IsInst
import HandS.EndTab
import HandS.EndOwn
import HandS.SetFor
import KE.KNestM
import KE.GoesEnum
import HandS.FStr
import HandS.RaiseMore
import KE.DatumOrd
import HandS.Zip
import HandS.Style
import HandS.RevRange
import HandS.TryOnly
import HandS.WordsExc
import KE.LtData
import HandS.TupLe
import HandS.ExcField
import HandS.Dict
import HandS.More
import HandS.WordsDict
import HandS.SetKeys
import HandS.DictComp
import KE.GoesMore
import HandS.DictTup
import HandS.TupLen
import HandS.Walk
import HandS.TupSets
import HandS.Iter
import HandS.ForDict
import HandS.Deep
import HandS.Text
import HandS.StrMore
import KE.IntTextLaws
import KE.KDictCopyH
import KE.KDictDisplayH
import PyProof.DictMoreH
set_option Elab.async false
set_option linter.all false
set_option maxRecDepth 100000
set_option maxHeartbeats 2000000
namespace Nw
open PySem PySem.Spec PyProof.Rows L2
/-! ### readings that hide the heap: what is new is told by its facts alone -/
theorem same_new {H : Hp} {p : Addr} {o : HO} (h : H p = none) : Same H (upd H p o) := fun b x e => by
  rw [upd_ne (ne_of_none e h)]
  exact e
theorem sqt {K : PySem.W.Frag} {H H' : Hp} {a : Addr} {xs : List V} (e : Same H H') (h : SqT K H a xs) : SqT K H' a xs := by
  rcases h with (h | ⟨o, h⟩) | h
  · exact .inl (.inl (e _ _ h))
  · exact .inl (.inr ⟨o, e _ _ h⟩)
  · exact .inr h
/-- a new object o at a place of its own -/
def New (H : Hp) (o : HO) (Q : VK) : Prop := ∀ p H2, H p = none → Same H H2 → H2 p = some o → (∀ b, b ≠ p → H2 b = H b) → Q (.ref p) H2
theorem New.to {H : Hp} {o : HO} {Q : VK} (h : New H o Q) : ∀ p, H p = none → Q (.ref p) (upd H p o) := fun p n => h p _ n (same_new n) upd_same fun b nb => upd_ne nb
section
variable {X : Cx} {e : Expr} {es : List Expr} {t t' : TE} {ta : TA} {pos : Pos}
theorem pe_weak (h : PE X e t) (i : ∀ σ H Q, t' σ H Q → t σ H Q) : PE X e t' := ⟨fun pins s σ H Q I q => h.run pins s σ H Q I (i σ H Q q)⟩
theorem op_weak {f : Value → Value → Sem Value} {r r' : R2} (h : OpR X f r) (i : ∀ x y H Q, r' x y H Q → r x y H Q) : OpR X f r' := fun pins s σ H x y v u Q I rx ry q => h pins s σ H x y v u Q I rx ry (i x y H Q q)
theorem call_weak {f : Value} {r r' : List V → Hp → VK → Prop} (h : CallR X f r) (i : ∀ xs H Q, r' xs H Q → r xs H Q) : CallR X f r' := fun pins s σ H xs us Q I rx q => h pins s σ H xs us Q I rx (i xs H Q q)
theorem mt_weak {id : String} {r r' : V → List V → Hp → VK → Prop} (h : MtR X id r) (i : ∀ x xs H Q, r' x xs H Q → r x xs H Q) : MtR X id r' := fun pins s σ H x xs v us Q I rx rs q => h pins s σ H x xs v us Q I rx rs (i x xs H Q q)
theorem sl_weak {r r' : V → Option Int → Option Int → Hp → VK → Prop} (h : SlR X r) (i : ∀ x lo hi H Q, r' x lo hi H Q → r x lo hi H Q) : SlR X r' := fun pins s σ H x v vl vu lo hi sl Q I rx a b c q => h pins s σ H x v vl vu lo hi sl Q I rx a b c (i x lo hi H Q q)
/-- what follows may be asked for less -/
def clA (t : TA) : TA := fun σ H R => ∃ R' : List V → Hp → Prop, (∀ xs H1, R' xs H1 → R xs H1) ∧ t σ H R'
theorem pa_cl (h : PA X es ta) : PA X es (clA ta) := ⟨fun ps pins s σ H Q I ⟨R', i, q⟩ => thn (h.run ps pins s σ H R' I q) fun us s1 ⟨vs, H1, I1, r1, q1⟩ => ⟨vs, H1, I1, r1, i vs H1 q1⟩⟩
def clE (t : TE) : TE := fun σ H R => ∃ R' : VK, (∀ v H1, R' v H1 → R v H1) ∧ t σ H R'
theorem pe_cl (h : PE X e t) : PE X e (clE t) := ⟨fun pins s σ H Q I ⟨R', i, q⟩ => thn (h.run pins s σ H R' I q) fun u s1 ⟨v, H1, I1, r1, q1⟩ => ⟨v, H1, I1, r1, i v H1 q1⟩⟩
def nLst (t : TA) : TE := fun σ H Q => t σ H fun xs H1 => xs.length ≤ sizeLine ∧ New H1 (.lst xs) Q
def nTup (t : TA) : TE := fun σ H Q => t σ H fun xs H1 => xs.length ≤ sizeLine ∧ New H1 (.tup xs) Q
theorem pe_lstN (h : PA X es ta) : PE X (.List es pos) (nLst ta) := pe_weak (pe_lst (pa_cl h)) fun _ _ _ q => ⟨_, fun _ _ z => ⟨z.1, z.2.to⟩, q⟩
theorem pe_tupN {x1} (h : PA X es ta) : PE X (.Tuple es x1 pos) (nTup ta) := pe_weak (pe_tup (pa_cl h)) fun _ _ _ q => ⟨_, fun _ _ z => ⟨z.1, z.2.to⟩, q⟩
/-- xs + ys (lists) -/
def rCatN : R2 := fun x y H Q => ∃ p q xs ys, x = .ref p ∧ y = .ref q ∧ H p = some (.lst xs) ∧ H q = some (.lst ys) ∧ xs.length + ys.length ≤ sizeLine ∧ New H (.lst (xs ++ ys)) Q
theorem op_catN : OpR X (binaryOp .Add) rCatN := op_weak op_cat fun x y H Q ⟨p, q, xs, ys, h1, h2, h3, h4, h5, h6⟩ => ⟨p, q, xs, ys, h1, h2, h3, h4, h5, h6.to⟩
/-- a tuple of xs, new or not -/
def ResT (H : Hp) (xs : List V) (Q : VK) : Prop := ∀ p H2, Same H H2 → H2 p = some (.tup xs) → Q (.ref p) H2
theorem call_list_ofN : CallR X (.type "list") (fun xs H Q => ∃ p ys, xs = [.ref p] ∧ (SqL X.K H p ys ∨ SqT X.K H p ys) ∧ New H (.lst ys) Q) := call_weak call_list_of fun _ _ _ ⟨p, ys, h1, h2, h3⟩ => ⟨p, ys, h1, h2, h3.to⟩
theorem call_tuple_ofN : CallR X (.type "tuple") (fun xs H Q => ∃ p ys, xs = [.ref p] ∧ SqL X.K H p ys ∧ New H (.tup ys) Q) := call_weak call_tuple_of fun _ _ _ ⟨p, ys, h1, h2, h3⟩ => ⟨p, ys, h1, .inl ⟨h2, h3.to⟩⟩
theorem sl_listN : SlR X (fun x lo hi H Q => ∃ a xs, x = .ref a ∧ SqL X.K H a xs ∧ New H (.lst (cutV xs lo hi)) Q) := sl_weak sl_list fun _ _ _ _ _ ⟨a, xs, h1, h2, h3⟩ => ⟨a, xs, h1, h2, h3.to⟩
end
/-! ### data by its values -/
theorem dp_bls {K : PySem.W.Frag} {H : Hp} : ∀ bs : List Bool, DpAll K H (bs.map V.bl) (bs.map PyData.bool)
  | [] => .nil
  | b :: r => .cons (.bl b) (dp_bls r)
theorem dp_ints {K : PySem.W.Frag} {H : Hp} : ∀ ns : List Int, DpAll K H (ns.map V.int) (ns.map PyData.int)
  | [] => .nil
  | b :: r => .cons (.int b) (dp_ints r)
/-- flat data: numbers, truths, None -/
def flatD : PyData → Bool
  | .none | .bool _ | .int _ => true
  | _ => false
theorem flat_lay : ∀ ds : List PyData, ds.all flatD = true → PyData.canLayAll0 ds = true
  | [], _ => rfl
  | d :: r, h => by
    rw [List.all_cons, Bool.and_eq_true] at h
    show (PyData.canLay0 d && PyData.canLayAll0 r) = true
    rw [flat_lay r h.2, Bool.and_true]
    cases d <;> first | rfl | exact Bool.noConfusion h.1
theorem flat_depth : ∀ ds : List PyData, ds.all flatD = true → PyData.depthAll ds ≤ 1
  | [], _ => by decide
  | d :: r, h => by
    rw [List.all_cons, Bool.and_eq_true] at h
    have ih := flat_depth r h.2
    have hd : PyData.depth d ≤ 1 := by
      cases d <;> first | decide | exact Bool.noConfusion h.1 | exact Nat.zero_le _ | exact Nat.le_refl _
    show Nat.max (PyData.depth d) (PyData.depthAll r) ≤ 1
    exact Nat.max_le.mpr ⟨hd, ih⟩
theorem shaped_list {ds : List PyData} (h : ds.all flatD = true) : SeqAt.shaped (.list ds) = true := by
  have e := flat_depth ds h
  have e2 : PyData.depth (.list ds) ≤ 64 := by
    show PyData.depthAll ds + 1 ≤ 64
    omega
  show (PyData.canLayAll0 ds && decide (PyData.depth (.list ds) ≤ 64)) = true
  rw [flat_lay ds h, decide_eq_true e2]
  rfl
theorem shaped_tuple {ds : List PyData} (h : ds.all flatD = true) : SeqAt.shaped (.tuple ds) = true := by
  have e := flat_depth ds h
  have e2 : PyData.depth (.tuple ds) ≤ 64 := by
    show PyData.depthAll ds + 1 ≤ 64
    omega
  show (PyData.canLayAll0 ds && decide (PyData.depth (.tuple ds) ≤ 64)) = true
  rw [flat_lay ds h, decide_eq_true e2]
  rfl
theorem flat_bls (bs : List Bool) : (bs.map PyData.bool).all flatD = true := by
  rw [List.all_map, List.all_eq_true]
  exact fun _ _ => rfl
theorem flat_ints (ns : List Int) : (ns.map PyData.int).all flatD = true := by
  rw [List.all_map, List.all_eq_true]
  exact fun _ _ => rfl
theorem eqv_self {d : PyData} (h : SeqAt.shaped d = true) : PyData.eqv d d = true := SeqAt.eqv_refl d (SeqAt.canLay_of_shaped h)
end Nw
namespace Nw
open PySem PySem.Spec PyProof.Rows L2
section
variable {X : Cx}
theorem cr_sortedN : CallR X (.builtin "sorted") (fun vs H Q => ∃ (a : Addr) (ns : List Int), vs = [V.ref a] ∧ SqL X.K H a (ns.map V.int) ∧ ∀ ns' : List Int, ns'.Perm ns → ns'.Pairwise (· ≤ ·) → New H (.lst (ns'.map V.int)) Q) :=
  call_weak cr_sortedI fun _ _ _ ⟨a, ns, h1, h2, h3⟩ => ⟨a, ns, h1, h2, fun ns' p hp hs np => (h3 ns' hp hs).to p np⟩
theorem cutV_all {xs : List V} {lo hi : Option Int} (h : HT.sIx xs.length 0 lo = 0 ∧ HT.sIx xs.length xs.length hi = xs.length) : cutV xs lo hi = xs := by
  unfold cutV
  rw [h.1, h.2]
  exact List.take_length
theorem sl_tupN : SlR X (fun x lo hi H Q => ∃ a xs, x = .ref a ∧ H a = some (.tup xs) ∧ ResT H (cutV xs lo hi) Q) := sl_weak sl_tupA fun _ lo hi H Q ⟨a, xs, h1, h2, h3⟩ =>
  ⟨a, xs, h1, .of h2, fun z => h3 a H (Same.refl H) (by rw [cutV_all z]; exact h2), fun _ p np => h3 p _ (same_new np) upd_same⟩
theorem op_catTN : OpR X (binaryOp .Add) (fun x y H Q => ∃ a b xs ys, x = .ref a ∧ y = .ref b ∧ H a = some (.tup xs) ∧ H b = some (.tup ys) ∧ xs.length + ys.length ≤ sizeLine ∧ ResT H (xs ++ ys) Q) :=
  op_weak op_catA fun _ _ H Q ⟨a, b, xs, ys, h1, h2, h3, h4, h5, h6⟩ => ⟨a, b, xs, ys, h1, h2, .of h3, .of h4, h5, fun z => h6 b H (Same.refl H) (by rw [z]; exact h4), fun _ z => h6 a H (Same.refl H) (by rw [z, List.append_nil]; exact h3), fun _ _ p np => h6 p _ (same_new np) upd_same⟩
theorem op_repTN : OpR X (binaryOp .Mult) (fun x y H Q => ∃ l k xs, x = .ref l ∧ y = .int k ∧ H l = some (.tup xs) ∧ xs ≠ [] ∧ 2 ≤ k ∧ k ≤ 1000 ∧ xs.length ≤ 1000 ∧ ResT H (List.replicate k.toNat xs).flatten Q) :=
  op_weak op_repT fun _ _ H Q ⟨l, k, xs, h1, h2, h3, h4, h5, h6, h7, h8⟩ => ⟨l, k, xs, h1, h2, .of h3, h4, h5, h6, h7, fun p np => h8 p _ (same_new np) upd_same⟩
/-! the same rules with the written part by its name (for comprehensions' blocks) -/
variable {K : PySem.W.Frag}
theorem ix_tupB (h : X.K = K) : IxR X (rIxT K) := by subst h; exact ix_tup
theorem ix_listB (h : X.K = K) : IxR X (rIxL K) := by subst h; exact ix_list
theorem op_in_seqB (h : X.K = K) : OpR X (compareOp .In) (rIn K false) := by subst h; exact op_in_seq
theorem op_notIn_seqB (h : X.K = K) : OpR X (compareOp .NotIn) (rIn K true) := by subst h; exact op_notIn_seq
theorem call_len_seqB (h : X.K = K) : CallR X (.builtin "len") (fun xs H Q => ∃ p ys, xs = [.ref p] ∧ (SqL K H p ys ∨ SqT K H p ys) ∧ Q (.int ys.length) H) := by subst h; exact call_len_seq
theorem call_isiB (h : X.K = K) : CallR X (.builtin "isinstance") (rIsi K) := by subst h; exact call_isi
theorem op_eqDB (h : X.K = K) (hu : X.A.units + 64 < cLine) : OpR X (compareOp .Eq) (rEqD K) := by subst h; exact op_eqD hu
theorem op_neDB (h : X.K = K) (hu : X.A.units + 64 < cLine) : OpR X (compareOp .NotEq) (rNeD K) := by subst h; exact op_neD hu
end
end Nw
namespace Ev1
open PySem PySem.Spec PyProof.Rows L2 Nw
/-! ### exceptions as values -/
/-- at a an exception of the class cls, its dict d -/
def ExV (cls : Value) (d : Option Addr) (a : Addr) : HO := .ext fun h => ∃ (oe : Obj) (vs : Array Value), h.get? a = some oe ∧ Zc cls d oe ∧ oe.data = .fields vs
/-- an exception that was made of the class cls, its dict d: it stands at a place of its own -/
def Made (H1 : Hp) (cls : Value) (d : Option Addr) (Q : VK) : Prop := ∀ a H3, H1 a = none → Same H1 H3 → H3 a = some (ExV cls d a) → Q (.ref a) H3
theorem pe_made {X : Cx} {e : Expr} {t : L2.St → Hp → XK → Prop} (m : PMk X e t) : PE X e (fun σ H Q => t σ H fun cls d H1 => Made H1 cls d Q) := by
  refine ⟨fun pins s σ H Q I h => thn (m pins s σ H _ I h) fun u s1 z => ?_⟩
  obtain ⟨a, oe, vs, sI, H1, cls, d, rfl, J, k, na, ha, hz, hd, _, ha1, os, ag, _, q⟩ := z
  have new : ObjOk X.prog X.w (upd H1 a (ExV cls d a)) s1.heap a (ExV cls d a) := ⟨⟨oe, vs, ha, hz, hd⟩, ⟨oe, ha⟩, fun h1 h2 ⟨o, v, y, r⟩ i => ⟨o, v, i o y, r⟩⟩
  exact ⟨.ref a, upd H1 a (ExV cls d a), J.call' (ch := []) os (Un.laidN k na ha1) (J.hok.laidN k ha1 new) ag (fun b y => absurd y (by simp)), rfl, q a _ ha1 (same_new ha1) upd_same⟩
/-- at a an exception of the class D, with the field at = y -/
def ExF (H : Hp) (a D : Addr) (y : V) : Prop := ∃ dx, H a = some (ExV (.ref D) (some dx) a) ∧ H dx = some (.xd [(("at" : Str), y)])
/-- at a an exception of the class D -/
def ExAt (H : Hp) (a D : Addr) : Prop := H a = some (ExO (.ref D) a) ∨ ∃ y, ExF H a D y
theorem ExF.same {H H' : Hp} {a D : Addr} {y : V} (h : ExF H a D y) (s : Same H H') : ExF H' a D y := by
  obtain ⟨dx, h1, h2⟩ := h
  exact ⟨dx, s _ _ h1, s _ _ h2⟩
theorem ExAt.same {H H' : Hp} {a D : Addr} (h : ExAt H a D) (s : Same H H') : ExAt H' a D := by
  rcases h with h | ⟨y, h⟩
  · exact .inl (s _ _ h)
  · exact .inr ⟨y, h.same s⟩
theorem notCls_of {o : Obj} {vs : Array Value} (hd : o.data = .fields vs) : PySem.W.notCls o = true := by
  unfold PySem.W.notCls
  rw [hd]
section
variable {X : Cx} {pins : List (Addr × Obj)} {σ : L2.St} {H : Hp} {s : Shared} {a D : Addr} {y : V}
theorem ExF.inst (I : Inv X pins σ H s) (h : ExF H a D y) : ∃ ox od u, PySem.W.InstAt s.heap a ox D (some od) ∧ PySem.W.lookIn "at" od = some (some u) ∧ RelV y u := by
  obtain ⟨dx, h1, h2⟩ := h
  have z1 : ObjOk X.prog X.w H s.heap a (.ext fun h => ∃ (oe : Obj) (vs : Array Value), h.get? a = some oe ∧ Zc (.ref D) (some dx) oe ∧ oe.data = .fields vs) := I.hok a _ h1
  obtain ⟨⟨oe, vs, ha, ⟨hc, hd⟩, hv⟩, _⟩ := z1
  have z2 : ObjOk X.prog X.w H s.heap dx (.xd [(("at" : Str), y)]) := I.hok dx _ h2
  obtain ⟨mA, hn, hr⟩ := z2
  obtain ⟨od, ho, hl⟩ := lookIn_ns hn
  have l : List.lookup ("at" : Str) [(("at" : Str), y)] = some y := by simp [List.lookup]
  obtain ⟨u, hu, ru⟩ := RelO.some_of (v := y) (o := mA "at") (by rw [← l]; exact hr "at")
  exact ⟨oe, od, u, ⟨ha, hc, notCls_of hv, by rw [hd]; exact ho⟩, by rw [hl, hu], ru⟩
theorem ExAt.inst (I : Inv X pins σ H s) (h : ExAt H a D) : ∃ ox od, PySem.W.InstAt s.heap a ox D od := by
  rcases h with h | ⟨y, h⟩
  · obtain ⟨⟨oe, vs, ha, ⟨hc, hd⟩, hv, _⟩, _⟩ := I.hok a _ h
    exact ⟨oe, none, ⟨ha, hc, notCls_of hv, by rw [hd]; exact trivial⟩⟩
  · obtain ⟨ox, od, _, J, _⟩ := h.inst I
    exact ⟨ox, some od, J⟩
end
/-- X(e), X an own class without own __init__ -/
def tExN (C : Addr) (te : TE) : TE := fun σ H Q => te σ H fun _ H1 => ∀ a H2, H1 a = none → Same H1 H2 → H2 a = some (ExO (.ref C) a) → Q (.ref a) H2
theorem pe_excN {X : Cx} {C : Addr} {bmB : List Value} {B newId initId : String} {x : Str} {e : Expr} {te : TE} {p pos : Pos} (F : ExcBaseFacts B newId initId bmB) (q : PySem.W.excIn X.K C bmB newId = true) (gC : X.mg x = some (.ref C)) (kC : PySem.W.keepIn X.K (.ref C) = true) (hg : Gl X x)
    (he : PE X e te) (hs : starEach [e] X.env = (false, eval e X.env) :: starEach [] X.env := by rfl) (hdb : (x == ("__debug__" : Str)) = false := by decide) : PE X (.Call (.Name x p) [e] [] pos) (tExN C te) :=
  pe_weak (pe_exc1 F q gC kC hg (pe_cl he) hs hdb) fun _ _ _ h => ⟨_, fun _ _ z a na => z a _ na (same_new na) upd_same, h⟩
/-- isinstance(e, c) of an exception -/
def rIsX (K : PySem.W.Frag) : List V → Hp → VK → Prop := fun xs H Q => ∃ (a D : Addr) (c : V) (cv : Value) (b : Bool), xs = [.ref a, c] ∧ ExAt H a D ∧ ExcC K D ∧ (∀ u, RelV c u → u = cv) ∧ PySem.W.kitOne K (.ref D) cv = some b ∧ Q (.bl b) H
theorem call_isX {X : Cx} : CallR X (.builtin "isinstance") (rIsX X.K) := by
  intro pins s σ H xs us Q I r h
  obtain ⟨a, D, c, cv, b, rfl, hE, C, hcv, e, q⟩ := h
  cases r with
  | cons rx rr =>
    cases rr with
    | cons rt rr =>
      cases rr
      cases rx
      have ec := hcv _ rt
      subst ec
      obtain ⟨ox, od, J⟩ := hE.inst I
      have cl : (PySem.W.clsIn X.K D).isSome = true := by
        obtain ⟨cd, hc, _⟩ := PySem.W.any_some C.hd
        rw [hc]
        rfl
      exact PySem.W.kia_one (PySem.W.kitx_exc cl C.hg C.hk C.hs C.ha C.hn C.ht C.hm) I.kIn J e (fun z => nomatch z) fun tk => ⟨.bl b, H, I.kept (t' := tk) fun _ _ z => z, rfl, q⟩
/-- e.at of an exception -/
def tAtX (K : PySem.W.Frag) (te : TE) : TE := fun σ H Q => te σ H fun x H1 => ∃ (a D : Addr) (y : V), x = .ref a ∧ ExF H1 a D y ∧ ExcC K D ∧ PySem.W.findIn K (.ref D) "at" = some none ∧ Q y H1
theorem pe_atX {X : Cx} {e : Expr} {te : TE} {pos : Pos} (he : PE X e te) (hb : attributeBase e "at" X.env (eval e X.env) = eval e X.env := by rfl) : PE X (.Attribute e "at" pos) (tAtX X.K te) := by
  refine ⟨fun pins s σ H Q I h => attr_of hb (thn (he.run pins s σ H _ I h) fun u s1 hh => ?_)⟩
  obtain ⟨x, H1, I1, rx, a, D, y, rfl, hE, C, nf, q⟩ := hh
  cases rx
  obtain ⟨ox, od, u, J, l, ru⟩ := hE.inst I1
  exact HandSPX.exc_get I1.kIn J C.hg C.hk C.hs (PySem.W.findObj_own C.hd nf rfl l) (handed_of ru) ⟨y, H1, I1.tok _, ru, q⟩
/-- the promise of «def __init__(self, at): self.at = at» -/
def spInit (K : PySem.W.Frag) : Sp := fun vs H Q _ => ∃ (a C : Addr) (y : V), vs = [.ref a, y] ∧ OexC K C ∧ PySem.W.findIn K (.ref C) "at" = some none ∧ H a = some (exo a C none) ∧
  ∀ dx, H dx = none → dx ≠ a → Q .non (upd (upd H dx (exd dx [(("at" : Str), y)])) a (exo a C (some dx)))
theorem del_new {H1 : Hp} {a dx : Addr} {o1 o2 o3 : HO} (na : H1 a = none) (ne : dx ≠ a) : del (upd (upd (upd H1 a o1) dx o2) a o3) a = upd H1 dx o2 := by
  funext b
  by_cases hb : b = a
  · subst hb
    rw [del_same, upd_ne (Ne.symm ne), na]
  · rw [del_ne hb, upd_ne hb]
    by_cases hd : b = dx
    · subst hd
      rw [upd_same, upd_same]
    · rw [upd_ne hd, upd_ne hd, upd_ne hb]
/-- what C(y) asks, C with that __init__: the exception and its field -/
theorem made_F {K : PySem.W.Frag} {C : Addr} {y : V} {H1 : Hp} {Q : VK} (T : OexC K C) (nf : PySem.W.findIn K (.ref C) "at" = some none) (h : ∀ a H2, H1 a = none → Same H1 H2 → ExF H2 a C y → Q (.ref a) H2) :
    [y].length ≤ 1000 ∧ ∀ a, H1 a = none → spInit K (.ref a :: ([y] ++ [])) (upd H1 a (exo a C none)) (fun v H2 => v = .non ∧ ∃ (d : Addr) (fs : List (Str × V)), H2 a = some (exo a C (some d)) ∧ H2 d = some (exd d fs) ∧ H1 d = none ∧
      Made (upd (del H2 a) d (.xd fs)) (Value.ref C) (some d) Q) (fun _ _ _ => False) := by
  refine ⟨by simp, fun a na => ⟨a, C, y, rfl, T, nf, upd_same, fun dx nd ne => ?_⟩⟩
  have nd1 : H1 dx = none := by
    rw [upd_ne ne] at nd
    exact nd
  refine ⟨rfl, dx, [(("at" : Str), y)], upd_same, by rw [upd_ne ne, upd_same], nd1, ?_⟩
  rw [del_new na ne, upd_upd]
  intro b H3 nb s3 e3
  have sd : Same H1 (upd H1 dx (.xd [(("at" : Str), y)])) := same_new nd1
  exact h b H3 (sd.free nb) (sd.trans s3) ⟨dx, e3, s3 _ _ upd_same⟩
end Ev1
namespace Gx
open PySem PySem.Spec PyProof.Rows L2 GxR
/-! ### any, all of a generator expression whose element is run by the layer's own rules -/
/-- the generator's frame running, awake under any | all -/
abbrev gCx (X : Cx) (ge : Expr) (s : Shared) (H : Hp) (cenv : Env) (it : Addr) (fp : List Addr) (pn : List (Addr × Obj)) : Cx :=
  { X with
    s_0 := s
    H_0 := H
    env := cenv
    outer := X.stack
    stack := cenv :: X.stack
    ex := fp
    fn := fun _ => false
    pn := pn
    xe := fun _ _ => False
    A := X.A.in1.in1.over (.compLoop ge 0 (.ref it) .none cenv) [] }
theorem room_gen {k : Nat} {X : Cx} {elt : Expr} {gs : List Comprehension} {scope : Scope} {pos : Pos} {s : Shared} {H : Hp} {cenv : Env} {it : Addr} {fp : List Addr} {pn : List (Addr × Obj)} (r : Room (k + 1) X.A) :
    Room k (gCx X (.GeneratorExp elt gs scope pos) s H cenv it fp pn).A := by
  refine ⟨r.hd, ?_, ?_⟩
  · have := r.dp
    show X.A.depth + 0 + 1 + 3 * k + 5 < recursionLimit
    omega
  · have := r.un
    show X.A.units + 1 + 1 + 0 + 3 + 16 * k + 200 < cLine
    omega
/-- gens, drawn and toks say nothing but that all are bare -/
theorem inv_gens {X : Cx} {pins : List (Addr × Obj)} {σ : L2.St} {H : Hp} {s s' : Shared} (I : Inv X pins σ H s) (hh : s'.heap = s.heap) (ho : s'.os = s.os) (hb : AllBare s'.gens) : Inv X pins σ H s' := by
  obtain ⟨h, g, d, t, o⟩ := s
  obtain ⟨h', g', d', t', o'⟩ := s'
  dsimp only at hh ho hb
  subst hh ho
  exact { ok := I.ok, os := I.os, bare := hb, base := I.base, loc := I.loc, cell := I.cell, free := I.free, freeC := I.freeC, pin := I.pin, hok := I.hok, len := I.len }
theorem bare_set {s : Shared} {g : Nat} {x : GenState} (h : AllBare s.gens) (hx : x.bare = true) : AllBare (s.setGen g x).gens := by
  intro y hy
  have hy' : y ∈ s.gens.setIfInBounds g x := hy
  obtain ⟨i, hi, e⟩ := Array.mem_iff_getElem.mp hy'
  by_cases hg : g = i
  · subst hg
    rw [Array.getElem_setIfInBounds_self] at e
    rw [← e]
    exact hx
  · rw [Array.getElem_setIfInBounds_ne (by simpa using hi) hg] at e
    rw [← e]
    exact h _ (Array.getElem_mem _)
section
variable {X : Cx} {pins : List (Addr × Obj)} {σ : L2.St} {H : Hp} {s : Shared}
/-- what the frame of the generator knows as it begins -/
theorem gen_start {ge : Expr} {scope : Scope} {own : List (Str × Nat)} {fp : List Addr} {it a : Addr} {code : Value} {go : Obj} {gs : Array GenState} {tk : Nat} {h5 : Heap} {m : Str → Option Value} (I : Inv X pins σ H s) (hc : X.calm = true) (ok : BlkOk X.N X.env.scope scope own) (hN : X.N.Nodup)
    (nc : ∀ y ∈ scope.names, y.2 ≠ .cell) (hfp : ∀ b ∈ fp, FpOk X pins H b ∧ b < s.heap.objs.size) (fr : (X.A.in1.in1.over (.compLoop ge 0 (.ref it) .none (genEnv scope (cloFrom X.env.cells scope.names []) s.heap.objs.size code builtinsNs X.env)) []).frames = some (genEnv scope (cloFrom X.env.cells scope.names []) s.heap.objs.size code builtinsNs X.env :: X.stack))
    (hg : AllBare gs) (kp : ∀ b o, s.heap.get? b = some o → h5.get? b = some o) (hns : h5.Ns s.heap.objs.size m) (ha : h5.get? a = some go) (ha1 : s.heap.objs.size < a) (hd : ∀ v, go.data ≠ .cell v) :
    Inv (gCx X ge s H (genEnv scope (cloFrom X.env.cells scope.names []) s.heap.objs.size code builtinsNs X.env) it fp [(a, go)]) [] (wipe σ (own.map (·.2))) H { s with gens := gs, toks := tk, heap := h5 } := by
  have cm : ∀ {y : Str} {c : Addr}, (cloFrom X.env.cells scope.names []).lookup y = some c → X.env.cells.lookup y = some c := fun {y c} e => by
    rcases cloFrom_mem (PySem.mem_of_lookup e) with z | ⟨h1, z⟩
    · cases z
    · have q : ∃ c', X.env.cells.lookup y = some c' := by
        rcases ok.free (y, .free) h1 rfl with k | k
        · exact I.ok.has y (.inl k)
        · exact I.ok.has y (.inr k)
      obtain ⟨c', q⟩ := q
      rw [q] at z
      rw [q, z]
      rfl
  have ch : ∀ {y : Str}, scope.names.lookup y = some .free → ∃ c, (cloFrom X.env.cells scope.names []).lookup y = some c := fun {y} e => mem_lookup (cloFrom_has (PySem.mem_of_lookup e))
  have noc : ∀ {y : Str}, scope.names.lookup y ≠ some .cell := fun {y} e => nc _ (PySem.mem_of_lookup e) rfl
  have stL : ∀ b ∈ frs X.stack, b < s.heap.objs.size := fun b hb => by
    obtain ⟨_, o, e, _⟩ := I.stack.mem hb
    exact Heap.lt_size e
  have okG : (gCx X ge s H (genEnv scope (cloFrom X.env.cells scope.names []) s.heap.objs.size code builtinsNs X.env) it fp [(a, go)]).Ok := {
    mod := I.ok.mod
    kind := ok.kind
    glob := I.ok.glob
    blt := rfl
    above := Nat.le_refl _
    inj := fun x y c h1 h2 => I.ok.inj x y c (cm h1) (cm h2)
    has := fun x h => h.elim (fun k => absurd k noc) fun k => ch k
    cab := fun x c h => Bool.noConfusion h
    hd := fun h => I.ok.hd h
    frames := fr
    stk := .inr ⟨rfl, rfl⟩
    exf := fun b hb => ⟨Nat.ne_of_lt (hfp b hb).2, fun x c e => (hfp b hb).1.2.2.2.2.1 x c (cm e)⟩
    bs := I.bs
    bsz := Nat.le_trans I.ok.bsz I.sz
    noex := fun b o e hb => by
      rcases (hfp b hb).1.2.2.2.1 with z | z
      · exact I.ok.noex b o e z
      · exact Nat.lt_irrefl _ (Nat.lt_of_lt_of_le (Heap.lt_size e) (Nat.le_trans I.ok.bsz z))
    exfs := fun b hb z => by
      rcases List.mem_cons.mp (I.stkSub b z) with y | y
      · exact (hfp b hb).1.2.1 y
      · exact (hfp b hb).1.2.2.1 y
    funs := I.stack
    frf := I.stkFree }
  refine { ok := okG, os := rfl, bare := hg, base := Un.kept kp, loc := ⟨m, hns, fun i x v e1 e2 e3 => ?_⟩, cell := fun x c e => ?_, free := I.hok.fresh (Nat.le_refl _), freeC := fun x c e => I.freeC x c (cm e), pin := fun p hp => ?_, hok := I.hok.kept kp, len := (wipe_length _ _).trans I.len }
  · obtain ⟨e2, hi⟩ := wipe_some e2
    have hf : scope.names.lookup x = some .free := by
      have no : ∀ k, scope.names.lookup x = some k → ¬ (k = .local ∨ k = .cell) := fun k hk hh => by
        rcases ok.own _ (PySem.mem_of_lookup hk) hh with z | z
        · obtain ⟨p, hp, hx⟩ := List.mem_map.mp z
          have q := ok.ix p hp
          have hx' : p.1 = x := hx
          rw [hx'] at q
          exact hi (List.mem_map.mpr ⟨p, hp, nodup_ix hN q e1⟩)
        · exact z (List.mem_of_getElem? e1)
      have e3 : Vis scope x := e3
      rcases e3 with k | k | k
      · exact absurd (.inl rfl) (no _ k)
      · exact absurd (.inr rfl) (no _ k)
      · exact k
    have hv := ok.free _ (PySem.mem_of_lookup hf) rfl
    obtain ⟨m0, _, hl⟩ := I.loc
    obtain ⟨u, ru, q⟩ := hl i x v e1 e2 (.inr hv)
    refine ⟨u, ru, .inr ⟨.inr hf, ?_⟩⟩
    rcases q with ⟨k, _⟩ | ⟨_, c, ec, z⟩
    · have k' : X.env.scope.names.lookup x = some .local := k
      rcases hv with y | y
      · have y' : X.env.scope.names.lookup x = some .cell := y
        rw [k'] at y'
        cases y'
      · have y' : X.env.scope.names.lookup x = some .free := y
        rw [k'] at y'
        cases y'
    · obtain ⟨c', e'⟩ := ch hf
      have e2 := cm e'
      rw [ec] at e2
      cases e2
      exact ⟨c, e', z.keeps kp⟩
  · obtain ⟨v, z⟩ := I.cell x c (cm e)
    exact ⟨v, z.keeps kp⟩
  · have hp' : p ∈ [(a, go)] ++ ([] : List (Addr × Obj)) := hp
    have e : p = (a, go) := by simpa using hp'
    subst e
    refine ⟨ha, I.hok.fresh (Nat.le_of_lt ha1), Nat.ne_of_gt ha1, fun z => ?_, hd⟩
    exact Nat.lt_irrefl _ (Nat.lt_trans (stL _ z) ha1)
end
/-- what a turn's way through the generator must reach. stopb: the truth at which any (true), all (false) stops -/
def GEndP (Y : Cx) (σw : L2.St) (stopb : Bool) (Q : VK) : Nat → Shared → Shared → Prop := fun _ _ s => ∃ H', Inv Y [] σw H' s ∧ Q (.bl (!stopb)) H'
def GProto (Y : Cx) (σw : L2.St) (fp : List Addr) (tn : Nat → Heap → Prop) (W : Nat → Nat → Hp → Prop) (stopb : Bool) (Q : VK) : Protocol := fun n _ v s kap => ∃ (k : Bool) (H' : Hp), v = .bool k ∧ Inv Y [] σw H' s ∧
  ((k = stopb ∧ Q (.bl stopb) H') ∨ (k = !stopb ∧ ∃ i m, m < n ∧ W i m H' ∧ ∀ s'' : Shared, s''.heap = s.heap → s''.os = s.os → AllBare s''.gens → kap (.send .none) s''))
section
variable {X : Cx} {elt tg iter : Expr} {ifs : List Expr} {scope : Scope} {gpos : Pos} {s4 : Shared} {H4 : Hp} {cenv : Env} {it : Addr} {fp : List Addr} {pn : List (Addr × Obj)} {J : It} {tn : Nat → Heap → Prop} {g : TG} {tt : TT} {te : TE} {own : List Nat} {σ : L2.St} {stopb : Bool} {Q : VK} {W : Nat → Nat → Hp → Prop}
/-- the turns of the generator's own loop -/
theorem gen_loop (hc : X.calm = true) (hco : cenv.scope.isCoroutine = false) (T : Turn X.prog X.w X.K tg J fp it tn) (hpn : ∀ p ∈ pn, ∀ b ∈ fp, p.1 ≠ b)
    (pg : PG (gCx X (.GeneratorExp elt [⟨tg, iter, ifs, 0⟩] scope gpos) s4 H4 cenv it fp pn) tg g) (pt : PTs (gCx X (.GeneratorExp elt [⟨tg, iter, ifs, 0⟩] scope gpos) s4 H4 cenv it fp pn) ifs tt) (pe : PE (gCx X (.GeneratorExp elt [⟨tg, iter, ifs, 0⟩] scope gpos) s4 H4 cenv it fp pn) elt te)
    (turn : ∀ i m H, W i m H → (J.stop i H ∧ Q (.bl (!stopb)) H) ∨ (J.go i H ∧ ∃ Nx : Hp → Prop, (∀ H', Nx H' → ∃ m', m' < m ∧ W (i + 1) m' H') ∧ ∀ x H', J.yld i H x H' → g x (wipe σ own) H' fun σ2 H2 => wipe σ2 own = wipe σ own ∧ tt σ2 H2 fun b H3 =>
      if b = true then te σ2 H3 fun y H4 => (y = .bl stopb ∧ Q (.bl stopb) H4) ∨ (y = .bl (!stopb) ∧ Nx H4) else Nx H3)) :
    ∀ (m n i : Nat) (s0 s : Shared) (H' : Hp), m < n → W i m H' → Inv (gCx X (.GeneratorExp elt [⟨tg, iter, ifs, 0⟩] scope gpos) s4 H4 cenv it fp pn) [] (wipe σ own) H' s → tn i s.heap → (∀ b ∈ fp, H' b = none) →
      Seg (model X.prog X.w) X.A.in1.in1 (fun n s0 r s1 => r = .ok .next ∧ GEndP (gCx X (.GeneratorExp elt [⟨tg, iter, ifs, 0⟩] scope gpos) s4 H4 cenv it fp pn) (wipe σ own) stopb Q n s0 s1)
        (GProto (gCx X (.GeneratorExp elt [⟨tg, iter, ifs, 0⟩] scope gpos) s4 H4 cenv it fp pn) (wipe σ own) fp tn W stopb Q) n s0
        (.compLoop (.GeneratorExp elt [⟨tg, iter, ifs, 0⟩] scope gpos) 0 (.ref it) .none cenv) ((model X.prog X.w).den (.compLoop (.GeneratorExp elt [⟨tg, iter, ifs, 0⟩] scope gpos) 0 (.ref it) .none cenv)) [] s := by
  intro m
  induction m using Nat.strongRecOn with
  | ind m ih =>
    intro n i s0 s H' hmn w I st nf
    have fpk : ∀ {σ' : L2.St} {H' : Hp} {s' : Shared}, Inv (gCx X (.GeneratorExp elt [⟨tg, iter, ifs, 0⟩] scope gpos) s4 H4 cenv it fp pn) [] σ' H' s' → (∀ b ∈ fp, H' b = none) → ∀ b ∈ fp, FpOk (gCx X (.GeneratorExp elt [⟨tg, iter, ifs, 0⟩] scope gpos) s4 H4 cenv it fp pn) [] H' b := fun {σ' H' s'} I' hn b hb =>
      ⟨hn b hb, (I'.ok.exf b hb).1, I'.ok.exfs b hb, .inl hb, (I'.ok.exf b hb).2, fun p hp => hpn p (by simpa using hp) b hb⟩
    show Seg _ _ _ _ n s0 _ ((compTurn (.GeneratorExp elt [⟨tg, iter, ifs, 0⟩] scope gpos) 0 (.ref it) .none cenv).onRaise (leaving cenv)) [] s
    rw [compTurn_gen, Sem.onRaise_eq_wrap]
    refine seg_bind_wrap (wpAny_standAt ?_)
    rcases turn i m H' w with ⟨stop, q⟩ | ⟨go, Nx, hNx, step⟩
    · refine seg_bind_wrap (thnF (T.done (gCx X (.GeneratorExp elt [⟨tg, iter, ifs, 0⟩] scope gpos) s4 H4 cenv it fp pn) rfl rfl rfl hc i [] s _ H' (fun _ _ => False) I (fpk I nf) st stop) fun r s1 z => ?_)
      obtain ⟨rfl, I1⟩ := z
      exact seg_end (.ok .next) ⟨rfl, H', I1, q⟩
    · refine seg_bind_wrap (thnF (T.item (gCx X (.GeneratorExp elt [⟨tg, iter, ifs, 0⟩] scope gpos) s4 H4 cenv it fp pn) rfl rfl rfl hc i [] s _ H' (fun _ _ => False) I (fpk I nf) st go) fun r s1 z => ?_)
      obtain ⟨u, rfl, z⟩ := z
      refine seg_bind_wrap (thnF z fun _ s2 z2 => ?_)
      obtain ⟨x, H2, I2, r2, y2, st2, n2⟩ := z2
      have P2 := I2.pinned (fpk I2 n2) (T.obj _ _ st2)
      refine seg_bind_wrap (thnF (pg.run _ s2 _ H2 x u _ P2 r2 (step x H2 y2)) fun _ s3 z3 => ?_)
      obtain ⟨σ3, H3, I3, hw, q3⟩ := z3
      refine seg_bind_wrap (thnF (pt.run _ s3 σ3 H3 _ I3 q3) fun b sb zb => ?_)
      obtain ⟨Hb, Ib, qb⟩ := zb
      have back : ∀ {s' : Shared} {H' : Hp}, Inv (gCx X (.GeneratorExp elt [⟨tg, iter, ifs, 0⟩] scope gpos) s4 H4 cenv it fp pn) ([] ++ pinsAt fp s2.heap) σ3 H' s' →
          Inv (gCx X (.GeneratorExp elt [⟨tg, iter, ifs, 0⟩] scope gpos) s4 H4 cenv it fp pn) [] (wipe σ own) H' s' ∧ tn (i + 1) s'.heap ∧ ∀ b ∈ fp, H' b = none := fun {s' H'} I' => by
        have pin' : ∀ b ∈ fp, ∀ o, s2.heap.get? b = some o → s'.heap.get? b = some o ∧ H' b = none := fun b hb o e =>
          have y := I'.pin (b, o) (List.mem_append_right _ (List.mem_append_right _ (mem_pinsAt hb e)))
          ⟨y.1, y.2.1⟩
        have hl : (wipe σ own).length = σ3.length := by
          rw [← hw, wipe_length]
        refine ⟨(I'.unpinned (pins := [])).weak hl (fun j v e => ?_), T.keep _ _ _ st2 (fun b hb o e => (pin' b hb o e).1), fun b hb => ?_⟩
        · rw [← hw] at e
          exact (wipe_some e).1
        · obtain ⟨o, e, _⟩ := T.obj _ _ st2 b hb
          exact (pin' b hb o e).2
      cases b with
      | false =>
        simp only [Bool.false_eq_true, if_false] at qb ⊢
        obtain ⟨m', hm, w'⟩ := hNx _ qb
        obtain ⟨I', st', n'⟩ := back Ib
        exact seg_again rfl (ih m' hm n (i + 1) s0 sb Hb (Nat.lt_trans hm hmn) w' I' st' n')
      | true =>
        simp only [if_true] at qb ⊢
        have hy : ∀ v, yieldOut cenv v = yieldValue v := fun v => by simp only [yieldOut, hco, Bool.false_eq_true, if_false]
        simp only [hy]
        rw [Sem.bind_eq_wrap', Sem.bind_eq_wrap', Sem.wrap_wrap, Sem.wrap_wrap]
        refine seg_wrap (thnF (pe.run _ sb σ3 Hb _ Ib qb) fun z sy zy => ?_)
        obtain ⟨v, Hy, Iy, ry, qy⟩ := zy
        obtain ⟨I', st', n'⟩ := back Iy
        obtain ⟨n1, rfl⟩ : ∃ n1, n = n1 + 1 := ⟨n - 1, by omega⟩
        refine seg_at (seg_yield rfl rfl rfl ?_)
        rcases qy with ⟨rfl, q⟩ | ⟨rfl, q⟩
        · cases ry
          exact ⟨stopb, Hy, rfl, I', .inl ⟨rfl, q⟩⟩
        · cases ry
          obtain ⟨m', hm, w'⟩ := hNx _ q
          refine ⟨!stopb, Hy, rfl, I', .inr ⟨rfl, i + 1, m', by omega, w', fun s'' hh ho hb => ?_⟩⟩
          exact seg_again rfl (ih m' hm n1 (i + 1) s'' s'' Hy (by omega) w' (inv_gens I' hh ho hb) (by rw [hh]; exact st') n')
/-- the start of the generator's code -/
theorem gen_begin {n : Nat} {s0 s : Shared} {R : GenEnd} {Y : Protocol} (T : Turn X.prog X.w X.K tg J fp it tn) (st : tn 0 s.heap)
    (loop : Seg (model X.prog X.w) X.A.in1.in1 R Y n s0 (.compLoop (.GeneratorExp elt [⟨tg, iter, ifs, 0⟩] scope gpos) 0 (.ref it) .none cenv) ((model X.prog X.w).den (.compLoop (.GeneratorExp elt [⟨tg, iter, ifs, 0⟩] scope gpos) 0 (.ref it) .none cenv)) [] s) :
    Seg (model X.prog X.w) X.A.in1.in1 R Y n s0 (.compStart (.GeneratorExp elt [⟨tg, iter, ifs, 0⟩] scope gpos) 0 (.ref it) .none cenv) ((model X.prog X.w).den (.compStart (.GeneratorExp elt [⟨tg, iter, ifs, 0⟩] scope gpos) 0 (.ref it) .none cenv)) [] s := by
  show Seg _ _ _ _ n s0 _ ((compStart (.GeneratorExp elt [⟨tg, iter, ifs, 0⟩] scope gpos) 0 (.ref it) .none cenv).onRaise (leaving cenv)) [] s
  unfold compStart
  rw [Sem.onRaise_eq_wrap]
  refine seg_bind_wrap (wpAny_askSetting ?_)
  split
  · exact seg_again rfl loop
  · refine seg_bind_wrap (wpAny_rule ?_)
    show Seg _ _ _ _ n s0 _ ((standAt iter.pos >>= _).wrap _ _ _ _) [] s
    refine seg_bind_wrap (wpAny_standAt (seg_bind_wrap ?_))
    exact T.self _ 0 s _ _ st (seg_again rfl loop)
end
/-- the generator at a, number gn, is asleep (or fresh), with n turns at most -/
def Asleep (X Y : Cx) (σw : L2.St) (fp : List Addr) (tn : Nat → Heap → Prop) (W : Nat → Nat → Hp → Prop) (stopb : Bool) (Q : VK) (gn n : Nat) (s : Shared) : Prop :=
  ∃ (gs : GenState) (H' : Hp), s.gens[gn]? = some gs ∧ Inv Y [] σw H' s ∧ ∀ s'' : Shared, s''.heap = s.heap → s''.os = s.os → AllBare s''.gens →
    gs.Goes (model X.prog X.w) X.A.in1.in1 (fun n s0 r s1 => r = .ok .next ∧ GEndP Y σw stopb Q n s0 s1) (GProto Y σw fp tn W stopb Q) n (.send .none) s''
section
variable {X Y : Cx} {σw : L2.St} {fp : List Addr} {tn : Nat → Heap → Prop} {W : Nat → Nat → Hp → Prop} {Q : VK} {gn : Nat} {a : Addr} {go : Obj} {R : Result → Shared → Prop}
theorem set_at {s : Shared} {x : GenState} (h : gn < s.gens.size) : (s.setGen gn x).gens[gn]? = some x := by
  show (s.gens.setIfInBounds gn x)[gn]? = some x
  rw [Array.getElem?_setIfInBounds_self_of_lt h]
/-- one waking of the generator -/
theorem wake {stopb : Bool} {n : Nat} {s : Shared} {Q' : Option Value → Shared → Prop} {E : Value → Shared → Prop} (hh : X.A.handled = none) (hroom : X.A.depth < recursionLimit) (hp : (a, go) ∈ Y.pn) (hgo : ∀ h : Heap, h.get? a = some go → h.IsGen a gn) (S : Asleep X Y σw fp tn W stopb Q gn n s)
    (stop : ∀ s' H', Inv Y [] σw H' s' → Q (.bl stopb) H' → Q' (some (.bool stopb)) s') (next : ∀ s' m, m < n → Asleep X Y σw fp tn W stopb Q gn m s' → Q' (some (.bool (!stopb))) s') (done : ∀ s' H', Inv Y [] σw H' s' → Q (.bl (!stopb)) H' → Q' none s') :
    wpAny (model X.prog X.w) X.A.in1 (pyNext (.ref a)) Q' E s := by
  obtain ⟨gs, H', hg, I, hG⟩ := S
  have hlt : gn < s.gens.size := by
    rcases Nat.lt_or_ge gn s.gens.size with z | z
    · exact z
    · rw [Array.getElem?_eq_none z] at hg
      cases hg
  have ig : s.heap.IsGen a gn := hgo _ (I.pin (a, go) (List.mem_append_left _ hp)).1
  refine GenW.wpAny_gsz (n := s.gens.size) (Nat.le_refl _) ?_
  refine wpAny_pyNext_genexpQ (A := X.A.in1) hh I.nolimit hroom ig hg (hG _ rfl rfl (bare_set I.bare rfl)) (fun v s1 gs' hb hv sz => ?_) (fun s1 hp1 h' hk sz => ?_)
  · obtain ⟨k, H1, rfl, I1, z⟩ := hv
    have sz1 : gn < s1.gens.size := by
      have e : (s1.setGen gn gs').gens.size = s1.gens.size := GenW.setGen_size _ _ _
      rw [e] at sz
      omega
    have I2 : Inv Y [] σw H1 (s1.setGen gn gs') := inv_gens I1 rfl rfl (bare_set I1.bare hb)
    rcases z with ⟨rfl, q⟩ | ⟨rfl, i, m, hm, w, kap⟩
    · exact stop _ H1 I2 q
    · cases n with
      | zero => omega
      | succ n1 =>
        refine next _ n1 (Nat.lt_succ_self _) ⟨gs', H1, set_at sz1, I2, fun s'' h1 h2 h3 => ?_⟩
        exact kap s'' h1 h2 h3
  · obtain ⟨H1, I1, q⟩ := hp1
    refine done _ H1 ?_ q
    have I2 : Inv Y [] σw H1 (s1.setGen gn .finished) := inv_gens I1 rfl rfl (bare_set I1.bare rfl)
    exact I2.kept (h' := h') (t' := s1.toks) fun b o e => hk b o e
theorem any_loop (hh : X.A.handled = none) (hroom : X.A.depth < recursionLimit) (hp : (a, go) ∈ Y.pn) (hgo : ∀ h : Heap, h.get? a = some go → h.IsGen a gn)
    (fin : ∀ s' H' b, Inv Y [] σw H' s' → Q (.bl b) H' → R (.ok (.ret (.bool b))) s') : ∀ (n : Nat) (s : Shared), Asleep X Y σw fp tn W true Q gn n s → codeAny (model X.prog X.w) X.A (.builtin "any.loop" ⟨[.ref a], []⟩) R s := by
  intro n
  induction n using Nat.strongRecOn with
  | ind n ih =>
    intro s S
    refine codeAny_builtin F.entry_any_loop ?_
    rw [Around.under_plainId F.plain_any_loop _]
    show wpAny _ X.A.in1 (pyNext (.ref a) >>= _) _ _ s
    refine wpAny_bind (wake hh hroom hp hgo S (fun s' H' I q => ?_) (fun s' m hm S' => ?_) (fun s' H' I q => ?_))
    · refine wpAny_bind (wpAny_holding (wpAny_truthy_bool (wpAny_bind (wpAny_letGo ?_))))
      simp only [if_true]
      exact wpAny_bind (wpAny_rule (wpAny_pure (fin s' H' true I q)))
    · refine wpAny_bind (wpAny_holding (wpAny_truthy_bool (wpAny_bind (wpAny_letGo ?_))))
      simp only [Bool.not_true, Bool.false_eq_true, if_false]
      exact wpAny_pure ⟨plainId_quiet F.plain_any_loop _, ih m hm s' S'⟩
    · exact wpAny_bind (wpAny_rule (wpAny_pure (fin s' H' false I q)))
theorem all_loop (hh : X.A.handled = none) (hroom : X.A.depth < recursionLimit) (hp : (a, go) ∈ Y.pn) (hgo : ∀ h : Heap, h.get? a = some go → h.IsGen a gn)
    (fin : ∀ s' H' b, Inv Y [] σw H' s' → Q (.bl b) H' → R (.ok (.ret (.bool b))) s') : ∀ (n : Nat) (s : Shared), Asleep X Y σw fp tn W false Q gn n s → codeAny (model X.prog X.w) X.A (.builtin "all.loop" ⟨[.ref a], []⟩) R s := by
  intro n
  induction n using Nat.strongRecOn with
  | ind n ih =>
    intro s S
    refine codeAny_builtin F.entry_all_loop ?_
    rw [Around.under_plainId F.plain_all_loop _]
    show wpAny _ X.A.in1 (pyNext (.ref a) >>= _) _ _ s
    refine wpAny_bind (wake hh hroom hp hgo S (fun s' H' I q => ?_) (fun s' m hm S' => ?_) (fun s' H' I q => ?_))
    · refine wpAny_bind (wpAny_holding (wpAny_truthy_bool (wpAny_bind (wpAny_letGo ?_))))
      simp only [Bool.false_eq_true, if_false]
      exact wpAny_bind (wpAny_rule (wpAny_pure (fin s' H' false I q)))
    · refine wpAny_bind (wpAny_holding (wpAny_truthy_bool (wpAny_bind (wpAny_letGo ?_))))
      simp only [Bool.not_false, if_true]
      exact wpAny_pure ⟨plainId_quiet F.plain_all_loop _, ih m hm s' S'⟩
    · exact wpAny_bind (wpAny_rule (wpAny_pure (fin s' H' true I q)))
end
/-- any(elt for target in iter if ..) (stopb true), all(..) (stopb false): W by the turn and a measure, Nx what a turn is to reach; P: the def's table of code objects -/
def tAA (P : Addr) (stopb : Bool) (wi : TI) (g : TG) (tt : TT) (te : TE) (vs : List Nat) : TE := fun σ H Q => wi σ H fun J H1 => TabG H1 P ∧ ∀ H2, Tabbed P H1 H2 → ∃ W : Nat → Nat → Hp → Prop, (∃ m, W 0 m H2) ∧
  ∀ i m H, W i m H → (J.stop i H ∧ Q (.bl (!stopb)) H) ∨ (J.go i H ∧ ∃ Nx : Hp → Prop, (∀ H', Nx H' → ∃ m', m' < m ∧ W (i + 1) m' H') ∧ ∀ x H', J.yld i H x H' → g x (wipe σ vs) H' fun σ2 H2 => wipe σ2 vs = wipe σ vs ∧ tt σ2 H2 fun b H3 =>
    if b = true then te σ2 H3 fun y H4 => (y = .bl stopb ∧ Q (.bl stopb) H4) ∨ (y = .bl (!stopb) ∧ Nx H4) else Nx H3)
/-- over a tuple that stays -/
theorem aa_tup {K : PySem.W.Frag} {a : Addr} {xs : List V} {g : TG} {tt : TT} {te : TE} {vs : List Nat} {σ : L2.St} {H1 : Hp} {stopb : Bool} {Q : VK} (Pv : Nat → Hp → Prop) (h0 : Pv 0 H1) (hl : ∀ i H, i ≤ xs.length → Pv i H → SqT K H a xs)
    (hs : ∀ i x H, xs[i]? = some x → Pv i H → g x (wipe σ vs) H fun σ2 H2 => wipe σ2 vs = wipe σ vs ∧ tt σ2 H2 fun b H3 => if b = true then te σ2 H3 fun y H4 => (y = .bl stopb ∧ Q (.bl stopb) H4) ∨ (y = .bl (!stopb) ∧ Pv (i + 1) H4) else Pv (i + 1) H3) (hd : ∀ H, Pv xs.length H → Q (.bl (!stopb)) H) :
    ∃ W : Nat → Nat → Hp → Prop, (∃ m, W 0 m H1) ∧ ∀ i m H, W i m H → ((Itt K a).stop i H ∧ Q (.bl (!stopb)) H) ∨ ((Itt K a).go i H ∧ ∃ Nx : Hp → Prop, (∀ H', Nx H' → ∃ m', m' < m ∧ W (i + 1) m' H') ∧ ∀ x H', (Itt K a).yld i H x H' → g x (wipe σ vs) H' fun σ2 H2 => wipe σ2 vs = wipe σ vs ∧ tt σ2 H2 fun b H3 =>
      if b = true then te σ2 H3 fun y H4 => (y = .bl stopb ∧ Q (.bl stopb) H4) ∨ (y = .bl (!stopb) ∧ Nx H4) else Nx H3) := by
  refine ⟨fun i m H => i + m = xs.length ∧ Pv i H, ⟨xs.length, Nat.zero_add _, h0⟩, fun i m H ⟨e, p⟩ => ?_⟩
  have sq := hl i H (by omega) p
  cases m with
  | zero =>
    have ei : i = xs.length := by omega
    subst ei
    exact .inl ⟨⟨xs, sq, Nat.le_refl _⟩, hd H p⟩
  | succ m =>
    have lt : i < xs.length := by omega
    refine .inr ⟨⟨xs, xs[i], sq, List.getElem?_eq_getElem lt⟩, Pv (i + 1), fun H' q => ⟨m, Nat.lt_succ_self m, by omega, q⟩, fun x H' y => ?_⟩
    obtain ⟨rfl, y⟩ := y
    exact hs i x _ (y xs sq) p
section
variable {X : Cx} {pins : List (Addr × Obj)} {σ : L2.St} {H : Hp} {s : Shared} {c P : Addr} {elt tg iter : Expr} {ifs : List Expr} {scope : Scope} {own : List (Str × Nat)} {gpos : Pos} {wi : TI} {g : TG} {tt : TT} {te : TE} {stopb : Bool} {k : Nat}
/-- the scope of a generator expression: no cells of its own -/
structure GSc (scope : Scope) : Prop where
  co : scope.isCoroutine = false
  nc : ∀ y ∈ scope.names, y.2 ≠ .cell
  dot : scope.names.lookup (".0" : Str) = some NameKind.local
theorem gen_make {Q : VK} {Q' : Value → Shared → Prop} (hr : Room k X.A) (hc : X.calm = true) (hN : X.N.Nodup) (TB : TabB X.base X.mg c P) (hcode : X.env.code = .ref c) (hi : PI X tg iter wi) (ok : BlkOk X.N X.env.scope scope own) (S : GSc scope)
    (hg : ∀ (s : Shared) (H : Hp) (C : Addr) (code : Value) (it : Addr) (fp : List Addr) (pn : List (Addr × Obj)), PG (gCx X (.GeneratorExp elt [⟨tg, iter, ifs, 0⟩] scope gpos) s H (genEnv scope (cloFrom X.env.cells scope.names []) C code builtinsNs X.env) it fp pn) tg g)
    (ht : ∀ (s : Shared) (H : Hp) (C : Addr) (code : Value) (it : Addr) (fp : List Addr) (pn : List (Addr × Obj)), PTs (gCx X (.GeneratorExp elt [⟨tg, iter, ifs, 0⟩] scope gpos) s H (genEnv scope (cloFrom X.env.cells scope.names []) C code builtinsNs X.env) it fp pn) ifs tt)
    (he : ∀ (s : Shared) (H : Hp) (C : Addr) (code : Value) (it : Addr) (fp : List Addr) (pn : List (Addr × Obj)), PE (gCx X (.GeneratorExp elt [⟨tg, iter, ifs, 0⟩] scope gpos) s H (genEnv scope (cloFrom X.env.cells scope.names []) C code builtinsNs X.env) it fp pn) elt te)
    (hs : ∀ x, genFold iter X.env x = pure x) (I : Inv X pins σ H s) (h : tAA P stopb wi g tt te (own.map (·.2)) σ H Q)
    (hQ : ∀ (a : Addr) (go : Obj) (gn n : Nat) (Y : Cx) (fp : List Addr) (tn : Nat → Heap → Prop) (W : Nat → Nat → Hp → Prop) (s5 : Shared), (a, go) ∈ Y.pn → (∀ h : Heap, h.get? a = some go → h.IsGen a gn) → (∀ s' H', Inv Y [] (wipe σ (own.map (·.2))) H' s' → Inv X pins σ H' s') → s5.heap.get? a = some go →
      Asleep X Y (wipe σ (own.map (·.2))) fp tn W stopb Q gn n s5 → Q' (.ref a) s5) :
    wpAny (model X.prog X.w) X.A (eval (.GeneratorExp elt [⟨tg, iter, ifs, 0⟩] scope gpos) X.env) Q' X.xe s := by
  have hfree : ∀ y ∈ scope.names, y.2 = .free → ∃ c, X.env.cells.lookup y.1 = some c := fun y hy e => by
    rcases ok.free y hy e with z | z
    · exact I.ok.has _ (.inl z)
    · exact I.ok.has _ (.inr z)
  refine wpAny_GeneratorExp_make S.co (closure_ok hfree) S.nc S.dot ok.kind (by have := hr.dp; omega) (thn (hi.run pins s σ H _ I h) fun xv s1 hx => thn hx fun itv s2 h2 => ?_) hs
  obtain ⟨it, fp, tn, J, H2, rfl, I2, T, st2, f2, ⟨ps, hP, hT⟩, q⟩ := h2
  have hPs : s2.heap.get? P = some { cls := .none, data := .fields ps } := I2.hok P _ hP
  have cd : PySem.W.CodeHd s2.heap c P := TB.code.keeps I2.bk
  have szf : ∀ b ∈ fp, b < s2.heap.objs.size := fun b hb => by
    obtain ⟨o, e, _⟩ := T.obj _ _ st2 b hb
    exact Heap.lt_size e
  have nP : ∀ b ∈ fp, b ≠ P := fun b hb z => by
    have e := (f2 b hb).1
    rw [z, hP] at e
    cases e
  refine ⟨I2.nolimit, ?_⟩
  have cont : ∀ (code : Value) (h3 : Heap) (tk : Nat) (more : Array Value), Heap.ExtBut P s2.heap h3 → s2.heap.objs.size ≤ h3.objs.size → h3.get? P = some { cls := .none, data := .fields (ps ++ more) } → TriplesOk (ps ++ more).toList →
      wpAny (model X.prog X.w) X.A (builtinsFor X.env.globals X.env.builtins) (fun bi s4 => ∀ h', h'.Ns s4.heap.objs.size (fun y => if y = ".0" then some (.ref it) else none) → Heap.SameBut s4.heap.objs.size (s4.heap.push { cls := .type "frame", data := .dict #[] }) h' →
        Q' (.ref h'.objs.size) { s4 with
          gens := s4.gens.push (.fresh (.compStart (.GeneratorExp elt [⟨tg, iter, ifs, 0⟩] scope gpos) 0 (.ref it) .none (genEnv scope (cloFrom X.env.cells scope.names []) s4.heap.objs.size code bi X.env))),
          toks := s4.toks + 1 + 1 + 1,
          heap := h'.push { cls := .type "generator", data := .fields #[.int s4.gens.size 0, .str "<genexpr>" (s4.toks + 1), .str (X.env.qual ++ "<genexpr>") (s4.toks + 1 + 1)] } }) X.xe { s2 with heap := h3, toks := tk } := by
    intro code h3 tk more hx hsz hP3 hT3
    obtain ⟨bm, ob, e1, e2, e3, e4, e5, e6, e7, e8⟩ := TB.bm
    have I3 : Inv X pins σ (upd H2 P (.tbl (ps ++ more))) { s2 with heap := h3, toks := tk } := inv_tab (g' := s2.gens) (d' := s2.drawn) (t' := tk) I2 hP (fun b o hb e => hx b o hb e) hP3 I2.bare
    have f3 : ∀ b ∈ fp, FpOk X pins (upd H2 P (.tbl (ps ++ more))) b ∧ b < h3.objs.size := fun b hb => ⟨⟨by rw [upd_ne (nP b hb)]; exact (f2 b hb).1, (f2 b hb).2⟩, Nat.lt_of_lt_of_le (szf b hb) hsz⟩
    have st3 : tn 0 h3 := T.keep _ _ _ st2 fun b hb o e => hx b o (nP b hb) e
    obtain ⟨W, ⟨m0, w0⟩, turn⟩ := q (upd H2 P (.tbl (ps ++ more))) ⟨⟨_, upd_same, hT3⟩, fun b hb => upd_ne hb⟩
    refine wpAny_builtinsFor (m := X.mg) (by rw [I3.ok.glob]; exact I3.mod.glob.keeps I3.bk) e1 e2 (hx _ _ e4 (I2.bk _ _ e5)) e6 e7 e8 ?_
    intro h' hn' hs'
    have hsz' : h'.objs.size = h3.objs.size + 1 := by
      rw [hs'.1]
      exact Heap.size_push ..
    have kp : ∀ b o, h3.get? b = some o → (h'.push { cls := .type "generator", data := .fields #[.int s2.gens.size 0, .str "<genexpr>" (tk + 1), .str (X.env.qual ++ "<genexpr>") (tk + 1 + 1)] }).get? b = some o := fun b o e =>
      Heap.get?_push_of_some _ (hs'.extBut b o (Nat.ne_of_lt (Heap.lt_size e)) (Heap.get?_push_of_some _ e))
    have st5 := T.keep _ _ _ st3 fun b hb o e => kp b o e
    have nf : ∀ b ∈ fp, (upd H2 P (.tbl (ps ++ more))) b = none := fun b hb => (f3 b hb).1.1
    have IG := gen_start (ge := .GeneratorExp elt [⟨tg, iter, ifs, 0⟩] scope gpos) (it := it) (code := code) (tk := tk + 1 + 1 + 1)
      (gs := s2.gens.push (.fresh (.compStart (.GeneratorExp elt [⟨tg, iter, ifs, 0⟩] scope gpos) 0 (.ref it) .none (genEnv scope (cloFrom X.env.cells scope.names []) h3.objs.size code builtinsNs X.env)))) I3 hc ok hN S.nc f3
      (by show pushEnvs [_] (pushEnvs [] X.A.frames) = _; rw [I.ok.frames]; rfl) (I2.bare.push rfl) kp (hn'.keeps fun b o e => Heap.get?_push_of_some _ e) (Heap.get?_push_size h' rfl) (show h3.objs.size < h'.objs.size by omega) (fun v z => by cases z)
    refine hQ h'.objs.size _ s2.gens.size (m0 + 1) _ fp tn W _ List.mem_cons_self (fun h0 e => ?_) (fun s' H' J' => ?_) (Heap.get?_push_size h' rfl) ⟨_, _, Array.getElem?_push_size .., IG, fun s'' h1 h2 h3' => ?_⟩
    · exact ⟨_, _, _, e, rfl, rfl, rfl⟩
    · exact I3.call' (ch := fp) J'.os J'.base J'.hok J'.bare fun b hb => ⟨(f3 b hb).1.2.2.2.1, (f3 b hb).1.2.1, (f3 b hb).1.2.2.2.2.1, (f3 b hb).1.2.2.2.2.2⟩
    · refine ⟨rfl, gen_begin T (by rw [h1]; exact st5) ?_⟩
      refine gen_loop hc S.co T (fun p hp b hb z => ?_) (hg _ _ _ _ _ _ _) (ht _ _ _ _ _ _ _) (he _ _ _ _ _ _ _) turn m0 (m0 + 1) 0 s'' s'' _ (Nat.lt_succ_self _) w0 (inv_gens IG h1 h2 h3') (by rw [h1]; exact st5) nf
      rw [List.mem_singleton.mp hp] at z
      have z1 := (f3 b hb).2
      rw [← z] at z1
      have z2 : h'.objs.size < h3.objs.size := z1
      omega
  cases hf : codeAmong gpos ps.toList with
  | none =>
    refine wpAny_genexprCodeX hcode (cd.code hPs hT) (cd.tab hPs) hf fun c' h' tk hx hge hlt hco' _ htab' _ => ?_
    have tr : TriplesOk (ps ++ #[rawInt gpos.line, rawInt gpos.col, Value.ref c']).toList := by
      obtain ⟨_, _, _, _, _, _, _, _, _, _, _, _, _, _, _, _, _, _, _, z, _⟩ := hco'
      exact z
    exact cont _ h' tk _ hx (Nat.le_trans hge (Nat.le_of_lt hlt)) htab'.2 tr
  | some cv =>
    refine wpAny_genexprCode_hit hcode (cd.code hPs hT) hf ?_
    exact cont cv s2.heap s2.toks #[] (Heap.ExtBut.refl _ _) (Nat.le_refl _) (by rw [Array.append_empty]; exact hPs) (by rw [Array.append_empty]; exact hT)
theorem pe_any {p pos : Pos} (hr : Room k X.A) (hb : Gl X "any") (hm : X.mg "any" = none) (hc : X.calm = true) (hN : X.N.Nodup) (TB : TabB X.base X.mg c P) (hcode : X.env.code = .ref c) (hi : PI X tg iter wi) (ok : BlkOk X.N X.env.scope scope own) (S : GSc scope)
    (hg : ∀ (s : Shared) (H : Hp) (C : Addr) (code : Value) (it : Addr) (fp : List Addr) (pn : List (Addr × Obj)), PG (gCx X (.GeneratorExp elt [⟨tg, iter, ifs, 0⟩] scope gpos) s H (genEnv scope (cloFrom X.env.cells scope.names []) C code builtinsNs X.env) it fp pn) tg g)
    (ht : ∀ (s : Shared) (H : Hp) (C : Addr) (code : Value) (it : Addr) (fp : List Addr) (pn : List (Addr × Obj)), PTs (gCx X (.GeneratorExp elt [⟨tg, iter, ifs, 0⟩] scope gpos) s H (genEnv scope (cloFrom X.env.cells scope.names []) C code builtinsNs X.env) it fp pn) ifs tt)
    (he : ∀ (s : Shared) (H : Hp) (C : Addr) (code : Value) (it : Addr) (fp : List Addr) (pn : List (Addr × Obj)), PE (gCx X (.GeneratorExp elt [⟨tg, iter, ifs, 0⟩] scope gpos) s H (genEnv scope (cloFrom X.env.cells scope.names []) C code builtinsNs X.env) it fp pn) elt te)
    (hs : ∀ x, genFold iter X.env x = pure x := by intro _; rfl)
    (hst : starEach [.GeneratorExp elt [⟨tg, iter, ifs, 0⟩] scope gpos] X.env = (false, eval (.GeneratorExp elt [⟨tg, iter, ifs, 0⟩] scope gpos) X.env) :: starEach [] X.env := by rfl) :
    PE X (.Call (.Name "any" p) [.GeneratorExp elt [⟨tg, iter, ifs, 0⟩] scope gpos] [] pos) (tAA P true wi g tt te (own.map (·.2))) := by
  refine ⟨fun pins s σ H Q I h => wpAny_Call_Name_kw (ld_blt I hb hm boot_any (PyProof.Rows.callWith_builtin1 ?_ hst (by rfl)))⟩
  rw [hst]
  refine Calls.spliced_cons (gen_make hr hc hN TB hcode hi ok S hg ht he hs I h fun a go gn n Y fp tn W s5 h1 h2 h3 h4 SL => Calls.spliced_nil ?_)
  refine call_function_tree F.kind_any F.plain_any F.entry_any (F.args_any1 _) ?_
  unfold Builtin.«any»
  refine wpAny_bind (m := oneArg "any" _) (wpAny_pure (wpAny_bind (wpAny_pyIter_gen (h2 _ h4) (wpAny_pure ⟨plainId_quiet F.plain_any_loop _, ?_⟩))))
  exact any_loop (I.ok.hd hc) hr.depth h1 h2 (fun s' H' b J q => ⟨.bl b, H', h3 s' H' J, rfl, q⟩) n s5 SL
theorem pe_all {p pos : Pos} (hr : Room k X.A) (hb : Gl X "all") (hm : X.mg "all" = none) (hc : X.calm = true) (hN : X.N.Nodup) (TB : TabB X.base X.mg c P) (hcode : X.env.code = .ref c) (hi : PI X tg iter wi) (ok : BlkOk X.N X.env.scope scope own) (S : GSc scope)
    (hg : ∀ (s : Shared) (H : Hp) (C : Addr) (code : Value) (it : Addr) (fp : List Addr) (pn : List (Addr × Obj)), PG (gCx X (.GeneratorExp elt [⟨tg, iter, ifs, 0⟩] scope gpos) s H (genEnv scope (cloFrom X.env.cells scope.names []) C code builtinsNs X.env) it fp pn) tg g)
    (ht : ∀ (s : Shared) (H : Hp) (C : Addr) (code : Value) (it : Addr) (fp : List Addr) (pn : List (Addr × Obj)), PTs (gCx X (.GeneratorExp elt [⟨tg, iter, ifs, 0⟩] scope gpos) s H (genEnv scope (cloFrom X.env.cells scope.names []) C code builtinsNs X.env) it fp pn) ifs tt)
    (he : ∀ (s : Shared) (H : Hp) (C : Addr) (code : Value) (it : Addr) (fp : List Addr) (pn : List (Addr × Obj)), PE (gCx X (.GeneratorExp elt [⟨tg, iter, ifs, 0⟩] scope gpos) s H (genEnv scope (cloFrom X.env.cells scope.names []) C code builtinsNs X.env) it fp pn) elt te)
    (hs : ∀ x, genFold iter X.env x = pure x := by intro _; rfl)
    (hst : starEach [.GeneratorExp elt [⟨tg, iter, ifs, 0⟩] scope gpos] X.env = (false, eval (.GeneratorExp elt [⟨tg, iter, ifs, 0⟩] scope gpos) X.env) :: starEach [] X.env := by rfl) :
    PE X (.Call (.Name "all" p) [.GeneratorExp elt [⟨tg, iter, ifs, 0⟩] scope gpos] [] pos) (tAA P false wi g tt te (own.map (·.2))) := by
  refine ⟨fun pins s σ H Q I h => wpAny_Call_Name_kw (ld_blt I hb hm (show bootBuiltins "all" = some (.builtin "all") by decide +kernel) (PyProof.Rows.callWith_builtin1 ?_ hst (by rfl)))⟩
  rw [hst]
  refine Calls.spliced_cons (gen_make hr hc hN TB hcode hi ok S hg ht he hs I h fun a go gn n Y fp tn W s5 h1 h2 h3 h4 SL => Calls.spliced_nil ?_)
  refine call_function_tree F.kind_all F.plain_all F.entry_all (F.args_all1 _) ?_
  unfold Builtin.«all»
  refine wpAny_bind (m := oneArg "all" _) (wpAny_pure (wpAny_bind (wpAny_pyIter_gen (h2 _ h4) (wpAny_pure ⟨plainId_quiet F.plain_all_loop _, ?_⟩))))
  exact all_loop (I.ok.hd hc) hr.depth h1 h2 (fun s' H' b J q => ⟨.bl b, H', h3 s' H' J, rfl, q⟩) n s5 SL
end
end Gx
namespace Dr
open PySem PySem.Spec PyProof.Rows L2
/-! ### the drawing of numbers: smixed, sdraw, sopen -/
def topS (i : Nat) : Stmt := PySem.Challenge.pw_sparecut_k43_how_many_are_needed.main.body.getD i (.Pass ⟨0, 0, 0, 0⟩)
abbrev sMix : Stmt := topS 27
abbrev sDrw : Stmt := topS 28
abbrev sOpn : Stmt := topS 29
theorem scMix : FnScope ["cell", "at", "one", "two", "three"] ["cell", "at"] (defScope sMix) := ⟨rfl, rfl, rfl, by decide +kernel, rfl, by decide +kernel, by decide +kernel⟩
theorem scDrw : FnScope ["feed", "many", "at", "cell", "digit"] ["feed", "many"] (defScope sDrw) := ⟨rfl, rfl, rfl, by decide +kernel, rfl, by decide +kernel, by decide +kernel⟩
theorem scOpn : FnScope ["script"] ["script"] (defScope sOpn) := ⟨rfl, rfl, rfl, by decide +kernel, rfl, by decide +kernel, by decide +kernel⟩
/-- what lies at f: cells (at c), a place, a rest; at most B cells were taken -/
def Feed (H : Hp) (f c : Addr) (B : Nat) : Prop := ∃ (ns : List Int) (n : Nat) (r : Int),
  H f = some (.lst [.ref c, .int n, .int r]) ∧ H c = some (.lst (ns.map V.int)) ∧ ns.length ≤ 60 ∧ n ≤ B
/-- all but f is as it was -/
def But (f : Addr) (H H' : Hp) : Prop := ∀ b, b ≠ f → H' b = H b
theorem But.refl (f : Addr) (H : Hp) : But f H H := fun _ _ => rfl
theorem But.trans {f : Addr} {H H1 H2 : Hp} (a : But f H H1) (b : But f H1 H2) : But f H H2 := fun x n => (b x n).trans (a x n)
theorem Feed.mono {H : Hp} {f c : Addr} {B B' : Nat} (h : Feed H f c B) (l : B ≤ B') : Feed H f c B' := by
  obtain ⟨ns, n, r, h1, h2, h3, h4⟩ := h
  exact ⟨ns, n, r, h1, h2, h3, Nat.le_trans h4 l⟩
theorem Feed.same {H H' : Hp} {f c : Addr} {B : Nat} (h : Feed H f c B) (s : Same H H') : Feed H' f c B := by
  obtain ⟨ns, n, r, h1, h2, h3, h4⟩ := h
  exact ⟨ns, n, r, s _ _ h1, s _ _ h2, h3, h4⟩
theorem Feed.upd {H : Hp} {f c D : Addr} {B : Nat} {o : HO} (h : Feed H f c B) (nf : D ≠ f) (nc : D ≠ c) : Feed (upd H D o) f c B := by
  obtain ⟨ns, n, r, h1, h2, h3, h4⟩ := h
  exact ⟨ns, n, r, by rw [upd_ne (Ne.symm nf)]; exact h1, by rw [upd_ne (Ne.symm nc)]; exact h2, h3, h4⟩
theorem Feed.nf {H : Hp} {f c D : Addr} {B : Nat} (h : Feed H f c B) (n : H D = none) : D ≠ f := by
  obtain ⟨_, _, _, h1, _⟩ := h
  exact Ne.symm (ne_of_none h1 n)
theorem Feed.nc {H : Hp} {f c D : Addr} {B : Nat} (h : Feed H f c B) (n : H D = none) : D ≠ c := by
  obtain ⟨_, _, _, _, h2, _⟩ := h
  exact Ne.symm (ne_of_none h2 n)
theorem feed_ne {H : Hp} {f c : Addr} {ns : List Int} {a : V} {as : List V} (h1 : H f = some (.lst (.ref c :: as))) (h2 : H c = some (.lst (ns.map V.int))) : c ≠ f := by
  intro e
  rw [e, h1] at h2
  have z := HO.lst.inj (Option.some.inj h2)
  cases ns with
  | nil => cases z
  | cons x r => cases z
section
variable {P : Program} {w : World} {K : PySem.W.Frag} {mg : Str → Option Value} {base : Heap}
def spMix : Sp := fun vs H Q _ => ∃ (c : Int) (n : Nat), vs = [.int c, .int n] ∧ n ≤ 2 ^ 60 ∧ ∀ r : Int, Q (.int r) H
theorem ok_mix {f : Addr} {fd : FuncData} {k : Nat} (F : Fun K "_law_smixed" "_law_smixed" sMix f fd) : FnOk P w K mg base CX0 (k + 1) f fd ["cell", "at"] spMix := by
  refine F.ok scMix (fun vs H Q E h => ?_) (fun cdv A outer s H vs Q E hr h => ?_)
  · obtain ⟨c, n, rfl, _⟩ := h
    rfl
  · obtain ⟨c, n, rfl, hn, q⟩ := h
    refine ⟨_, pss_cons (ps_set (i := 2) scMix.nd rfl (.inl rfl) (pe_op op_mod (pe_op op_add (pe_op op_add (pe_op op_mul (pe_op op_mod (pv 0) pe_int) pe_int) (pe_op op_mul (pv 1) pe_int)) pe_int) pe_int))
      (pss_cons (ps_set (i := 3) scMix.nd rfl (.inl rfl) (pe_op op_mod (pe_op op_add (pe_op op_add (pe_op op_mul (pv 2) (pv 2)) (pe_op op_mul (pe_op op_mul (pv 1) (pv 1)) pe_int)) pe_int) pe_int))
      (pss_cons (ps_set (i := 4) scMix.nd rfl (.inl rfl) (pe_op op_mod (pe_op op_add (pe_op op_add (pe_op op_mul (pv 3) (pv 3)) (pv 2)) (pv 1)) pe_int))
      (pss_one (ps_ret (pe_op op_add (pe_op op_mul (pe_op op_add (pe_op op_mul (pv 4) pe_int) (pv 3)) pe_int) (pv 2)))))), ?_⟩
    refine ⟨_, rfl, _, _, rfl, rfl, by show (0 : Int) < 2147483647; decide, _, _, rfl, rfl, .inr ⟨by decide, by decide⟩, _, rfl, _, _, rfl, rfl, .inr ⟨by decide, by decide⟩, _, _, rfl, rfl, _, _, rfl, rfl, _, _, rfl, rfl, by show (0 : Int) < 2147483629; decide, ?_⟩
    generalize e1 : (c % 2147483647 * 48271 + (n : Int) * 7919 + 11) % 2147483629 = one
    have o1 : 0 ≤ one := by rw [← e1]; exact Int.emod_nonneg _ (by decide)
    have o2 : one < 2147483629 := by rw [← e1]; exact Int.emod_lt_of_pos _ (by decide)
    refine ⟨_, rfl, _, rfl, _, _, rfl, rfl, .inl ⟨by omega, by omega⟩, _, rfl, _, rfl, _, _, rfl, rfl, .inl ⟨by omega, by omega⟩, _, _, rfl, rfl, .inr ⟨by decide, by decide⟩, _, _, rfl, rfl, _, _, rfl, rfl, _, _, rfl, rfl, by show (0 : Int) < 2147483587; decide, ?_⟩
    generalize e2 : (one * one + (n : Int) * (n : Int) * 31 + 5) % 2147483587 = two
    have t1 : 0 ≤ two := by rw [← e2]; exact Int.emod_nonneg _ (by decide)
    have t2 : two < 2147483587 := by rw [← e2]; exact Int.emod_lt_of_pos _ (by decide)
    refine ⟨_, rfl, _, rfl, _, _, rfl, rfl, .inl ⟨by omega, by omega⟩, _, rfl, _, _, rfl, rfl, _, rfl, _, _, rfl, rfl, _, _, rfl, rfl, by show (0 : Int) < 2147483563; decide, ?_⟩
    exact ⟨_, rfl, _, _, rfl, rfl, .inr ⟨by decide, by decide⟩, _, rfl, _, _, rfl, rfl, _, _, rfl, rfl, .inr ⟨by decide, by decide⟩, _, rfl, _, _, rfl, rfl, q _⟩
/-- sdraw(feed, many): any number from 0 to many - 1 -/
def spDrw : Sp := fun vs H Q _ => ∃ (f c : Addr) (m : Int) (B : Nat), vs = [.ref f, .int m] ∧ 0 < m ∧ m < 2 ^ 29 ∧ Feed H f c B ∧ B ≤ 2 ^ 59 ∧
  ∀ (d : Int) (H' : Hp), 0 ≤ d → d < m → Feed H' f c (B + 1) → But f H H' → Q (.int d) H'
theorem ok_drw {f fM : Addr} {fd fdM : FuncData} {k : Nat} (F : Fun K "_law_sdraw" "_law_sdraw" sDrw f fd) (FM : Fun K "_law_smixed" "_law_smixed" sMix fM fdM) (bM : Binds K fdM ["cell", "at"] []) (gM : mg "_law_smixed" = some (.ref fM)) (ml : mg "len" = none) :
    FnOk P w K mg base CX0 (k + 2) f fd ["feed", "many"] spDrw := by
  have GM : FnOk P w K mg base CX0 1 fM fdM ["cell", "at"] spMix := ok_mix FM
  refine F.ok scDrw (fun vs H Q E h => ?_) (fun cdv A outer s H vs Q E hr h => ?_)
  · obtain ⟨f, c, m, B, rfl, _⟩ := h
    rfl
  · obtain ⟨f, c, m, B, rfl, m0, m1, hF, hB, q⟩ := h
    have hr1 : Room 1 _ := hr.mono (by omega)
    refine ⟨_, Evl.pss_cut (ps_if (pt_cmpR op_lt (pe_ix ix_list (pv 0) pe_int (fun _ _ => rfl)) (pv 1) (nomark _))
        (pss_cons (ps_set (i := 2) scDrw.nd rfl (.inl rfl) (pe_ix ix_list (pv 0) pe_int (fun _ _ => rfl)))
        (pss_cons (ps_set (i := 3) scDrw.nd rfl (.inl rfl) (pe_op op_mul (pv 2) pe_int))
        (Evl.pss_cut (ps_if (pt_cmpR op_gt (pe_callB call_len_seq (by rfl) ml PySem.boot_len (pa_cons (pe_ix ix_list (pv 0) pe_int (fun _ _ => rfl)) pa_nil)) pe_int (nomark _))
            (pss_one (ps_set (i := 3) scDrw.nd rfl (.inl rfl) (pe_ix ix_list (pe_ix ix_list (pv 0) pe_int (fun _ _ => rfl)) (pe_op op_mod (pv 2) (pe_callB call_len_seq (by rfl) ml PySem.boot_len (pa_cons (pe_ix ix_list (pv 0) pe_int (fun _ _ => rfl)) pa_nil))) (fun _ _ => rfl)))) pss_nil)
        (pss_cons (ps_asg (pe_op op_add (pv 2) pe_int) (pg_sub (pv 0) pe_int set_list))
        (Evl.pss_cut (ps_asg (pv 3) (pg_sub (pv 0) pe_int set_list))
        (pss_one (ps_if (PW.pt (pw_or (pt_cmpR op_lt (pv 3) (pe_op op_pow pe_int pe_int) (nomark _)) (pw_or1 (pt_cmpR op_ge (pv 2) (pe_callB call_len_seq (by rfl) ml PySem.boot_len (pa_cons (pe_ix ix_list (pv 0) pe_int (fun _ _ => rfl)) pa_nil)) (nomark _)))))
          (pss_one (ps_asg (pe_call GM hr1 (by rfl) gM FM.kp bM .nil pass0 (pa_cons (pv 3) (pa_cons (pv 2) pa_nil))) (pg_sub (pv 0) pe_int set_list))) pss_nil)))))))
        pss_nil)
      (pss_cons (ps_set (i := 4) scDrw.nd rfl (.inl rfl) (pe_op op_mod (pe_ix ix_list (pv 0) pe_int (fun _ _ => rfl)) (pv 1)))
      (pss_cons (ps_asg (pe_op op_fdiv (pe_ix ix_list (pv 0) pe_int (fun _ _ => rfl)) (pv 1)) (pg_sub (pv 0) pe_int set_list))
      (pss_one (ps_ret (pv 4))))), ?_⟩
    obtain ⟨ns, n, r, h1, h2, h3, h4⟩ := hF
    have hcf : c ≠ f := feed_ne (a := .non) h1 h2
    have hS : SqL K H f [.ref c, .int n, .int r] := .of h1
    have hC : SqL K H c (ns.map V.int) := .of h2
    refine Evl.q_cut (M := fun σ' H' => ∃ (y2 y3 : Option V) (n' : Nat) (r' : Int), σ' = [some (.ref f), some (.int m), y2, y3, none] ∧ H' f = some (.lst [.ref c, .int n', .int r']) ∧ n' ≤ B + 1 ∧ But f H H') ?_ ?_
    · refine ⟨.ref f, rfl, f, _, 2, _, rfl, rfl, hS, rfl, .int m, rfl, _, _, rfl, rfl, _, rfl, ite2 (fun e => ?_) (fun e => ?_)⟩
      · refine ⟨.ref f, rfl, f, _, 1, _, rfl, rfl, hS, rfl, ?_⟩
        refine ⟨_, rfl, _, _, rfl, rfl, .inr ⟨by decide, by decide⟩, ?_⟩
        refine Evl.q_cut (M := fun σ' H' => ∃ (z : Int), σ' = [some (.ref f), some (.int m), some (.int n), some (.int z), none] ∧ H' = H) ?_ ?_
        · refine ⟨.ref f, rfl, f, _, 0, _, rfl, rfl, hS, rfl, c, _, rfl, .inl hC, _, _, rfl, rfl, _, rfl, ite2 (fun e => ?_) (fun e => ?_)⟩
          · have l0 : 0 < ns.length := by
              have z : (0 : Int) < ((ns.map V.int).length : Int) := of_decide_eq_true e
              rw [List.length_map] at z
              omega
            have l1 : n % ns.length < ns.length := Nat.mod_lt _ l0
            refine ⟨.ref f, rfl, f, _, 0, _, rfl, rfl, hS, rfl, _, rfl, .ref f, rfl, f, _, 0, _, rfl, rfl, hS, rfl, c, _, rfl, .inl hC, _, _, rfl, rfl, ?_, c, _, _, .int (ns[n % ns.length]), rfl, rfl, hC, ?_, ?_⟩
            · show (0 : Int) < ((ns.map V.int).length : Int)
              rw [List.length_map]
              omega
            · refine at_of (j := n % ns.length) ?_ ?_
              · rw [List.length_map]
                exact (Int.natCast_emod n ns.length).symm
              · rw [List.getElem?_map, List.getElem?_eq_getElem l1]
                rfl
            · exact ⟨_, rfl, rfl⟩
          · exact ⟨_, rfl, rfl⟩
        · rintro σ' H' ⟨z, rfl, rfl⟩
          refine ⟨_, rfl, _, _, rfl, rfl, _, rfl, f, _, 1, 1, rfl, rfl, h1, rfl, ?_⟩
          refine Evl.q_cut (M := fun σ' H2 => σ' = [some (.ref f), some (.int m), some (.int n), some (.int z), none] ∧ But f H' H2 ∧ H2 f = some (.lst [.ref c, .int ((n + 1 : Nat) : Int), .int z])) ?_ ?_
          · refine ⟨_, rfl, _, rfl, f, _, 2, 2, rfl, rfl, upd_same, rfl, rfl, fun b nb => ?_, upd_same⟩
            rw [upd_ne nb, upd_ne nb]
          rintro σ' H2 ⟨rfl, b2, f2⟩
          have hS2 : SqL K H2 f [.ref c, .int ((n + 1 : Nat) : Int), .int z] := .of f2
          have hC2 : SqL K H2 c (ns.map V.int) := .of ((b2 c hcf).trans h2)
          have mix : ∀ D : Ends, D.nx = (fun σ' H'' => ∃ (y2 y3 : Option V) (n' : Nat) (r' : Int), σ' = [some (.ref f), some (.int m), y2, y3, none] ∧ H'' f = some (.lst [.ref c, .int n', .int r']) ∧ n' ≤ B + 1 ∧ But f H' H'') →
              tAsg (tCall spMix [] E0 (tCons (tVar 3) (tCons (tVar 2) tNil))) (gSub (tVar 0) (tC (.int 2)) rSetL) D [some (.ref f), some (.int m), some (.int n), some (.int z), none] H2 := by
            intro D hD
            refine ⟨_, rfl, _, rfl, z, n, rfl, by omega, fun r2 => ?_⟩
            refine ⟨_, rfl, f, _, 2, 2, rfl, rfl, f2, rfl, ?_⟩
            rw [hD]
            exact ⟨_, _, n + 1, r2, rfl, upd_same, by omega, fun b nb => by rw [upd_ne nb]; exact b2 b nb⟩
          refine ⟨_, rfl, _, _, rfl, rfl, ⟨by decide, by decide, by decide⟩, _, _, rfl, rfl, _, rfl, ite2 (fun e => ?_) (fun e => ?_)⟩
          · exact iteT (mix _ rfl)
          · refine ⟨_, rfl, .ref f, rfl, f, _, 0, _, rfl, rfl, hS2, rfl, c, _, rfl, .inl hC2, _, _, rfl, rfl, _, rfl, ite2 (fun e => ?_) (fun e => ?_)⟩
            · exact mix _ rfl
            · exact ⟨_, _, n + 1, z, rfl, f2, by omega, b2⟩
      · exact ⟨none, none, n, r, rfl, h1, by omega, But.refl f H⟩
    · rintro σ' H' ⟨y2, y3, n', r', rfl, f1, ln, b1⟩
      have hS1 : SqL K H' f [.ref c, .int n', .int r'] := .of f1
      refine ⟨.ref f, rfl, f, _, 2, _, rfl, rfl, hS1, rfl, .int m, rfl, _, _, rfl, rfl, m0, ?_⟩
      refine ⟨.ref f, rfl, f, _, 2, _, rfl, rfl, hS1, rfl, .int m, rfl, _, _, rfl, rfl, ⟨m0, by omega⟩, .ref f, rfl, f, _, 2, 2, rfl, rfl, f1, rfl, ?_⟩
      refine ⟨_, rfl, q (r' % m) _ (Int.emod_nonneg _ (by omega)) (Int.emod_lt_of_pos _ m0) ⟨ns, n', r' / m, upd_same, ?_, h3, ln⟩ fun b nb => ?_⟩
      · rw [upd_ne hcf, b1 c hcf]
        exact h2
      · rw [upd_ne nb]
        exact b1 b nb
/-- sopen(script) -/
def spOpn (K : PySem.W.Frag) : Sp := fun vs H Q _ => ∃ (a : Addr) (ns : List Int), vs = [.ref a] ∧ SqL K H a (ns.map V.int) ∧ ∀ (f c : Addr) (H' : Hp), H f = none → H c = none → Same H H' → Feed H' f c 0 → Q (.ref f) H'
theorem cut60 (ns : List Int) : cutV (ns.map V.int) none (some 60) = (ns.take 60).map V.int := by
  unfold cutV
  rw [HT.sIx_none, show HT.sIx (ns.map V.int).length (ns.map V.int).length (some 60) = min 60 (ns.map V.int).length from HT.sIx_nat _ _ 60]
  rw [List.drop_zero, Nat.sub_zero, List.map_take, List.length_map]
  by_cases h : ns.length ≤ 60
  · rw [Nat.min_eq_right h, List.take_of_length_le (by rw [List.length_map]; exact Nat.le_refl _), List.take_of_length_le (by rw [List.length_map]; exact h)]
  · rw [Nat.min_eq_left (by omega)]
theorem same_upd {H : Hp} {p : Addr} {o : HO} (h : H p = none) : Same H (upd H p o) := fun b x e => by
  rw [upd_ne (ne_of_none e h)]
  exact e
theorem ok_opn {f : Addr} {fd : FuncData} {k : Nat} (F : Fun K "_law_sopen" "_law_sopen" sOpn f fd) (ml : mg "list" = none) : FnOk P w K mg base CX0 (k + 1) f fd ["script"] (spOpn K) := by
  refine F.ok scOpn (fun vs H Q E h => ?_) (fun cdv A outer s H vs Q E hr h => ?_)
  · obtain ⟨a, ns, rfl, _⟩ := h
    rfl
  · obtain ⟨a, ns, rfl, hS, q⟩ := h
    refine ⟨_, pss_one (ps_ret (pe_lst (pa_cons (pe_callTy call_list_of (by rfl) ml (by decide +kernel) (pa_cons (pe_slice sl_list (pv 0) po_none (po_some pe_int)) pa_nil)) (pa_cons pe_int (pa_cons pe_int pa_nil))))), ?_⟩
    refine ⟨.ref a, rfl, 60, rfl, a, _, rfl, hS, fun c nc => ?_⟩
    refine ⟨c, _, rfl, .inl (.of upd_same), fun d nd => ?_⟩
    refine ⟨by show 3 ≤ sizeLine; decide, fun p np => ?_⟩
    have s1 : Same H (upd H c (.lst (cutV (ns.map V.int) none (some 60)))) := same_upd nc
    have s2 := s1.trans (same_upd (o := .lst (cutV (ns.map V.int) none (some 60))) nd)
    have s3 := s2.trans (same_upd (o := .lst [.ref d, .int 0, .int 0]) np)
    refine q p d _ (s2.free np) (s1.free nd) s3 ⟨ns.take 60, 0, 0, upd_same, ?_, ?_, Nat.le_refl _⟩
    · have ndp : d ≠ p := ne_of_none (upd_same (H := upd H c (.lst (cutV (ns.map V.int) none (some 60)))) (a := d) (o := .lst (cutV (ns.map V.int) none (some 60)))) np
      rw [upd_ne ndp, upd_same, cut60]
    · rw [List.length_take]
      omega
end
end Dr
namespace Kp
open PySem PySem.Spec PyProof.Rows L2 GxR Nw Dr
/-! ### what a call leaves as it was: all but the feed (F) and the tables of code objects -/
structure Ke (F : Addr → Prop) (H H' : Hp) : Prop where
  keep : ∀ b o, H b = some o → (∀ ps, o ≠ .tbl ps) → ¬ F b → H' b = some o
  tabs : ∀ P, TabG H P → TabG H' P
  tups : ∀ b xs, H b = some (.tup xs) → H' b = some (.tup xs)
abbrev Nof : Addr → Prop := fun _ => False
variable {F G : Addr → Prop} {H H1 H2 H' : Hp} {f c P : Addr} {B : Nat}
theorem Ke.refl (F : Addr → Prop) (H : Hp) : Ke F H H := ⟨fun _ _ h _ _ => h, fun _ h => h, fun _ _ h => h⟩
theorem Ke.trans (a : Ke F H H1) (b : Ke F H1 H2) : Ke F H H2 := ⟨fun x o h n m => b.keep x o (a.keep x o h n m) n m, fun Q h => b.tabs Q (a.tabs Q h), fun x xs h => b.tups x xs (a.tups x xs h)⟩
theorem Ke.mono (a : Ke F H H1) (h : ∀ b, F b → G b) : Ke G H H1 := ⟨fun x o e n m => a.keep x o e n fun z => m (h x z), a.tabs, a.tups⟩
theorem Ke.all (a : Ke Nof H H1) : Ke F H H1 := a.mono fun _ z => z.elim
theorem Ke.same (s : Same H H1) : Ke F H H1 := ⟨fun b o e _ _ => s b o e, fun Q ⟨ps, h, t⟩ => ⟨ps, s _ _ h, t⟩, fun b xs e => s _ _ e⟩
theorem Ke.lst {a : Addr} {xs : List V} (k : Ke F H H1) (h : H a = some (.lst xs)) (n : ¬ F a) : H1 a = some (.lst xs) := k.keep a _ h (fun ps z => by cases z) n
theorem Ke.tabbed (t : TabG H P) (x : Tabbed P H H1) : Ke F H H1 := by
  obtain ⟨ps, hP, _⟩ := t
  have nP : ∀ b o, H b = some o → (∀ qs, o ≠ .tbl qs) → b ≠ P := fun b o e n z => by
    rw [z, hP] at e
    exact n ps (Option.some.inj e).symm
  refine ⟨fun b o e n _ => (x.2 b (nP b o e n)).trans e, fun Q hQ => ?_, fun b xs e => (x.2 b (nP b _ e fun qs z => by cases z)).trans e⟩
  by_cases hq : Q = P
  · rw [hq]
    exact x.1
  · obtain ⟨qs, h1, h2⟩ := hQ
    exact ⟨qs, (x.2 Q hq).trans h1, h2⟩
theorem Ke.but (h : Feed H f c B) (b : But f H H1) : Ke (· = f) H H1 := by
  obtain ⟨ns, n, r, h1, _⟩ := h
  refine ⟨fun x o e _ m => (b x m).trans e, fun Q ⟨qs, e, t⟩ => ⟨qs, (b Q fun z => ?_).trans e, t⟩, fun x xs e => (b x fun z => ?_).trans e⟩
  · rw [z, h1] at e
    cases e
  · rw [z, h1] at e
    cases e
/-- a write to an object of ours that was new behind H -/
theorem Ke.upd {p : Addr} {o : HO} (k : Ke F H H1) (n : H p = none) : Ke F H (upd H1 p o) := by
  refine ⟨fun b x e t m => ?_, fun Q hQ => ?_, fun b xs e => ?_⟩
  · rw [upd_ne (ne_of_none e n)]
    exact k.keep b x e t m
  · obtain ⟨ps, e, t⟩ := hQ
    obtain ⟨qs, e2, t2⟩ := k.tabs Q ⟨ps, e, t⟩
    exact ⟨qs, by rw [upd_ne (ne_of_none e n)]; exact e2, t2⟩
  · rw [upd_ne (ne_of_none e n)]
    exact k.tups b xs e
theorem Ke.feed (k : Ke Nof H H1) (h : Feed H f c B) : Feed H1 f c B := by
  obtain ⟨ns, n, r, h1, h2, h3, h4⟩ := h
  exact ⟨ns, n, r, k.lst h1 (fun z => z), k.lst h2 (fun z => z), h3, h4⟩
/-- p holds nothing that H knows (but a table, perhaps) -/
def Frs (H : Hp) (p : Addr) : Prop := ∀ b o, H b = some o → (∀ ps, o ≠ .tbl ps) → b ≠ p
theorem Frs.of {p : Addr} (h : H p = none) : Frs H p := fun b o e _ => ne_of_none e h
theorem Frs.ke {p : Addr} (k : Ke (· = f) H H1) (hF : Feed H1 f c B) (h : Frs H1 p) : Frs H p := fun b o e n => by
  by_cases hb : b = f
  · obtain ⟨_, _, _, h1, _⟩ := hF
    rw [hb]
    exact h f _ h1 fun ps z => by cases z
  · exact h b o (k.keep b o e n hb) n
theorem Frs.ke0 {p : Addr} (k : Ke Nof H H1) (h : Frs H1 p) : Frs H p := fun b o e n => h b o (k.keep b o e n fun z => z) n
theorem Ke.write {p : Addr} {xs : List V} {o : HO} (k : Ke F H H1) (fr : Frs H p) (h1 : H1 p = some (.lst xs)) : Ke F H (L2.upd H1 p o) := by
  refine ⟨fun b x e t m => ?_, fun Q hQ => ?_, fun b ys e => ?_⟩
  · rw [upd_ne (fr b x e t)]
    exact k.keep b x e t m
  · obtain ⟨qs, e2, t2⟩ := k.tabs Q hQ
    have n : Q ≠ p := fun z => by
      rw [z, h1] at e2
      cases e2
    exact ⟨qs, by rw [upd_ne n]; exact e2, t2⟩
  · rw [upd_ne (fr b _ e fun ps z => by cases z)]
    exact k.tups b ys e
/-- whole numbers in a tuple, truths in a tuple -/
def TupI (H : Hp) (v : V) (ns : List Int) : Prop := ∃ a, v = .ref a ∧ H a = some (.tup (ns.map V.int))
def TupB (H : Hp) (v : V) (bs : List Bool) : Prop := ∃ a, v = .ref a ∧ H a = some (.tup (bs.map V.bl))
def LstI (H : Hp) (v : V) (ns : List Int) : Prop := ∃ a, v = .ref a ∧ H a = some (.lst (ns.map V.int))
/-- a tuple of claims -/
def Bk (H : Hp) (v : V) (css : List (List Int)) : Prop := ∃ a vs, v = .ref a ∧ H a = some (.tup vs) ∧ vs.length = css.length ∧ ∀ (i : Nat) (x : V) (cs : List Int), vs[i]? = some x → css[i]? = some cs → TupI H x cs
theorem TupI.ke {v : V} {ns : List Int} (h : TupI H v ns) (k : Ke F H H1) : TupI H1 v ns := by
  obtain ⟨a, e, h⟩ := h
  exact ⟨a, e, k.tups _ _ h⟩
theorem TupB.ke {v : V} {ns : List Bool} (h : TupB H v ns) (k : Ke F H H1) : TupB H1 v ns := by
  obtain ⟨a, e, h⟩ := h
  exact ⟨a, e, k.tups _ _ h⟩
theorem Bk.ke {v : V} {css : List (List Int)} (h : Bk H v css) (k : Ke F H H1) : Bk H1 v css := by
  obtain ⟨a, vs, e, h, l, t⟩ := h
  exact ⟨a, vs, e, k.tups _ _ h, l, fun i x cs h1 h2 => (t i x cs h1 h2).ke k⟩
/-! ### claims -/
def rising : List Int → Bool
  | a :: b :: r => decide (a < b) && rising (b :: r)
  | _ => true
structure IsCl (cs : List Int) : Prop where
  up : cs.Pairwise (· < ·)
  says : ∀ k ∈ cs, k ≠ 0 ∧ -8 ≤ k ∧ k ≤ 8
  opp : ∀ k ∈ cs, -k ∉ cs
  len : cs.length ≤ 8
theorem IsCl.nil : IsCl [] := { up := .nil, says := fun _ h => (nomatch h), opp := fun _ h => (nomatch h), len := by decide }
end Kp
namespace Ztl
open PySem PySem.Spec PyProof.Rows L2
open PySem.Sem (wp)
/-! ### zip of a tuple and a list -/
/-- the tuple at a and the list at b as they stand at each turn -/
def It2 (K : PySem.W.Frag) (a b : Addr) : It where
  go i H := ∃ (xs ys : List V) (x y : V), SqT K H a xs ∧ SqL K H b ys ∧ xs[i]? = some x ∧ ys[i]? = some y
  yld i H v H' := ∃ T x y, v = .ref T ∧ H T = none ∧ H' = upd H T (.tup [x, y]) ∧ (∀ xs, SqT K H a xs → xs[i]? = some x) ∧ ∀ ys, SqL K H b ys → ys[i]? = some y
  stop i H := ∃ xs ys : List V, SqT K H a xs ∧ SqL K H b ys ∧ i ≤ xs.length ∧ i ≤ ys.length ∧ (i = xs.length ∨ i = ys.length)
def Stt (z TI TO i1 i2 a b : Addr) (i : Nat) (h : Heap) : Prop := IsZip h z TI TO .none ∧ IsTupOf2 h TI (.ref i1) (.ref i2) ∧ (∃ x y, IsTupOf2 h TO x y) ∧ h.IsTupleIter i1 a i ∧ h.IsListIter i2 b i
theorem Stt.cells {z TI TO i1 i2 a b : Addr} {i : Nat} {h : Heap} (x : Stt z TI TO i1 i2 a b i h) : ∀ c ∈ [z, TI, TO, i1, i2], ∃ o, h.get? c = some o ∧ ∀ v, o.data ≠ .cell v := by
  obtain ⟨hz, hI, ⟨_, _, hO⟩, ⟨o1, e1, _, d1⟩, ⟨o2, e2, _, d2⟩⟩ := x
  intro c hc
  simp only [List.mem_cons, List.not_mem_nil, or_false] at hc
  rcases hc with rfl | rfl | rfl | rfl | rfl
  · exact ⟨_, hz, fun v q => nomatch q⟩
  · exact ⟨_, hI, fun v q => nomatch q⟩
  · exact ⟨_, hO, fun v q => nomatch q⟩
  · exact ⟨o1, e1, fun v q => by rw [d1] at q; cases q⟩
  · exact ⟨o2, e2, fun v q => by rw [d2] at q; cases q⟩
theorem Stt.keep {z TI TO i1 i2 a b : Addr} {i : Nat} {h h' : Heap} (x : Stt z TI TO i1 i2 a b i h) (k : ∀ c ∈ [z, TI, TO, i1, i2], ∀ o, h.get? c = some o → h'.get? c = some o) : Stt z TI TO i1 i2 a b i h' := by
  obtain ⟨hz, hI, ⟨u, v, hO⟩, h1, h2⟩ := x
  exact ⟨k z (by simp) _ hz, k TI (by simp) _ hI, ⟨u, v, k TO (by simp) _ hO⟩, h1.at fun o q => k i1 (by simp) o q, h2.at fun o q => k i2 (by simp) o q⟩
theorem turn_zip2 {P : Program} {w : World} {K : PySem.W.Frag} {elts : List Expr} {kk : Nat} {tpos : Pos} {a b z TI TO i1 i2 : Addr} (D : ZipSep2 z TI TO i1 i2 [i1, a] [i2, b]) :
    Turn P w K (.Tuple elts kk tpos) (It2 K a b) [z, TI, TO, i1, i2] z (Stt z TI TO i1 i2 a b) where
  mem := List.mem_cons_self
  obj := fun i h st => st.cells
  keep := fun i h h' st k => st.keep k
  item := by
    intro X hP hw hK hc i pins s σ H E I hf st hg
    subst hP hw hK
    have cl := st.cells
    obtain ⟨hz, hI, ⟨x0, y0, hO⟩, h1, h2⟩ := st
    obtain ⟨xs, ys, x, y, hqx, hqy, hx, hy⟩ := hg
    obtain ⟨us, rx, p, _⟩ := I.tuple hqx
    obtain ⟨vs, ry, p2, _⟩ := I.list hqy
    obtain ⟨u, hu, ru⟩ := rx.get hx
    obtain ⟨v, hv, rv⟩ := ry.get hy
    have ne1 : a ≠ i1 := by
      rintro rfl
      obtain ⟨o1, e1, _, d1⟩ := h1
      obtain ⟨o2, e2, _, _, d2⟩ := p
      rw [e1] at e2
      cases e2
      rw [d1] at d2
      cases d2
    have ne2 : b ≠ i2 := by
      rintro rfl
      obtain ⟨o1, e1, _, d1⟩ := h2
      obtain ⟨o2, e2, _, _, d2⟩ := p2.isList
      rw [e1] at e2
      cases e2
      rw [d1] at d2
      cases d2
    have hd : X.A.in1.handled = none := I.ok.hd hc
    have lu := (List.getElem?_eq_some_iff.mp hu).1
    have lv := (List.getElem?_eq_some_iff.mp hv).1
    have zl : z < s.heap.objs.size := Heap.lt_size hz
    refine wpAny_pyNext_zipD2_item D (Draws.tuple hd i1 a ne1 us.toArray) (Draws.list hd i2 b ne2 vs.toArray) hz hI hO ⟨h1, p⟩ ⟨h2, p2.isList⟩ (by simpa using lu) (by simpa using lv) fun x1 x2 h' tk q1 q2 z' O' s1' s2' hT hsz hk => ?_
    obtain rfl : x1 = u := by
      have q1 : us[i]? = some x1 := by simpa using q1
      rw [hu] at q1
      exact (Option.some.inj q1).symm
    obtain rfl : x2 = v := by
      have q2 : vs[i]? = some x2 := by simpa using q2
      rw [hv] at q2
      exact (Option.some.inj q2).symm
    refine ⟨_, rfl, wpAny_letOwnedTupleGo_zip (s := { s with heap := h', toks := tk }) z' fun h'' z'' sb => ?_⟩
    have hT2 : h''.get? s.heap.objs.size = some { cls := .type "tuple", data := .seq #[x1, x2] } := (sb.2 _ (Nat.ne_of_gt zl)).trans hT
    have nw : ObjOk X.prog X.w (upd H s.heap.objs.size (.tup [x, y])) h'' s.heap.objs.size (.tup [x, y]) := ⟨by show 2 ≤ sizeLine; decide, [x1, x2], .cons ru (.cons rv .nil), ⟨_, hT2, rfl, _, rfl⟩⟩
    have kk2 : ∀ c o, c ∉ [z, TI, TO, i1, i2] → s.heap.get? c = some o → h''.get? c = some o := fun c o nc q => by
      simp only [List.mem_cons, List.not_mem_nil, or_false, not_or] at nc
      exact (sb.2 c nc.1).trans (hk c o nc.1 nc.2.2.1 nc.2.2.2.1 nc.2.2.2.2 q)
    have I1 : Inv X pins σ (upd H s.heap.objs.size (.tup [x, y])) { s with heap := h'', toks := tk } := I.turnedNew (t' := tk) (ch := [z, TI, TO, i1, i2]) (fun c o hb q => kk2 c o hb q) hf (Nat.le_refl _) nw
    refine ⟨.ref s.heap.objs.size, _, I1, rfl, ⟨_, x, y, rfl, I.hok.fresh (Nat.le_refl _), rfl, fun l hl => by rw [I.tuple_inj hl hqx]; exact hx, fun l hl => by rw [I.list_inj hl hqy]; exact hy⟩, ⟨z'', (sb.2 _ D.TIz).trans (hk _ _ D.TIz D.TITO D.TIi1 D.TIi2 hI), ⟨x1, x2, (sb.2 _ D.TOz).trans O'⟩, s1'.1.at fun o q => (sb.2 _ D.zi1.symm).trans q, s2'.1.at fun o q => (sb.2 _ D.zi2.symm).trans q⟩, fun c hcm => ?_⟩
    obtain ⟨o, g, _⟩ := cl c hcm
    rw [upd_ne (Nat.ne_of_lt (Heap.lt_size g))]
    exact (hf c hcm).1
  done := by
    intro X hP hw hK hc i pins s σ H E I hf st hg
    subst hP hw hK
    obtain ⟨hz, hI, ⟨x0, y0, hO⟩, h1, h2⟩ := st
    obtain ⟨xs, ys, hqx, hqy, l1, l2, he⟩ := hg
    obtain ⟨us, rx, p, _⟩ := I.tuple hqx
    obtain ⟨vs, ry, p2, _⟩ := I.list hqy
    have ne1 : a ≠ i1 := by
      rintro rfl
      obtain ⟨o1, e1, _, d1⟩ := h1
      obtain ⟨o2, e2, _, _, d2⟩ := p
      rw [e1] at e2
      cases e2
      rw [d1] at d2
      cases d2
    have ne2 : b ≠ i2 := by
      rintro rfl
      obtain ⟨o1, e1, _, d1⟩ := h2
      obtain ⟨o2, e2, _, _, d2⟩ := p2.isList
      rw [e1] at e2
      cases e2
      rw [d1] at d2
      cases d2
    have hd : X.A.in1.handled = none := I.ok.hd hc
    have a1 := rx.length
    have a2 := ry.length
    refine wpAny_pyNext_zipD2_end D (Draws.tuple hd i1 a ne1 us.toArray) (Draws.list hd i2 b ne2 vs.toArray) hz hI hO ⟨h1, p⟩ ⟨h2, p2.isList⟩ (by simp; omega) (by simp; omega) (by simp; omega) fun h' tk hk => ⟨rfl, ?_⟩
    exact I.turnedL (t' := tk) (ch := [z, TI, TO, i1, i2]) (fun c o nc q => by
      simp only [List.mem_cons, List.not_mem_nil, or_false, not_or] at nc
      exact hk c o nc.1 nc.2.2.1 nc.2.2.2.1 nc.2.2.2.2 q) hf
  self := fun A i s Q E st h => wpAny_pyIter_zip st.1 h
def iZip2 (K : PySem.W.Frag) (ta : TA) : TI := fun σ H R => ta σ H fun vs H1 => ∃ a b xs ys, vs = [.ref a, .ref b] ∧ SqT K H1 a xs ∧ SqL K H1 b ys ∧ R (It2 K a b) H1
theorem pi_zip2 {X : Cx} {e e2 : Expr} {ta : TA} {p pos tpos : Pos} {elts : List Expr} {kk : Nat} (hg : Gl X "zip") (hm : X.mg "zip" = none) (ha : PA X [e, e2] ta)
    (hs : starEach [e, e2] X.env = (false, eval e X.env) :: starEach [e2] X.env := by rfl) (hpl : (backTo pos (starEach [e2] X.env)).any (·.1) = false := by rfl) :
    PI X (.Tuple elts kk tpos) (.Call (.Name "zip" p) [e, e2] [] pos) (iZip2 X.K ta) := by
  refine ⟨fun pins s σ H R I h => ?_⟩
  refine Call_ (ld_blt I hg hm PyProof.Rows.boot_zip (PyProof.Rows.callWith_type1 (thn (ha.run pos pins s σ H _ I h) fun us s1 ⟨vs, H1, I1, r1, q1⟩ => ?_) hs hpl))
  obtain ⟨a, b, xs, ys, rfl, hqx, hqy, q⟩ := q1
  obtain ⟨u, r2, rfl⟩ : ∃ u, Vals [V.ref b] u ∧ us = .ref a :: u := by
    cases r1 with
    | cons r rr =>
      cases r
      exact ⟨_, rr, rfl⟩
  obtain ⟨u, rfl, r3⟩ := vals1 r2
  cases r3
  obtain ⟨us, rx, p1, _⟩ := I1.tuple hqx
  obtain ⟨vs, ry, p2, _⟩ := I1.list hqy
  obtain ⟨o1, g1, _⟩ := id p1
  obtain ⟨o2, g2, _⟩ := id p2.isList
  have l1 := Heap.lt_size g1
  have l2 := Heap.lt_size g2
  refine zip_begins2 (begins_tuple a us.toArray) (begins_list b vs.toArray) p1 p2.isList fun h' hz hI hO j1 j2 hsz hk => wpAny_pyIter_zip hz ?_
  have S := zip_sep2 (N := s1.heap.objs.size) (fp1 := [a]) (fp2 := [b]) (fun c hc => by
    obtain rfl := List.mem_singleton.mp hc
    exact l1) (fun c hc => by
    obtain rfl := List.mem_singleton.mp hc
    exact l2)
  have I2 : Inv X pins σ H1 { s1 with heap := h' } := I1.kept (t' := s1.toks) hk
  refine ⟨s1.heap.objs.size + 4, [s1.heap.objs.size + 4, s1.heap.objs.size + 2, s1.heap.objs.size + 3, s1.heap.objs.size, s1.heap.objs.size + 1], _, _, H1, rfl, I2, turn_zip2 S, ⟨hz, hI, ⟨_, _, hO⟩, ⟨_, j1, rfl, rfl⟩, ⟨_, j2, rfl, rfl⟩⟩, fun c hc => ?_, q⟩
  have le : s1.heap.objs.size ≤ c := by
    simp only [List.mem_cons, List.not_mem_nil, or_false] at hc
    rcases hc with rfl | rfl | rfl | rfl | rfl
    · exact Nat.le_add_right _ _
    · exact Nat.le_add_right _ _
    · exact Nat.le_add_right _ _
    · exact Nat.le_refl _
    · exact Nat.le_add_right _ _
  exact I1.fpOk le (I1.hok.fresh le)
/-- a loop over zip of a tuple and a list of one length -/
theorem for_zip2 {K : PySem.W.Frag} {a b : Addr} {xs ys : List V} {g : TG} {tb : TS} {D : Ends} {σ : L2.St} {H : Hp} (hl : xs.length = ys.length) (Pv : Nat → L2.St → Hp → Prop) (h0 : Pv 0 σ H) (hq : ∀ i σ H, Pv i σ H → SqT K H a xs ∧ SqL K H b ys)
    (hs : ∀ (i : Nat) (x y : V) (T : Addr) (σ : L2.St) (H : Hp), xs[i]? = some x → ys[i]? = some y → Pv i σ H → H T = none → g (.ref T) σ (upd H T (.tup [x, y])) fun σ2 H2 => tb { D with nx := Pv (i + 1), ct := Pv (i + 1), bk := D.nx } σ2 H2) (hd : ∀ σ H, Pv xs.length σ H → D.nx σ H) :
    ∃ W : Nat → Nat → L2.St → Hp → Prop, (∃ m, W 0 m σ H) ∧ ∀ i m σ H, W i m σ H →
      ((It2 K a b).stop i H ∧ D.nx σ H) ∨ ((It2 K a b).go i H ∧ ∃ N : L2.St → Hp → Prop, (∀ σ' H', N σ' H' → ∃ m', m' < m ∧ W (i + 1) m' σ' H') ∧ ∀ v H', (It2 K a b).yld i H v H' → g v σ H' fun σ2 H2 => tb { D with nx := N, ct := N, bk := D.nx } σ2 H2) := by
  refine ⟨fun i m σ H => m = xs.length - i ∧ i ≤ xs.length ∧ Pv i σ H, ⟨xs.length, rfl, Nat.zero_le _, h0⟩, ?_⟩
  rintro i m σ H ⟨rfl, hi, p⟩
  obtain ⟨qx, qy⟩ := hq i σ H p
  rcases Nat.lt_or_ge i xs.length with lt | ge
  · have hx := List.getElem?_eq_getElem lt
    have hy := List.getElem?_eq_getElem (show i < ys.length by omega)
    refine .inr ⟨⟨xs, ys, _, _, qx, qy, hx, hy⟩, Pv (i + 1), fun σ' H' p' => ⟨xs.length - (i + 1), by omega, rfl, lt, p'⟩, fun v H' y => ?_⟩
    obtain ⟨T, x', y', rfl, nT, rfl, f1, f2⟩ := y
    exact hs i x' y' T σ H (f1 xs qx) (f2 ys qy) p nT
  · obtain rfl : i = xs.length := by omega
    exact .inl ⟨⟨xs, ys, qx, qy, Nat.le_refl _, by omega, .inl rfl⟩, hd σ H p⟩
end Ztl
namespace Se
open PySem PySem.Spec PyProof.Rows L2 GxR Nw Dr Kp
/-- a def of the text whose code object stands at c -/
structure FunC (K : PySem.W.Frag) (x qual : Str) (st : Stmt) (f c : Addr) (fd : FuncData) : Prop where
  ex : ∃ (oc : Value) (od : Option Addr) (kV doc pm : Value) (an : Option Addr) (ct : Value) (osl : Array (Option Value)), fd = PySem.W.fnOf x qual (defArgs st) (defBody st) (defScope st) .none kV doc pm an (.ref c) ct ∧ K.lookup f = some ⟨oc, od, .func fd, osl⟩ ∧ PySem.W.codeIn K (.ref c) qual = true
  kp : PySem.W.keepIn K (.ref f) = true
section
variable {P : Program} {w : World} {K : PySem.W.Frag} {mg : Str → Option Value} {base : Heap}
theorem FunC.fn {x qual : Str} {st : Stmt} {f c : Addr} {fd : FuncData} (F : FunC K x qual st f c fd) : Fun K x qual st f fd := by
  obtain ⟨oc, od, kV, doc, pm, an, ct, osl, e, l, cd⟩ := F.ex
  exact ⟨⟨oc, od, kV, doc, pm, an, .ref c, ct, osl, e, l, cd⟩, F.kp⟩
theorem FunC.ok {x qual : Str} {st : Stmt} {f c : Addr} {fd : FuncData} {N ps : List Str} {k : Nat} {sp : Sp} (F : FunC K x qual st f c fd) (S : FnScope N ps (defScope st)) (len : ∀ vs H Q E, sp vs H Q E → vs.length = ps.length)
    (body : ∀ (A : Around) (outer : List Env) (s : Shared) (H : Hp) (vs : List V) (Q : VK) (E : XK), Room k (A.deeper (envOfC qual (defScope st) s.heap.objs.size f (.ref c))) → sp vs H Q E →
      ∃ t, PSs (cxOf CX0 P w K mg base N qual (defScope st) f (.ref c) A outer s H E).nox (defBody st) t ∧ t { nx := fun _ H' => Q .non H', rt := Q } (start N vs) H) : FnOk P w K mg base CX0 (k + 1) f fd ps sp := by
  obtain ⟨oc, od, kV, doc, pm, an, ct, osl, rfl, lk, hcd⟩ := F.ex
  refine fn_of lk hcd S len fun A outer s H vs Q E hr hsp => ?_
  obtain ⟨t, h, q⟩ := body A outer s H vs Q E hr hsp
  exact ⟨t, h.nox, q⟩
end
/-! ### settings -/
structure Zt (mg : Str → Option Value) : Prop where
  z_len : mg "len" = none
  z_abs : mg "abs" = none
  z_any : mg "any" = none
  z_all : mg "all" = none
  z_tuple : mg "tuple" = none
  z_range : mg "range" = none
/-- the say k holds -/
def sh (bs : List Bool) (k : Int) : Bool := bs.getD (k.natAbs - 1) false == decide (0 < k)
def Says (cs : List Int) : Prop := ∀ k ∈ cs, k ≠ 0 ∧ -8 ≤ k ∧ k ≤ 8
abbrev sShd : Stmt := topS 13
abbrev sHol : Stmt := topS 14
theorem scShd : FnScope ["say", "setting", "place", "so"] ["say", "setting"] (defScope sShd) := ⟨rfl, rfl, rfl, by decide +kernel, rfl, by decide +kernel, by decide +kernel⟩
abbrev nHol : List Str := ["claim", "setting", "say"]
theorem scHol : FnScope nHol ["claim", "setting"] (defScope sHol) := ⟨rfl, rfl, rfl, by decide +kernel, rfl, by decide +kernel, by decide +kernel⟩
section
variable {P : Program} {w : World} {K : PySem.W.Frag} {mg : Str → Option Value} {base : Heap}
def spShd : Sp := fun vs H Q _ => ∃ (k : Int) (u : V) (bs : List Bool), vs = [.int k, u] ∧ TupB H u bs ∧ bs.length = 8 ∧ k ≠ 0 ∧ -8 ≤ k ∧ k ≤ 8 ∧ Q (.bl (sh bs k)) H
theorem ok_shd {f : Addr} {fd : FuncData} {k : Nat} (F : Fun K "say_holds" "say_holds" sShd f fd) (T : Zt mg) : FnOk P w K mg base CX0 (k + 1) f fd ["say", "setting"] spShd := by
  refine F.ok scShd (fun vs H Q E h => ?_) (fun cdv A outer s H vs Q E hr h => ?_)
  · obtain ⟨k, u, bs, rfl, _⟩ := h
    rfl
  · obtain ⟨k, u, bs, rfl, ⟨a, rfl, ha⟩, l8, k0, k1, k2, q⟩ := h
    refine ⟨_, (pss_cons (ps_set (i := 2) scShd.nd rfl (.inl rfl) (pe_op op_sub (pe_callB call_abs (by rfl) T.z_abs (by decide +kernel) (pa_cons (pv 0) pa_nil)) pe_int))
      (pss_cons (ps_set (i := 3) scShd.nd rfl (.inl rfl) (pe_and (pe_chain op_le op_lt pe_int (pv 2) (pe_callB call_len_seq (by rfl) T.z_len (by decide +kernel) (pa_cons (pv 1) pa_nil))) (pe_one (pe_ix ix_tup (pv 1) (pv 2) (fun _ _ => rfl)))))
      (pss_one (ps_ret (pe_cmpR op_eq (pv 3) (pe_cmpR op_gt (pv 0) pe_int (nomark _)) (nomark _)))))), ?_⟩
    have e : (if k < 0 then -k else k) = (k.natAbs : Int) := by
      split <;> omega
    refine ⟨_, rfl, k, rfl, _, _, rfl, rfl, ?_⟩
    rw [e]
    have lt : k.natAbs - 1 < bs.length := by omega
    refine ⟨_, rfl, 0, _, rfl, rfl, true, congrArg V.bl (decide_eq_true (by omega)), _, rfl, a, _, rfl, .inr (.of ha), _, _, rfl, rfl, true, congrArg V.bl (decide_eq_true (by rw [List.length_map]; omega)), ?_⟩
    refine ⟨_, rfl, _, rfl, a, _, _, .bl bs[k.natAbs - 1], rfl, rfl, .of ha, at_of (j := k.natAbs - 1) (by omega) (by rw [List.getElem?_map, List.getElem?_eq_getElem lt]; rfl), ?_⟩
    refine ⟨_, rfl, _, rfl, _, _, rfl, rfl, rfl, ?_⟩
    have z : decide (V.bl bs[k.natAbs - 1] = V.bl (decide (0 < k))) = sh bs k := by
      unfold sh
      rw [List.getD_eq_getElem?_getD, List.getElem?_eq_getElem lt, Option.getD_some]
      cases bs[k.natAbs - 1] <;> cases decide (0 < k) <;> rfl
    rw [z]
    exact q
def spHol (P : Addr) : Sp := fun vs H Q _ => ∃ (v u : V) (cs : List Int) (bs : List Bool), vs = [v, u] ∧ TupI H v cs ∧ TupB H u bs ∧ bs.length = 8 ∧ Says cs ∧ TabG H P ∧ ∀ H', Ke Nof H H' → Q (.bl (cs.any (sh bs))) H'
theorem any_take {α : Type} {f : α → Bool} {l : List α} {i : Nat} {x : α} (h : l[i]? = some x) (p : (l.take i).any f = false) : (f x = true → l.any f = true) ∧ (f x = false → (l.take (i + 1)).any f = false) := by
  refine ⟨fun z => List.any_eq_true.mpr ⟨x, List.mem_of_getElem? h, z⟩, fun z => ?_⟩
  rw [List.take_add_one, h, List.any_append, p]
  show (f x || false) = false
  rw [z]
  rfl
theorem ok_hol {f c Pt fS : Addr} {fd fdS : FuncData} {k : Nat} (F : FunC K "holds" "holds" sHol f c fd) (T : Zt mg) (TB : TabB base mg c Pt) (FS : Fun K "say_holds" "say_holds" sShd fS fdS) (bS : Binds K fdS ["say", "setting"] []) (gS : mg "say_holds" = some (.ref fS)) (GS : FnOk P w K mg base CX0 1 fS fdS ["say", "setting"] spShd) :
    FnOk P w K mg base CX0 (k + 3) f fd ["claim", "setting"] (spHol Pt) := by
  refine F.ok scHol (fun vs H Q E h => ?_) (fun A outer s H vs Q E hr h => ?_)
  · obtain ⟨v, u, cs, bs, rfl, _⟩ := h
    rfl
  · obtain ⟨v, u, cs, bs, rfl, ⟨a, rfl, ha⟩, hb, l8, sy, tg, q⟩ := h
    have hr1 : Room (1 + 1) _ := hr.mono (by omega)
    refine ⟨_, (pss_one (ps_ret (Gx.pe_any hr (by rfl) T.z_any rfl scHol.nd TB rfl (pi_tup (pv 0)) (own := [("say", 2)]) (g := gName 2) (tt := tYes) (blkOk_by (N := nHol) (sc := defScope sHol) (by decide +kernel)) ⟨rfl, by decide +kernel, rfl⟩ (fun _ _ _ _ _ _ _ => pg_name (i := 2) scHol.nd rfl (.inl rfl)) (fun _ _ _ _ _ _ _ => pts_nil) (fun _ _ _ _ _ _ _ => pe_call GS (Gx.room_gen hr1) (by rfl) gS FS.kp bS .nil pass0 (pa_cons (pv 2) (pa_cons (pv 1) pa_nil)))))), ?_⟩
    refine ⟨_, rfl, a, rfl, ⟨_, .of ha⟩, tg, fun H1 tb => ?_⟩
    have k1 : Ke Nof H H1 := .tabbed tg tb
    refine Gx.aa_tup (xs := cs.map V.int) (Pv := fun i H' => Ke Nof H H' ∧ (cs.take i).any (sh bs) = false) ⟨k1, rfl⟩ (fun i H' _ p => .of (p.1.tups _ _ ha)) ?_ ?_
    · rintro i x H' hx ⟨k2, p⟩
      obtain ⟨z, hz, rfl⟩ : ∃ z, cs[i]? = some z ∧ x = V.int z := by
        rw [List.getElem?_map] at hx
        cases e : cs[i]? with
        | none =>
          rw [e] at hx
          cases hx
        | some z =>
          rw [e] at hx
          exact ⟨z, rfl, (Option.some.inj hx).symm⟩
      obtain ⟨s0, s1, s2⟩ := sy z (List.mem_of_getElem? hz)
      obtain ⟨t1, t2⟩ := any_take hz p
      refine ⟨rfl, _, rfl, _, rfl, z, u, bs, rfl, hb.ke k2, l8, s0, s1, s2, ?_⟩
      cases e : sh bs z with
      | true =>
        refine .inl ⟨rfl, ?_⟩
        have := q H' k2
        rw [t1 e] at this
        exact this
      | false => exact .inr ⟨rfl, k2, t2 e⟩
    · rintro H' ⟨k2, p⟩
      rw [List.length_map, List.take_length] at p
      have := q H' k2
      rw [p] at this
      exact this
/-- all claims of the book hold -/
def ah (bs : List Bool) (css : List (List Int)) : Bool := css.all fun cs => cs.any (sh bs)
theorem all_take {α : Type} {f : α → Bool} {l : List α} {i : Nat} {x : α} (h : l[i]? = some x) (p : (l.take i).all f = true) : (f x = false → l.all f = false) ∧ (f x = true → (l.take (i + 1)).all f = true) := by
  refine ⟨fun z => List.all_eq_false.mpr ⟨x, List.mem_of_getElem? h, by rw [z]; decide⟩, fun z => ?_⟩
  rw [List.take_add_one, h, List.all_append, p]
  show (f x && true) = true
  rw [z]
  rfl
abbrev sAhd : Stmt := topS 15
abbrev nAhd : List Str := ["book", "setting", "claim"]
theorem scAhd : FnScope nAhd ["book", "setting"] (defScope sAhd) := ⟨rfl, rfl, rfl, by decide +kernel, rfl, by decide +kernel, by decide +kernel⟩
def spAhd (Ph Pa : Addr) : Sp := fun vs H Q _ => ∃ (v u : V) (css : List (List Int)) (bs : List Bool), vs = [v, u] ∧ Bk H v css ∧ TupB H u bs ∧ bs.length = 8 ∧ (∀ cs ∈ css, Says cs) ∧ TabG H Ph ∧ TabG H Pa ∧ ∀ H', Ke Nof H H' → Q (.bl (ah bs css)) H'
theorem ok_ahd {f c Pa Ph fH : Addr} {fd fdH : FuncData} {k : Nat} (F : FunC K "all_hold" "all_hold" sAhd f c fd) (T : Zt mg) (TB : TabB base mg c Pa) (kpH : PySem.W.keepIn K (.ref fH) = true) (bH : Binds K fdH ["claim", "setting"] []) (gH : mg "holds" = some (.ref fH)) (GH : FnOk P w K mg base CX0 3 fH fdH ["claim", "setting"] (spHol Ph)) :
    FnOk P w K mg base CX0 (k + 5) f fd ["book", "setting"] (spAhd Ph Pa) := by
  refine F.ok scAhd (fun vs H Q E h => ?_) (fun A outer s H vs Q E hr h => ?_)
  · obtain ⟨v, u, css, bs, rfl, _⟩ := h
    rfl
  · obtain ⟨v, u, css, bs, rfl, ⟨a, vs, rfl, ha, lv, hv⟩, hb, l8, sy, tg, tga, q⟩ := h
    have hr1 : Room (3 + 1) _ := hr.mono (by omega)
    refine ⟨_, (pss_one (ps_ret (Gx.pe_all hr (by rfl) T.z_all rfl scAhd.nd TB rfl (pi_tup (pv 0)) (own := [("claim", 2)]) (g := gName 2) (tt := tYes) (blkOk_by (N := nAhd) (sc := defScope sAhd) (by decide +kernel)) ⟨rfl, by decide +kernel, rfl⟩ (fun _ _ _ _ _ _ _ => pg_name (i := 2) scAhd.nd rfl (.inl rfl)) (fun _ _ _ _ _ _ _ => pts_nil) (fun _ _ _ _ _ _ _ => pe_call GH (Gx.room_gen hr1) (by rfl) gH kpH bH .nil pass0 (pa_cons (pv 2) (pa_cons (pv 1) pa_nil)))))), ?_⟩
    refine ⟨_, rfl, a, rfl, ⟨_, .of ha⟩, tga, fun H1 tb => ?_⟩
    have k1 : Ke Nof H H1 := .tabbed tga tb
    refine Gx.aa_tup (xs := vs) (Pv := fun i H' => Ke Nof H H' ∧ (css.take i).all (fun cs => cs.any (sh bs)) = true) ⟨k1, rfl⟩ (fun i H' _ p => .of (p.1.tups _ _ ha)) ?_ ?_
    · rintro i x H' hx ⟨k2, p⟩
      have li : i < css.length := by
        have := (List.getElem?_eq_some_iff.mp hx).1
        omega
      have hz := List.getElem?_eq_getElem li
      obtain ⟨t1, t2⟩ := all_take hz p
      have ti := hv i x _ hx hz
      have sz := sy _ (List.mem_of_getElem? hz)
      generalize css[i] = cs at t1 t2 ti sz
      refine ⟨rfl, _, rfl, _, rfl, x, u, cs, bs, rfl, ti.ke k2, hb.ke k2, l8, sz, k2.tabs _ tg, fun H3 k3 => ?_⟩
      have k4 := k2.trans k3
      cases e : cs.any (sh bs) with
      | false =>
        refine .inl ⟨rfl, ?_⟩
        have := q H3 k4
        unfold ah at this
        rw [t1 e] at this
        exact this
      | true => exact .inr ⟨rfl, k4, t2 e⟩
    · rintro H' ⟨k2, p⟩
      rw [lv, List.take_length] at p
      have := q H' k2
      unfold ah at this
      rw [p] at this
      exact this
/-! ### all settings by their numbers -/
def bitB (n : Int) (p : Nat) : Bool := decide (V.int (Builtin.bitAnd (n / 2 ^ p) 1) = V.int 1)
def sbn (n : Int) : List Bool := (List.range 8).map (bitB n)
theorem sbn_len (n : Int) : (sbn n).length = 8 := by
  unfold sbn
  rw [List.length_map, List.length_range]
theorem sbn_all (bs : List Bool) (h : bs.length = 8) : ∃ n : Nat, n < 256 ∧ sbn n = bs := by
  match bs, h with
  | [a, b, c, d, e, f, g, i], _ =>
    refine ⟨a.toNat + 2 * b.toNat + 4 * c.toNat + 8 * d.toNat + 16 * e.toNat + 32 * f.toNat + 64 * g.toNat + 128 * i.toNat, ?_, ?_⟩
    · cases a <;> cases b <;> cases c <;> cases d <;> cases e <;> cases f <;> cases g <;> cases i <;> decide
    · revert a b c d e f g i
      decide +kernel
/-- what every_setting hands out at the turn i -/
def YEve (i : Nat) (H : Hp) (x : V) (H' : Hp) : Prop := ∃ p, x = .ref p ∧ Same H H' ∧ H' p = some (.tup ((sbn (0 + (i : Nat))).map V.bl))
/-- bs shows that the claim does not follow -/
def Ctr (css : List (List Int)) (cs : List Int) (bs : List Bool) : Prop := bs.length = 8 ∧ cs.any (sh bs) = false ∧ ah bs css = true
end
end Se
namespace Nw
open PySem PySem.Spec PyProof.Rows L2
theorem prg_cl {X : Cx} {e : Expr} {te : L2.St → Hp → (Int → Int → Hp → Prop) → Prop} (he : PRg X e te) : PRg X e (fun σ H Q => ∃ R : Int → Int → Hp → Prop, (∀ a b H1, R a b H1 → Q a b H1) ∧ te σ H R) := by
  intro pins s σ H Q I ⟨R, i, q⟩
  refine thn (he pins s σ H R I q) fun x s1 ⟨r, a, b, t, u, v, H1, ex, hr, I1, z⟩ => ⟨r, a, b, t, u, v, H1, ex, hr, I1, i a b H1 z⟩
theorem pe_listRgN {X : Cx} {e : Expr} {te : L2.St → Hp → (Int → Int → Hp → Prop) → Prop} {p pos : Pos} (hc : X.calm = true) (hg : Gl X "list") (hm : X.mg "list" = none) (he : PRg X e te) (na : starEach [e] X.env = (false, eval e X.env) :: starEach [] X.env := by rfl) :
    PE X (.Call (.Name "list" p) [e] [] pos) (fun σ H Q => te σ H fun a b H1 => RgOk a b ∧ New H1 (.lst (rgV a b)) Q) :=
  pe_weak (pe_listRg hc hg hm (prg_cl he) na) fun _ _ _ q => ⟨_, fun _ _ _ z => ⟨z.1, z.2.to⟩, q⟩
end Nw
namespace Co
open PySem PySem.Spec PyProof.Rows L2 GxR Nw Dr Kp Se
/-! ### cores (k41 k44 k84 k91) -/
theorem pi_seq {X : Cx} {tg l : Expr} {tl : TE} (hl : PE X l tl) : PI X tg l (fun σ H R => iList X.K tl σ H R ∨ iTup X.K tl σ H R) :=
  ⟨fun pins s σ H R I h => h.elim ((pi_list hl).run pins s σ H R I) ((pi_tup hl).run pins s σ H R I)⟩
abbrev nv (n : Nat) : V := .int n
/-- a list or a tuple of numbers -/
def NumL (H : Hp) (u : V) (ns : List Nat) : Prop := ∃ a, u = .ref a ∧ (H a = some (.lst (ns.map nv)) ∨ H a = some (.tup (ns.map nv)))
def pick (css : List (List Int)) (ns : List Nat) : List (List Int) := ns.map fun n => css.getD n []
def out (ns : List Nat) (n : Nat) : List Nat := ns.filter fun m => !decide (V.int (m : Nat) = V.int (n : Nat))
theorem mem_out {ns : List Nat} {n m : Nat} : m ∈ out ns n ↔ m ∈ ns ∧ m ≠ n := by
  unfold out
  rw [List.mem_filter, Bool.not_eq_true', decide_eq_false_iff_not]
  refine and_congr Iff.rfl (not_congr ⟨fun e => ?_, fun e => by rw [e]⟩)
  have := V.int.inj e
  omega
theorem out_len {ns : List Nat} {n : Nat} : (out ns n).length ≤ ns.length := List.length_filter_le _ _
/-- claims told one by one -/
def Tls (H : Hp) (vs : List V) (css : List (List Int)) : Prop := vs.length = css.length ∧ ∀ (i : Nat) (x : V) (cs : List Int), vs[i]? = some x → css[i]? = some cs → TupI H x cs
theorem Tls.nil {H : Hp} : Tls H [] [] := ⟨rfl, fun i x cs h => by cases h⟩
theorem Tls.snoc {H : Hp} {vs : List V} {css : List (List Int)} {v : V} {c : List Int} (h : Tls H vs css) (r : TupI H v c) : Tls H (vs ++ [v]) (css ++ [c]) := by
  refine ⟨by rw [List.length_append, List.length_append, h.1]; rfl, fun i x' y' h1 h2 => ?_⟩
  by_cases hi : i < vs.length
  · rw [List.getElem?_append_left hi] at h1
    rw [List.getElem?_append_left (by rw [← h.1]; exact hi)] at h2
    exact h.2 i x' y' h1 h2
  · have e : i = vs.length := by
      have := (List.getElem?_eq_some_iff.mp h1).1
      rw [List.length_append, List.length_singleton] at this
      omega
    subst e
    rw [List.getElem?_append_right (Nat.le_refl _), Nat.sub_self] at h1
    rw [List.getElem?_append_right (by rw [h.1]; exact Nat.le_refl _), show vs.length - css.length = 0 by rw [h.1]; exact Nat.sub_self _] at h2
    cases h1
    cases h2
    exact r
theorem nat_at {ns : List Nat} {i : Nat} {x : V} (hx : (ns.map nv)[i]? = some x) : ∃ n, ns[i]? = some n ∧ x = nv n := by
  rw [List.getElem?_map] at hx
  obtain ⟨n, hn, e⟩ := Option.map_eq_some_iff.mp hx
  exact ⟨n, hn, e.symm⟩
theorem take_add {ns : List Nat} {i n : Nat} (h : ns[i]? = some n) : ns.take (i + 1) = ns.take i ++ [n] := by
  rw [List.take_add_one, h]
  rfl
theorem same_wr {H H1 : Hp} {D : Addr} {o : HO} (s : Same H H1) (n : H D = none) : Same H (upd H1 D o) := fun b x e => by
  rw [upd_ne (ne_of_none e n)]
  exact s b x e
/-- the claim follows -/
def Flw (css : List (List Int)) (cs : List Int) : Prop := ∀ bs, ¬ Ctr css cs bs
theorem Flw.mono {css dss : List (List Int)} {cs : List Int} (h : ∀ c ∈ css, c ∈ dss) (f : Flw css cs) : Flw dss cs := fun bs ⟨a, b, c⟩ => f bs ⟨a, b, List.all_eq_true.mpr fun x hx => List.all_eq_true.mp c x (h x hx)⟩
theorem pick_mono {css : List (List Int)} {ns ms : List Nat} (h : ∀ n ∈ ns, n ∈ ms) : ∀ c ∈ pick css ns, c ∈ pick css ms := fun c hc => by
  obtain ⟨n, hn, rfl⟩ := List.mem_map.mp hc
  exact List.mem_map.mpr ⟨n, h n hn, rfl⟩
theorem pick_mem {css : List (List Int)} {ns : List Nat} (h : ∀ n ∈ ns, n < css.length) : ∀ c ∈ pick css ns, c ∈ css := fun c hc => by
  obtain ⟨n, hn, rfl⟩ := List.mem_map.mp hc
  rw [List.getD_eq_getElem?_getD, List.getElem?_eq_getElem (h n hn)]
  exact List.getElem_mem (h n hn)
structure Core (css : List (List Int)) (cs : List Int) (ns : List Nat) : Prop where
  up : ns.Pairwise (· < ·)
  bd : ∀ n ∈ ns, n < css.length
  fl : Flw (pick css ns) cs
  mn : ∀ n ∈ ns, ¬ Flw (pick css (out ns n)) cs
theorem shF : SeqAt.shaped (.tuple [.str "follows"]) = true := by decide +kernel
structure Zc (mg : Str → Option Value) : Prop where
  z_len : mg "len" = none
  z_list : mg "list" = none
  z_tuple : mg "tuple" = none
  z_range : mg "range" = none
section
variable {P : Program} {w : World} {K : PySem.W.Frag} {mg : Str → Option Value} {base : Heap}
abbrev sCby : Stmt := topS 18
abbrev nCby : List Str := ["book", "numbers", "number"]
theorem scCby : FnScope nCby ["book", "numbers"] (defScope sCby) := ⟨rfl, rfl, rfl, by decide +kernel, rfl, by decide +kernel, by decide +kernel⟩
def spCby : Sp := fun vs H Q _ => ∃ (v u : V) (css : List (List Int)) (ns : List Nat), vs = [v, u] ∧ Bk H v css ∧ NumL H u ns ∧ (∀ n ∈ ns, n < css.length) ∧ ns.length ≤ 100 ∧ ∀ p H', Same H H' → Bk H' (.ref p) (pick css ns) → Q (.ref p) H'
theorem ok_cby {f : Addr} {fd : FuncData} {k : Nat} (F : Fun K "claims_by" "claims_by" sCby f fd) (T : Zc mg) : FnOk P w K mg base CX0 (k + 1) f fd ["book", "numbers"] spCby := by
  refine F.ok scCby (fun vs H Q E h => ?_) (fun cdv A outer s H vs Q E hr h => ?_)
  · obtain ⟨v, u, css, ns, rfl, _⟩ := h
    rfl
  · obtain ⟨v, u, css, ns, rfl, ⟨ba, bvs, rfl, hB, lB, aB⟩, ⟨a, rfl, ha⟩, bd, l100, q⟩ := h
    refine ⟨_, (pss_one (ps_ret (pe_callTy call_tuple_ofN (by rfl) T.z_tuple (by decide +kernel) (pa_cons (pe_lc (own := [("number", 2)]) (g := (gName 2)) (tt := tYes) rfl scCby.nd (pi_seq (pv 1)) (blkOk_by (N := nCby) (sc := defScope sCby) (by decide +kernel)) (fun _ _ _ _ _ => (pg_name (i := 2) scCby.nd rfl (.inl rfl))) (fun _ _ _ _ _ => pts_nil) (fun _ _ _ _ _ => (pe_ix (ix_tupB (K := K) rfl) (pv 0) (pv 2) (fun _ _ => rfl)))) pa_nil)))), ?_⟩
    have fin : ∀ D H1, Same H H1 → (∃ vs, H1 D = some (.lst vs) ∧ Tls H vs (pick css ns)) → ∃ (b : Addr) (vs : List V), [V.ref D] = [V.ref b] ∧ SqL K H1 b vs ∧ New H1 (.tup vs) Q := by
      rintro D H1 s1 ⟨vs, hD, lv, av⟩
      exact ⟨D, vs, rfl, .of hD, fun p H2 np s2 hp _ => q p H2 (s1.trans s2) ⟨p, vs, rfl, hp, lv, fun i x cs e1 e2 => (av i x cs e1 e2).ke (.same (s1.trans s2)) (F := Nof)⟩⟩
    have step : ∀ (D : Addr) (nD : H D = none) (i : Nat) (x : V) (H1 : Hp), (ns.map nv)[i]? = some x → (Same H H1 ∧ ∃ vs, H1 D = some (.lst vs) ∧ Tls H vs (pick css (ns.take i))) → ∃ (n : Nat) (bv : V), x = nv n ∧ SqT K H1 ba bvs ∧ bvs[n]? = some bv ∧ ∃ acc, H1 D = some (.lst acc) ∧ acc.length < sizeLine ∧ Same H (upd H1 D (.lst (acc ++ [bv]))) ∧ ∃ vs, (upd H1 D (.lst (acc ++ [bv]))) D = some (.lst vs) ∧ Tls H vs (pick css (ns.take (i + 1))) := by
      rintro D nD i x H1 hx ⟨s1, vs, hD, tl⟩
      obtain ⟨n, hn, rfl⟩ := nat_at hx
      have ln := bd n (List.mem_of_getElem? hn)
      have hv := List.getElem?_eq_getElem (show n < bvs.length by omega)
      generalize bvs[n]'(by omega) = bv at hv
      have hc := List.getElem?_eq_getElem ln
      refine ⟨n, bv, rfl, .of (s1 _ _ hB), hv, vs, hD, small1000 ?_, same_wr s1 nD, _, upd_same, ?_⟩
      · rw [tl.1]
        unfold pick
        rw [List.length_map, List.length_take]
        omega
      · rw [take_add hn]
        unfold pick
        rw [List.map_append]
        refine tl.snoc ?_
        show TupI H bv (css.getD n [])
        rw [List.getD_eq_getElem?_getD, hc]
        exact aB n bv _ hv hc
    rcases ha with ha | ha
    · refine .inl ⟨_, rfl, a, rfl, ⟨_, .of ha⟩, fun D nD => ?_⟩
      refine lc_list (xs := ns.map nv) (Pv := fun i H1 => Same H H1 ∧ ∃ vs, H1 D = some (.lst vs) ∧ Tls H vs (pick css (ns.take i))) ⟨same_new nD, [], upd_same, .nil⟩ (fun i H' _ z => .of (z.1 _ _ ha)) ?_ ?_
      · rintro i x H1 hx z
        obtain ⟨n, bv, rfl, hB1, hv, rest⟩ := step D nD i x H1 hx z
        exact ⟨rfl, _, rfl, _, rfl, ba, _, _, bv, rfl, rfl, hB1, at_of (j := n) rfl hv, rest⟩
      · rintro H1 ⟨s1, z⟩
        rw [List.length_map, List.take_length] at z
        exact fin D H1 s1 z
    · refine .inr ⟨_, rfl, a, rfl, ⟨_, .of ha⟩, fun D nD => ?_⟩
      refine lc_tup (xs := ns.map nv) (Pv := fun i H1 => Same H H1 ∧ ∃ vs, H1 D = some (.lst vs) ∧ Tls H vs (pick css (ns.take i))) ⟨same_new nD, [], upd_same, .nil⟩ (fun i H' _ z => .of (z.1 _ _ ha)) ?_ ?_
      · rintro i x H1 hx z
        obtain ⟨n, bv, rfl, hB1, hv, rest⟩ := step D nD i x H1 hx z
        exact ⟨rfl, _, rfl, _, rfl, ba, _, _, bv, rfl, rfl, hB1, at_of (j := n) rfl hv, rest⟩
      · rintro H1 ⟨s1, z⟩
        rw [List.length_map, List.take_length] at z
        exact fin D H1 s1 z
theorem sh_not (bs : List Bool) (l : bs.length = 8) : SeqAt.shaped (.tuple [.str "not", .tuple (bs.map PyData.bool)]) = true := by
  show (PyData.canLayAll0 [.str "not", .tuple (bs.map PyData.bool)] && decide (PyData.depth (.tuple [.str "not", .tuple (bs.map PyData.bool)]) ≤ 64)) = true
  have h1 : PyData.canLayAll0 (bs.map PyData.bool) = true := flat_lay _ (flat_bls bs)
  have h2 := flat_depth _ (flat_bls bs)
  have h3 : PyData.strOk "not" = true := by decide +kernel
  simp [PyData.canLay0, PyData.canLayAll0, PyData.depth, PyData.depthAll, h1, h3]
  omega
theorem NumL.same {H H' : Hp} {u : V} {ns : List Nat} (h : NumL H u ns) (s : Same H H') : NumL H' u ns := by
  obtain ⟨a, e, h⟩ := h
  exact ⟨a, e, h.imp (s _ _) (s _ _)⟩
theorem NumL.ke {H H' : Hp} {u : V} {ns : List Nat} (h : NumL H u ns) (k : Ke Nof H H') : NumL H' u ns := by
  obtain ⟨a, e, h⟩ := h
  exact ⟨a, e, h.imp (fun h => k.lst h fun z => z) fun h => k.tups _ _ h⟩
/-- what is left of the numbers when those below i have been tried -/
structure Left (css : List (List Int)) (cs : List Int) (i : Nat) (ns : List Nat) : Prop where
  up : ns.Pairwise (· < ·)
  bd : ∀ n ∈ ns, n < css.length
  fl : Flw (pick css ns) cs
  mn : ∀ n ∈ ns, n < i → ¬ Flw (pick css (out ns n)) cs
theorem Left.zero {css : List (List Int)} {cs : List Int} (f : Flw css cs) : Left css cs 0 (List.range css.length) := by
  refine ⟨List.pairwise_lt_range, fun n hn => List.mem_range.mp hn, f.mono fun c hc => ?_, fun n _ z => absurd z (Nat.not_lt_zero n)⟩
  obtain ⟨n, hn, rfl⟩ := List.getElem_of_mem hc
  refine List.mem_map.mpr ⟨n, List.mem_range.mpr hn, ?_⟩
  rw [List.getD_eq_getElem?_getD, List.getElem?_eq_getElem hn]
  rfl
theorem Left.drop {css : List (List Int)} {cs : List Int} {i : Nat} {ns : List Nat} (h : Left css cs i ns) (f : Flw (pick css (out ns i)) cs) : Left css cs (i + 1) (out ns i) := by
  refine ⟨h.up.sublist (List.filter_sublist), fun n hn => h.bd n (mem_out.mp hn).1, f, fun n hn l z => ?_⟩
  obtain ⟨h1, h2⟩ := mem_out.mp hn
  exact h.mn n h1 (by omega) (z.mono (pick_mono fun m hm => mem_out.mpr ⟨(mem_out.mp (mem_out.mp hm).1).1, (mem_out.mp hm).2⟩))
theorem Left.keep {css : List (List Int)} {cs : List Int} {i : Nat} {ns : List Nat} (h : Left css cs i ns) (f : ¬ Flw (pick css (out ns i)) cs) : Left css cs (i + 1) ns :=
  ⟨h.up, h.bd, h.fl, fun n hn l => by
    by_cases e : n = i
    · rw [e]
      exact f
    · exact h.mn n hn (by omega)⟩
theorem Left.len {css : List (List Int)} {cs : List Int} {i : Nat} {ns : List Nat} (h : Left css cs i ns) : ns.length ≤ css.length := by
  have key : ∀ (ns : List Nat) (m : Nat), ns.Pairwise (· < ·) → (∀ n ∈ ns, m ≤ n) → ∀ b, (∀ n ∈ ns, n < b) → ns.length + m ≤ b ∨ ns = [] := by
    intro ns
    induction ns with
    | nil => exact fun _ _ _ _ _ => .inr rfl
    | cons x r ih =>
      intro m p lo b hi
      obtain ⟨p1, p2⟩ := List.pairwise_cons.mp p
      have hx := lo x List.mem_cons_self
      have hb := hi x List.mem_cons_self
      rcases ih (x + 1) p2 (fun n hn => p1 n hn) b (fun n hn => hi n (List.mem_cons_of_mem _ hn)) with z | z
      · left
        rw [List.length_cons]
        omega
      · left
        rw [z]
        show 1 + m ≤ b
        omega
  rcases key ns 0 h.up (fun _ _ => Nat.zero_le _) css.length h.bd with z | z
  · exact z
  · rw [z]
    exact Nat.zero_le _
/-- settings told one by one -/
def Sets (H : Hp) (vs : List V) (sets : List (List Bool)) : Prop := vs.length = sets.length ∧ ∀ (i : Nat) (x : V) (bs : List Bool), vs[i]? = some x → sets[i]? = some bs → TupB H x bs
theorem Sets.nil {H : Hp} : Sets H [] [] := ⟨rfl, fun i x cs h => by cases h⟩
theorem Sets.snoc {H : Hp} {vs : List V} {css : List (List Bool)} {v : V} {c : List Bool} (h : Sets H vs css) (r : TupB H v c) : Sets H (vs ++ [v]) (css ++ [c]) := by
  refine ⟨by rw [List.length_append, List.length_append, h.1]; rfl, fun i x' y' h1 h2 => ?_⟩
  by_cases hi : i < vs.length
  · rw [List.getElem?_append_left hi] at h1
    rw [List.getElem?_append_left (by rw [← h.1]; exact hi)] at h2
    exact h.2 i x' y' h1 h2
  · have e : i = vs.length := by
      have := (List.getElem?_eq_some_iff.mp h1).1
      rw [List.length_append, List.length_singleton] at this
      omega
    subst e
    rw [List.getElem?_append_right (Nat.le_refl _), Nat.sub_self] at h1
    rw [List.getElem?_append_right (by rw [h.1]; exact Nat.le_refl _), show vs.length - css.length = 0 by rw [h.1]; exact Nat.sub_self _] at h2
    cases h1
    cases h2
    exact r
theorem Sets.ke {F : Addr → Prop} {H H' : Hp} {vs : List V} {sets : List (List Bool)} (h : Sets H vs sets) (k : Ke F H H') : Sets H' vs sets := ⟨h.1, fun i x bs h1 h2 => (h.2 i x bs h1 h2).ke k⟩
/-- settings that show that none can be left out -/
def Needs (css : List (List Int)) (cs : List Int) (ns : List Nat) (sets : List (List Bool)) : Prop := sets.length = ns.length ∧ ∀ (i n : Nat) (bs : List Bool), ns[i]? = some n → sets[i]? = some bs → Ctr (pick css (out ns n)) cs bs
end
end Co
namespace Od
open PySem PySem.Spec PyProof.Rows L2 GxR Nw Dr Kp
/-! ### anything: values by their data; no list among them is one of f -/
mutual
inductive OdV (f : Addr → Prop) (H : Hp) : V → PyData → Prop
  | non : OdV f H .non .none
  | bl (b : Bool) : OdV f H (.bl b) (.bool b)
  | int (i : Int) : OdV f H (.int i) (.int i)
  | str (x : Str) : OdV f H (.str x) (.str x)
  | lst {a : Addr} {xs : List V} {ds : List PyData} : H a = some (.lst xs) → ¬ f a → OdAll f H xs ds → OdV f H (.ref a) (.list ds)
  | tup {a : Addr} {xs : List V} {ds : List PyData} : H a = some (.tup xs) → OdAll f H xs ds → OdV f H (.ref a) (.tuple ds)
inductive OdAll (f : Addr → Prop) (H : Hp) : List V → List PyData → Prop
  | nil : OdAll f H [] []
  | cons {v : V} {vs : List V} {d : PyData} {ds : List PyData} : OdV f H v d → OdAll f H vs ds → OdAll f H (v :: vs) (d :: ds)
end
variable {f : Addr → Prop} {H H' : Hp}
mutual
theorem OdV.dp {K : PySem.W.Frag} : ∀ {d : PyData} {v : V}, OdV f H v d → Dp K H v d
  | .none, _, h => by cases h; exact .non
  | .bool _, _, h => by cases h; exact .bl _
  | .int _, _, h => by cases h; exact .int _
  | .str _, _, h => by cases h; exact .str _
  | .list ds, _, h => by cases h with | lst h1 _ h2 => exact .lst (.of h1) (OdAll.dp h2)
  | .tuple ds, _, h => by cases h with | tup h1 h2 => exact .tup (.of h1) (OdAll.dp h2)
  | .dict _, _, h => by cases h
theorem OdAll.dp {K : PySem.W.Frag} : ∀ {ds : List PyData} {vs : List V}, OdAll f H vs ds → DpAll K H vs ds
  | [], _, h => by cases h; exact .nil
  | d :: ds, _, h => by cases h with | cons h1 h2 => exact .cons (OdV.dp h1) (OdAll.dp h2)
end
mutual
theorem OdV.ke (k : Ke f H H') : ∀ {d : PyData} {v : V}, OdV f H v d → OdV f H' v d
  | .none, _, h => by cases h; exact .non
  | .bool _, _, h => by cases h; exact .bl _
  | .int _, _, h => by cases h; exact .int _
  | .str _, _, h => by cases h; exact .str _
  | .list ds, _, h => by cases h with | lst h1 n h2 => exact .lst (k.lst h1 n) n (OdAll.ke k h2)
  | .tuple ds, _, h => by cases h with | tup h1 h2 => exact .tup (k.tups _ _ h1) (OdAll.ke k h2)
  | .dict _, _, h => by cases h
theorem OdAll.ke (k : Ke f H H') : ∀ {ds : List PyData} {vs : List V}, OdAll f H vs ds → OdAll f H' vs ds
  | [], _, h => by cases h; exact .nil
  | d :: ds, _, h => by cases h with | cons h1 h2 => exact .cons (OdV.ke k h1) (OdAll.ke k h2)
end
theorem OdAll.len : ∀ {vs : List V} {ds : List PyData}, OdAll f H vs ds → vs.length = ds.length
  | [], _, h => by cases h; rfl
  | v :: vs, _, h => by cases h with | cons h1 h2 => rw [List.length_cons, List.length_cons, OdAll.len h2]
theorem OdAll.at : ∀ {vs : List V} {ds : List PyData} {i : Nat} {v : V}, OdAll f H vs ds → vs[i]? = some v → ∃ d, ds[i]? = some d ∧ OdV f H v d
  | [], _, _, _, _, e => by simp at e
  | v :: vs, _, 0, _, h, e => by
    cases h with
    | cons h1 h2 =>
      cases e
      exact ⟨_, rfl, h1⟩
  | v :: vs, _, i + 1, _, h, e => by
    cases h with
    | cons h1 h2 => exact OdAll.at (vs := vs) (i := i) h2 (by simpa using e)
theorem OdAll.cat : ∀ {vs us : List V} {ds es : List PyData}, OdAll f H vs ds → OdAll f H us es → OdAll f H (vs ++ us) (ds ++ es)
  | [], _, _, _, h, g => by cases h; exact g
  | v :: vs, _, _, _, h, g => by cases h with | cons h1 h2 => exact .cons h1 (OdAll.cat h2 g)
theorem OdAll.one {v : V} {d : PyData} (h : OdV f H v d) : OdAll f H [v] [d] := .cons h .nil
theorem OdAll.take : ∀ {vs : List V} {ds : List PyData} (n : Nat), OdAll f H vs ds → OdAll f H (vs.take n) (ds.take n)
  | _, _, 0, _ => by rw [List.take_zero, List.take_zero]; exact .nil
  | [], _, n + 1, h => by cases h; exact .nil
  | v :: vs, _, n + 1, h => by cases h with | cons h1 h2 => exact .cons h1 (OdAll.take n h2)
theorem OdAll.drop : ∀ {vs : List V} {ds : List PyData} (n : Nat), OdAll f H vs ds → OdAll f H (vs.drop n) (ds.drop n)
  | _, _, 0, h => by rw [List.drop_zero, List.drop_zero]; exact h
  | [], _, n + 1, h => by cases h; exact .nil
  | v :: vs, _, n + 1, h => by cases h with | cons h1 h2 => exact OdAll.drop n h2
theorem OdAll.rev : ∀ {vs : List V} {ds : List PyData}, OdAll f H vs ds → OdAll f H vs.reverse ds.reverse
  | [], _, h => by cases h; exact .nil
  | v :: vs, _, h => by
    cases h with
    | cons h1 h2 =>
      rw [List.reverse_cons, List.reverse_cons]
      exact (OdAll.rev h2).cat (.one h1)
theorem od_ints : ∀ ns : List Int, OdAll f H (ns.map V.int) (ns.map PyData.int)
  | [] => .nil
  | n :: r => .cons (.int n) (od_ints r)
/-! ### what anything is -/
def tyD : PyData → String
  | .none => "NoneType" | .bool _ => "bool" | .int _ => "int" | .str _ => "str" | .list _ => "list" | .tuple _ => "tuple" | .dict _ => "dict"
theorem OdV.ty {K : PySem.W.Frag} {d : PyData} {v : V} (h : OdV f H v d) : TyX K H v (.type (tyD d)) := by
  cases h with
  | non => exact .base .non
  | bl b => exact .base (.bl b)
  | int i => exact .base (.int i)
  | str x => exact .base (.str x)
  | lst h1 _ _ => exact .base (.lst h1)
  | tup h1 _ => exact .base (.tup h1)
def whD : PyData → Bool
  | .int _ => true
  | _ => false
def tuD : PyData → Bool
  | .tuple _ => true
  | _ => false
def numD : PyData → Int → Bool
  | .int n, m => decide (0 ≤ n) && decide (n < m)
  | _, _ => false
/-! ### small data, to be shown -/
structure Sm (B : Nat) (d : PyData) : Prop where
  sh : d.showable = true
  nd : d.hasDict = false
  dp : d.depth ≤ 6
  sz : d.shown.length ≤ B
structure SmAll (B : Nat) (ds : List PyData) : Prop where
  sh : PyData.showableAll ds = true
  nd : PyData.hasDictAll ds = false
  dp : PyData.depthAll ds ≤ 5
  sz : ∀ x ∈ PyData.shownAll ds, x.length ≤ B
theorem SmAll.nil {B : Nat} : SmAll B [] := ⟨rfl, rfl, by decide, fun _ h => nomatch h⟩
theorem SmAll.cons {B : Nat} {d : PyData} {ds : List PyData} (h : Sm B d) (h5 : d.depth ≤ 5) (t : SmAll B ds) : SmAll B (d :: ds) := by
  refine ⟨?_, ?_, ?_, fun x hx => ?_⟩
  · show (PyData.showable d && PyData.showableAll ds) = true
    rw [h.sh, t.sh]
    rfl
  · show (PyData.hasDict d || PyData.hasDictAll ds) = false
    rw [h.nd, t.nd]
    rfl
  · exact Nat.max_le.mpr ⟨h5, t.dp⟩
  · rcases List.mem_cons.mp hx with e | e
    · rw [e]
      exact h.sz
    · exact t.sz x e
theorem shownAll_len : ∀ ds : List PyData, (PyData.shownAll ds).length = ds.length
  | [] => rfl
  | _ :: r => congrArg (· + 1) (shownAll_len r)
theorem sum_le {B : Nat} : ∀ {l : List Nat}, (∀ x ∈ l, x ≤ B) → l.sum ≤ B * l.length
  | [], _ => Nat.zero_le _
  | x :: r, h => by
    have h1 := h x List.mem_cons_self
    have h2 := sum_le (l := r) fun y hy => h y (List.mem_cons_of_mem _ hy)
    rw [List.sum_cons, List.length_cons, Nat.mul_add]
    omega
theorem SmAll.sum {B : Nat} {ds : List PyData} (h : SmAll B ds) : ((PyData.shownAll ds).map (·.length)).sum ≤ B * ds.length := by
  have := sum_le (B := B) (l := (PyData.shownAll ds).map (·.length)) fun x hx => by
    obtain ⟨y, hy, rfl⟩ := List.mem_map.mp hx
    exact h.sz y hy
  rw [List.length_map, shownAll_len] at this
  exact this
theorem SmAll.list {B n B' : Nat} {ds : List PyData} (h : SmAll B ds) (l : ds.length ≤ n) (hb : B * n + 2 * n + 3 ≤ B') : Sm B' (.list ds) := by
  have e := listText_len_le (PyData.shownAll ds)
  have s := h.sum
  rw [shownAll_len] at e
  have m : B * ds.length ≤ B * n := Nat.mul_le_mul_left _ l
  exact ⟨h.sh, h.nd, by show PyData.depthAll ds + 1 ≤ 6; have := h.dp; omega, by show (listText (PyData.shownAll ds)).length ≤ B'; omega⟩
theorem SmAll.tuple {B n B' : Nat} {ds : List PyData} (h : SmAll B ds) (l : ds.length ≤ n) (hb : B * n + 2 * n + 3 ≤ B') : Sm B' (.tuple ds) := by
  have e := tupleText_len_le (PyData.shownAll ds)
  have s := h.sum
  rw [shownAll_len] at e
  have m : B * ds.length ≤ B * n := Nat.mul_le_mul_left _ l
  exact ⟨h.sh, h.nd, by show PyData.depthAll ds + 1 ≤ 6; have := h.dp; omega, by show (tupleText (PyData.shownAll ds)).length ≤ B'; omega⟩
theorem SmAll.cat {B : Nat} : ∀ {ds es : List PyData}, SmAll B ds → SmAll B es → SmAll B (ds ++ es)
  | [], _, _, g => g
  | d :: r, es, h, g => by
    have hs := h.sh
    have hn := h.nd
    have hd := h.dp
    have hz := h.sz
    have hs' : (PyData.showable d && PyData.showableAll r) = true := hs
    have hn' : (PyData.hasDict d || PyData.hasDictAll r) = false := hn
    rw [Bool.and_eq_true] at hs'
    rw [Bool.or_eq_false_iff] at hn'
    have hd' : Nat.max (PyData.depth d) (PyData.depthAll r) ≤ 5 := hd
    have z := Nat.max_le.mp hd'
    have hr : SmAll B r := ⟨hs'.2, hn'.2, z.2, fun x hx => hz x (List.mem_cons_of_mem _ hx)⟩
    exact SmAll.cons ⟨hs'.1, hn'.1, by omega, hz _ List.mem_cons_self⟩ z.1 (SmAll.cat hr g)
theorem SmAll.of {B : Nat} : ∀ {ds : List PyData}, (∀ d ∈ ds, Sm B d ∧ d.depth ≤ 5) → SmAll B ds
  | [], _ => .nil
  | d :: r, h => SmAll.cons (h d List.mem_cons_self).1 (h d List.mem_cons_self).2 (SmAll.of fun x hx => h x (List.mem_cons_of_mem _ hx))
theorem SmAll.mem {B : Nat} : ∀ {ds : List PyData}, SmAll B ds → ∀ d ∈ ds, Sm B d ∧ d.depth ≤ 5
  | [], _, d, hd => nomatch hd
  | e :: r, h, d, hd => by
    have hs' : (PyData.showable e && PyData.showableAll r) = true := h.sh
    have hn' : (PyData.hasDict e || PyData.hasDictAll r) = false := h.nd
    rw [Bool.and_eq_true] at hs'
    rw [Bool.or_eq_false_iff] at hn'
    have hd' : Nat.max (PyData.depth e) (PyData.depthAll r) ≤ 5 := h.dp
    have z := Nat.max_le.mp hd'
    rcases List.mem_cons.mp hd with u | u
    · rw [u]
      exact ⟨⟨hs'.1, hn'.1, by omega, h.sz _ List.mem_cons_self⟩, z.1⟩
    · exact SmAll.mem (ds := r) ⟨hs'.2, hn'.2, z.2, fun x hx => h.sz x (List.mem_cons_of_mem _ hx)⟩ d u
theorem Sm.mono {B B' : Nat} {d : PyData} (h : Sm B d) (l : B ≤ B') : Sm B' d := ⟨h.sh, h.nd, h.dp, Nat.le_trans h.sz l⟩
theorem small_ints : ∀ n : Fin 130, PyData.showable (.int ((n.val : Int) - 60)) = true ∧ (PyData.shown (.int ((n.val : Int) - 60))).length ≤ 3 := by decide +kernel
theorem sm_int {n : Int} (h0 : -60 ≤ n) (h1 : n < 70) : Sm 3 (.int n) := by
  have := small_ints ⟨(n + 60).toNat, by omega⟩
  rw [show (((n + 60).toNat : Nat) : Int) - 60 = n by omega] at this
  exact ⟨this.1, rfl, by show 0 ≤ 6; decide, this.2⟩
theorem OdV.un {g : Addr → Prop} (h : ∀ a, g a → f a) : ∀ {d : PyData} {v : V}, OdV f H v d → OdV g H v d := fun {d v} => OdV.rec (motive_1 := fun v d _ => OdV g H v d) (motive_2 := fun vs ds _ => OdAll g H vs ds) .non .bl .int .str (fun h1 n _ ih => .lst h1 (fun z => n (h _ z)) ih) (fun h1 _ ih => .tup h1 ih) .nil (fun _ _ i1 i2 => .cons i1 i2)
theorem OdAll.un {g : Addr → Prop} (h : ∀ a, g a → f a) : ∀ {ds : List PyData} {vs : List V}, OdAll f H vs ds → OdAll g H vs ds
  | [], _, x => by cases x; exact .nil
  | _ :: _, _, x => by cases x with | cons h1 h2 => exact .cons (OdV.un h h1) (OdAll.un h h2)
end Od
namespace Oh
open PySem PySem.Spec PyProof.Rows L2 GxR Nw Dr Kp Se Od
/-! ### whole numbers, numbers of, cuts: of anything (from og, for texts that have no cuts) -/
section
variable {P : Program} {w : World} {K : PySem.W.Frag} {mg : Str → Option Value} {base : Heap} {CX : CXT} {k : Nat} {f : Addr} {fd : FuncData} {ps : List Str}
def orS (a b : Sp) : Sp := fun vs H Q E => a vs H Q E ∨ b vs H Q E
theorem ok_or {a b : Sp} (F : FnOk P w K mg base CX k f fd ps a) (G : FnOk P w K mg base CX k f fd ps b) : FnOk P w K mg base CX k f fd ps (orS a b) :=
  ⟨fun us H Q E h => h.elim (F.len us H Q E) (G.len us H Q E), fun A outer s H args us vs Q E room env bind rel ask => ask.elim (F.run A outer s H args us vs Q E room env bind rel) (G.run A outer s H args us vs Q E room env bind rel)⟩
theorem ok_weak {a b : Sp} (F : FnOk P w K mg base CX k f fd ps a) (i : ∀ vs H Q E, b vs H Q E → a vs H Q E) : FnOk P w K mg base CX k f fd ps b :=
  ⟨fun us H Q E h => F.len us H Q E (i _ _ _ _ h), fun A outer s H args us vs Q E room env bind rel ask => F.run A outer s H args us vs Q E room env bind rel (i _ _ _ _ ask)⟩
end
theorem eqv_str {d : PyData} {x : Str} : PyData.eqv d (.str x) = true ↔ d = .str x := by
  cases d <;> simp [PyData.eqv]
theorem two_of {f0 : Addr → Prop} {H : Hp} {xs : List V} {ds : List PyData} (h : OdAll f0 H xs ds) (l : xs.length = 2) : ∃ v0 v1 d0 d1, xs = [v0, v1] ∧ ds = [d0, d1] ∧ OdV f0 H v0 d0 ∧ OdV f0 H v1 d1 := by
  match xs, l, h with
  | [v0, v1], _, .cons h0 (.cons h1 .nil) => exact ⟨v0, v1, _, _, rfl, rfl, h0, h1⟩
theorem four_of {f0 : Addr → Prop} {H : Hp} {xs : List V} {ds : List PyData} (h : OdAll f0 H xs ds) (l : xs.length = 4) : ∃ v0 v1 v2 v3 d0 d1 d2 d3, xs = [v0, v1, v2, v3] ∧ ds = [d0, d1, d2, d3] ∧ OdV f0 H v0 d0 ∧ OdV f0 H v1 d1 ∧ OdV f0 H v2 d2 ∧ OdV f0 H v3 d3 := by
  match xs, l, h with
  | [v0, v1, v2, v3], _, .cons h0 (.cons h1 (.cons h2 (.cons h3 .nil))) => exact ⟨v0, v1, v2, v3, _, _, _, _, rfl, rfl, h0, h1, h2, h3⟩
theorem num_int {d : PyData} {m : Int} (h : numD d m = true) : ∃ n : Nat, d = .int (n : Nat) ∧ ((n : Nat) : Int) < m := by
  cases d with
  | int i =>
    have h : (decide (0 ≤ i) && decide (i < m)) = true := h
    rw [Bool.and_eq_true] at h
    have h1 := of_decide_eq_true h.1
    have h2 := of_decide_eq_true h.2
    exact ⟨i.toNat, by rw [Int.toNat_of_nonneg h1], by omega⟩
  | _ => cases h
theorem num_yes {n : Nat} {m : Int} (h : (n : Int) < m) : numD (.int (n : Nat)) m = true := by
  show (decide ((0 : Int) ≤ (n : Nat)) && decide (((n : Nat) : Int) < m)) = true
  rw [decide_eq_true (by omega), decide_eq_true h]
  rfl
theorem shaped_all : ∀ {ds : List PyData}, PyData.canLayAll0 ds = true → ∀ e ∈ ds, PyData.canLay0 e = true
  | [], _, e, he => nomatch he
  | d :: r, h, e, he => by
    have h : (PyData.canLay0 d && PyData.canLayAll0 r) = true := h
    rw [Bool.and_eq_true] at h
    rcases List.mem_cons.mp he with z | z
    · rw [z]
      exact h.1
    · exact shaped_all h.2 e z
theorem depth_all : ∀ {ds : List PyData} {e : PyData}, e ∈ ds → e.depth ≤ PyData.depthAll ds
  | d :: r, e, he => by
    have h : PyData.depthAll (d :: r) = Nat.max d.depth (PyData.depthAll r) := rfl
    rw [h]
    rcases List.mem_cons.mp he with z | z
    · rw [z]
      exact Nat.le_max_left _ _
    · exact Nat.le_trans (depth_all z) (Nat.le_max_right _ _)
theorem shaped_mk {d : PyData} (h : PyData.canLay0 d = true) (l : d.depth ≤ 64) : SeqAt.shaped d = true := by
  show (PyData.canLay0 d && decide (d.depth ≤ 64)) = true
  rw [h, decide_eq_true l]
  rfl
theorem shaped_ps {d : PyData} (h : SeqAt.shaped d = true) : PyData.canLay0 d = true ∧ d.depth ≤ 64 := by
  have h : (PyData.canLay0 d && decide (d.depth ≤ 64)) = true := h
  rw [Bool.and_eq_true] at h
  exact ⟨h.1, of_decide_eq_true h.2⟩
theorem shaped_tup {ds : List PyData} (h : SeqAt.shaped (.tuple ds) = true) : ∀ e ∈ ds, SeqAt.shaped e = true := fun e he => by
  obtain ⟨h1, h2⟩ := shaped_ps h
  refine shaped_mk (shaped_all h1 e he) ?_
  have := depth_all he
  have h2 : PyData.depthAll ds + 1 ≤ 64 := h2
  omega
theorem shaped_lst {ds : List PyData} (h : SeqAt.shaped (.list ds) = true) : ∀ e ∈ ds, SeqAt.shaped e = true := fun e he => by
  obtain ⟨h1, h2⟩ := shaped_ps h
  refine shaped_mk (shaped_all h1 e he) ?_
  have := depth_all he
  have h2 : PyData.depthAll ds + 1 ≤ 64 := h2
  omega
theorem shaped_book : SeqAt.shaped (.str "book") = true := by decide +kernel
theorem shaped_cut : SeqAt.shaped (.str "cut") = true := by decide +kernel
section
variable {P : Program} {w : World} {K : PySem.W.Frag} {mg : Str → Option Value} {base : Heap}
structure Zo (mg : Str → Option Value) : Prop where
  z_isinstance : mg "isinstance" = none
  z_int : mg "int" = none
  z_bool : mg "bool" = none
/-- whether it is a whole number, of anything -/
def spWhG : Sp := fun vs H Q _ => ∃ (f0 : Addr → Prop) (v : V) (d : PyData), vs = [v] ∧ OdV f0 H v d ∧ Q (.bl (whD d)) H
def spNmG : Sp := fun vs H Q _ => ∃ (f0 : Addr → Prop) (v : V) (d : PyData) (m : Int), vs = [v, .int m] ∧ OdV f0 H v d ∧ Q (.bl (numD d m)) H
end
end Oh
namespace Kc
open PySem PySem.Spec PyProof.Rows L2 GxR Nw Dr Kp Se Od
/-! ### is_claim, is_book: of anything -/
theorem at_int {ks : List Int} {i : Nat} {x : V} (hx : (ks.map V.int)[i]? = some x) : ∃ z, ks[i]? = some z ∧ x = V.int z := by
  rw [List.getElem?_map] at hx
  cases e : ks[i]? with
  | none =>
    rw [e] at hx
    cases hx
  | some z =>
    rw [e] at hx
    exact ⟨z, rfl, (Option.some.inj hx).symm⟩
theorem ints_flat (cs : List Int) : (cs.map V.int).all flatV = true := by
  rw [List.all_eq_true]
  intro v hv
  obtain ⟨z, _, rfl⟩ := List.mem_map.mp hv
  rfl
theorem pg_tupB {X : Cx} {K : PySem.W.Frag} {es : List Expr} {k : Nat} {t : TGs} {n : Nat} {pos : Pos} (hK : X.K = K) (hc : X.calm = true) (h : PGs X es t) (hn : (assignEach es X.env).length = n := by rfl) (hst : (assignEach es X.env).findIdx? (·.1) = none := by rfl) : PG X (.Tuple es k pos) (gTup K n t) := by
  subst hK
  exact pg_tup hc h hn hst
structure Cl0 (ns : List Int) : Prop where
  up : ns.Pairwise (· < ·)
  says : ∀ k ∈ ns, k ≠ 0 ∧ -8 ≤ k ∧ k ≤ 8
  opp : ∀ k ∈ ns, -k ∉ ns
def ClD (d : PyData) : Prop := ∃ ns : List Int, d = .tuple (ns.map PyData.int) ∧ Cl0 ns
def BkD (d : PyData) : Prop := ∃ ds : List PyData, d = .tuple ds ∧ 1 ≤ ds.length ∧ ds.length ≤ 16 ∧ ∀ e ∈ ds, ClD e
theorem int_inj : ∀ {l m : List Int}, l.map PyData.int = m.map PyData.int → l = m
  | [], [], _ => rfl
  | [], _ :: _, h => by cases h
  | _ :: _, [], h => by cases h
  | a :: l, b :: m, h => by
    obtain ⟨h1, h2⟩ := List.cons.inj h
    rw [PyData.int.inj h1, int_inj h2]
theorem od_is {f : Addr → Prop} {H : Hp} : ∀ {vs : List V} {ns : List Int}, OdAll f H vs (ns.map PyData.int) → vs = ns.map V.int
  | [], [], _ => rfl
  | [], _ :: _, h => by cases h
  | _ :: _, [], h => by cases h
  | v :: vs, n :: ns, h => by
    cases h with
    | cons h1 h2 =>
      cases h1
      rw [od_is h2]
      rfl
theorem up_of : ∀ {ns : List Int}, (∀ (j : Nat) (x y : Int), ns[j]? = some x → (ns.drop 1)[j]? = some y → x < y) → ns.Pairwise (· < ·)
  | [], _ => .nil
  | [a], _ => .cons (fun _ h => nomatch h) .nil
  | a :: b :: r, h => by
    have ih := up_of (ns := b :: r) fun j x y hx hy => h (j + 1) x y (by simpa using hx) (by simpa using hy)
    have hab : a < b := h 0 a b rfl rfl
    refine .cons (fun c hc => ?_) ih
    rcases List.mem_cons.mp hc with z | z
    · rw [z]
      exact hab
    · exact Int.lt_trans hab (List.rel_of_pairwise_cons ih z)
theorem up_at {ns : List Int} (h : ns.Pairwise (· < ·)) {i : Nat} {x y : Int} (hx : ns[i]? = some x) (hy : (ns.drop 1)[i]? = some y) : x < y := by
  rw [List.getElem?_drop] at hy
  obtain ⟨l1, e1⟩ := List.getElem?_eq_some_iff.mp hx
  obtain ⟨l2, e2⟩ := List.getElem?_eq_some_iff.mp hy
  rw [← e1, ← e2]
  exact List.pairwise_iff_getElem.mp h i (1 + i) l1 l2 (by omega)
theorem cut_tail (ns : List Int) : cutV (ns.map V.int) (some 1) none = (ns.drop 1).map V.int := by
  unfold cutV
  have e : (1 : Int) = ((1 : Nat) : Int) := rfl
  rw [HT.sIx_none, e, HT.sIx_nat, ← List.map_drop]
  cases ns with
  | nil => rfl
  | cons x r =>
    rw [Nat.min_eq_left (by simp)]
    exact List.take_of_length_le (by simp)
theorem in_ints (k : Int) : ∀ cs : List Int, inV (.int k) (cs.map V.int) = true ↔ k ∈ cs
  | [] => by
    constructor
    · intro h
      cases h
    · intro h
      cases h
  | c :: r => by
    have ih := in_ints k r
    show (eqV (.int c) (.int k) || inV (.int k) (r.map V.int)) = true ↔ _
    rw [Bool.or_eq_true, ih, List.mem_cons]
    have e : eqV (.int c) (.int k) = true ↔ k = c := by
      show (c == k) = true ↔ k = c
      rw [beq_iff_eq]
      exact eq_comm
    rw [e]
structure Zi (mg : Str → Option Value) : Prop where
  z_all : mg "all" = none
  z_any : mg "any" = none
  z_zip : mg "zip" = none
  z_isinstance : mg "isinstance" = none
  z_tuple : mg "tuple" = none
  z_int : mg "int" = none
  z_bool : mg "bool" = none
section
variable {P : Program} {w : World} {K : PySem.W.Frag} {mg : Str → Option Value} {base : Heap}
/-- all(..) over zip of two tuples -/
theorem aa_zipT {K : PySem.W.Frag} {a b : Addr} {xs ys : List V} {g : TG} {tt : TT} {te : TE} {vs : List Nat} {σ : L2.St} {H1 : Hp} {stopb : Bool} {Q : VK} (hy : ys.length ≤ xs.length) (Pv : Nat → Hp → Prop) (h0 : Pv 0 H1) (hl : ∀ i H, Pv i H → SqT K H a xs ∧ SqT K H b ys)
    (hs : ∀ i x y T H, xs[i]? = some x → ys[i]? = some y → Pv i H → H T = none → g (.ref T) (wipe σ vs) (upd H T (.tup [x, y])) fun σ2 H2 => wipe σ2 vs = wipe σ vs ∧ tt σ2 H2 fun b H3 => if b = true then te σ2 H3 fun y H4 => (y = .bl stopb ∧ Q (.bl stopb) H4) ∨ (y = .bl (!stopb) ∧ Pv (i + 1) H4) else Pv (i + 1) H3) (hd : ∀ H, Pv ys.length H → Q (.bl (!stopb)) H) :
    ∃ W : Nat → Nat → Hp → Prop, (∃ m, W 0 m H1) ∧ ∀ i m H, W i m H → ((RZ.ItzT K a b).stop i H ∧ Q (.bl (!stopb)) H) ∨ ((RZ.ItzT K a b).go i H ∧ ∃ Nx : Hp → Prop, (∀ H', Nx H' → ∃ m', m' < m ∧ W (i + 1) m' H') ∧ ∀ x H', (RZ.ItzT K a b).yld i H x H' → g x (wipe σ vs) H' fun σ2 H2 => wipe σ2 vs = wipe σ vs ∧ tt σ2 H2 fun b H3 =>
      if b = true then te σ2 H3 fun y H4 => (y = .bl stopb ∧ Q (.bl stopb) H4) ∨ (y = .bl (!stopb) ∧ Nx H4) else Nx H3) := by
  refine ⟨fun i m H => i + m = ys.length ∧ Pv i H, ⟨ys.length, Nat.zero_add _, h0⟩, fun i m H ⟨e, p⟩ => ?_⟩
  obtain ⟨sa, sb⟩ := hl i H p
  cases m with
  | zero =>
    have ei : i = ys.length := by omega
    subst ei
    exact .inl ⟨⟨xs, ys, sa, sb, .inr (Nat.le_refl _)⟩, hd H p⟩
  | succ m =>
    have lt : i < ys.length := by omega
    have lx : i < xs.length := by omega
    refine .inr ⟨⟨xs, ys, xs[i], ys[i], sa, sb, List.getElem?_eq_getElem lx, List.getElem?_eq_getElem lt⟩, Pv (i + 1), fun H' q => ⟨m, Nat.lt_succ_self m, by omega, q⟩, fun v H' z => ?_⟩
    obtain ⟨T, x, y, rfl, nT, rfl, hx, hy'⟩ := z
    exact hs i x y T H (hx xs sa) (hy' ys sb) p nT
end
end Kc
namespace Cl
open PySem PySem.Spec PyProof.Rows L2 GxR Nw Dr Kp
abbrev sThg : Stmt := topS 30
abbrev sClm : Stmt := topS 31
abbrev sBok : Stmt := topS 32
theorem scThg : FnScope ["feed", "least", "most", "left", "many", "some", "turn"] ["feed", "least", "most"] (defScope sThg) := ⟨rfl, rfl, rfl, by decide +kernel, rfl, by decide +kernel, by decide +kernel⟩
theorem scClm : FnScope ["feed", "things", "most", "left", "says", "turn", "thing"] ["feed", "things", "most"] (defScope sClm) := ⟨rfl, rfl, rfl, by decide +kernel, rfl, by decide +kernel, by decide +kernel⟩
theorem scBok : FnScope ["feed", "things", "most", "claims", "turn", "claim"] ["feed", "things", "most"] (defScope sBok) := ⟨rfl, rfl, rfl, by decide +kernel, rfl, by decide +kernel, by decide +kernel⟩
/-- the built-ins that stand as they stood -/
structure Zs (mg : Str → Option Value) : Prop where
  z_len : mg "len" = none
  z_list : mg "list" = none
  z_range : mg "range" = none
  z_min : mg "min" = none
  z_tuple : mg "tuple" = none
  z_sorted : mg "sorted" = none
/-- things: numbers from 1 to 8, none twice -/
structure Thg (ks : List Int) : Prop where
  nd : ks.Nodup
  one : ∀ k ∈ ks, 1 ≤ k ∧ k ≤ 8
  len : ks.length ≤ 8
theorem perm_pop : ∀ {l : List Int} {d : Nat} {y : Int}, l[d]? = some y → (y :: l.eraseIdx d).Perm l
  | [], _, _, h => by simp at h
  | a :: r, 0, y, h => by
    have e : a = y := Option.some.inj h
    subst e
    exact .refl _
  | a :: r, d + 1, y, h => by
    have ih := perm_pop (l := r) (d := d) (y := y) h
    exact (List.Perm.swap a y _).trans (.cons a ih)
theorem erase_len {l : List Int} {d : Nat} (h : d < l.length) : (l.eraseIdx d).length = l.length - 1 := List.length_eraseIdx_of_lt h
theorem erase_map : ∀ (l : List Int) (d : Nat), (l.map V.int).eraseIdx d = (l.eraseIdx d).map V.int
  | [], _ => rfl
  | _ :: _, 0 => rfl
  | a :: r, d + 1 => congrArg (V.int a :: ·) (erase_map r d)
theorem ix_seq {d : Int} {n : Nat} (h0 : 0 ≤ d) (h1 : d < (n : Int)) : seqIndex? d n = some d.toNat := by
  have e : ixN n d = some d.toNat := by
    unfold ixN
    rw [if_pos h0, if_pos h1]
  exact (ixN_seq e).1
section
variable {P : Program} {w : World} {K : PySem.W.Frag} {mg : Str → Option Value} {base : Heap} {fD fM : Addr} {fdD fdM : FuncData}
def spThg : Sp := fun vs H Q _ => ∃ (f c : Addr) (l m : Int) (B : Nat), vs = [.ref f, .int l, .int m] ∧ 1 ≤ l ∧ l ≤ m ∧ m ≤ 8 ∧ Feed H f c B ∧ B ≤ 2 ^ 58 ∧
  ∀ (ks : List Int) (p : Addr) (H' : Hp), Feed H' f c (B + 10) → Ke (· = f) H H' → Frs H p → H' p = some (.lst (ks.map V.int)) → Thg ks → l ≤ ks.length → (ks.length : Int) ≤ m → Q (.ref p) H'
theorem ok_thg {f : Addr} {fd : FuncData} {k : Nat} (F : Fun K "_law_sthings" "_law_sthings" sThg f fd) (T : Zs mg) (FD : Fun K "_law_sdraw" "_law_sdraw" sDrw fD fdD) (bD : Binds K fdD ["feed", "many"] []) (gD : mg "_law_sdraw" = some (.ref fD)) (GD : FnOk P w K mg base CX0 2 fD fdD ["feed", "many"] spDrw) :
    FnOk P w K mg base CX0 (k + 3) f fd ["feed", "least", "most"] spThg := by
  refine F.ok scThg (fun vs H Q E h => ?_) (fun cdv A outer s H vs Q E hr h => ?_)
  · obtain ⟨f, c, l, m, B, rfl, _⟩ := h
    rfl
  · obtain ⟨f, c, l, m, B, rfl, l0, lm, m8, hF, hB, q⟩ := h
    have hr2 : Room 2 _ := hr.mono (by omega)
    refine ⟨_, (pss_cons (ps_set (i := 3) scThg.nd rfl (.inl rfl) (pe_lstN (pa_cons pe_int (pa_cons pe_int (pa_cons pe_int (pa_cons pe_int (pa_cons pe_int (pa_cons pe_int (pa_cons pe_int (pa_cons pe_int pa_nil))))))))))
      (Evl.pss_cut (ps_set (i := 4) scThg.nd rfl (.inl rfl) (pe_op op_add (pv 1) (pe_call GD hr2 (by rfl) gD FD.kp bD .nil pass0 (pa_cons (pv 0) (pa_cons (pe_op op_sub (pe_op op_add (pv 2) pe_int) (pv 1)) pa_nil)))))
      (pss_cons (ps_set (i := 5) scThg.nd rfl (.inl rfl) (pe_lstN pa_nil))
      (pss_cons (ps_for PassesOwn.never rfl (pi_range1 (by rfl) T.z_range (pa_cons (pv 4) pa_nil)) (pg_name (i := 6) scThg.nd rfl (.inl rfl)) (pss_one (ps_expr (pe_bm PySem.F.plainAttrs_list PySem.F.slot_list_append PySem.F.type_list_append mt_append (pv 5) (pa_cons (pe_bm PySem.F.plainAttrs_list PySem.F.slot_list_pop PySem.F.type_list_pop mt_popAt (pv 3) (pa_cons (pe_call GD hr2 (by rfl) gD FD.kp bD .nil pass0 (pa_cons (pv 0) (pa_cons (pe_callB call_len_seq (by rfl) T.z_len (by decide +kernel) (pa_cons (pv 3) pa_nil)) pa_nil))) pa_nil)) pa_nil)))))
      (pss_one (ps_ret (pv 5))))))), ?_⟩
    refine ⟨by show 8 ≤ sizeLine; decide, fun L H1 nL s1 hL _ => ?_⟩
    have nLf : L ≠ f := hF.nf nL
    have nLc : L ≠ c := hF.nc nL
    refine Evl.q_cut (M := fun σ' H' => ∃ n : Nat, σ' = [some (.ref f), some (.int l), some (.int m), some (.ref L), some (.int n), none, none] ∧ l ≤ n ∧ (n : Int) ≤ m ∧ Feed H' f c (B + 1) ∧ Ke (· = f) H H' ∧ H' L = some (.lst (([1, 2, 3, 4, 5, 6, 7, 8] : List Int).map V.int))) ?_ ?_
    · have F1 : Feed H1 f c B := hF.same s1
      refine ⟨_, rfl, _, rfl, _, rfl, _, _, rfl, rfl, _, rfl, _, _, rfl, rfl, f, c, _, B, rfl, by omega, by omega, F1, by omega, fun d H2 d0 d1 F2 b2 => ?_⟩
      refine ⟨_, _, rfl, rfl, (l + d).toNat, ?_, by omega, by omega, F2, (Ke.same s1).trans (.but F1 b2), (b2 L nLf).trans hL⟩
      rw [Int.toNat_of_nonneg (by omega)]
      rfl
    rintro σ' H2 ⟨n, rfl, ln, nm, F2, k2, hL2⟩
    refine ⟨Nat.zero_le _, fun S H3 nS s3 hS _ => ?_⟩
    have nSL : S ≠ L := Ne.symm (ne_of_none hL2 nS)
    have nSf : S ≠ f := F2.nf nS
    have nSc : S ≠ c := F2.nc nS
    have frS : Frs H S := .ke k2 F2 (.of nS)
    have frL : Frs H L := .of nL
    refine ⟨_, rfl, n, rfl, by omega, by omega, for_range (Pv := fun i σ H' => ∃ (y6 : Option V) (left ks : List Int), σ = [some (.ref f), some (.int l), some (.int m), some (.ref L), some (.int n), some (.ref S), y6] ∧ Feed H' f c (B + 1 + i) ∧ Ke (· = f) H H' ∧ H' L = some (.lst (left.map V.int)) ∧ H' S = some (.lst (ks.map V.int)) ∧
      left.length = 8 - i ∧ ks.length = i ∧ (ks ++ left).Perm [1, 2, 3, 4, 5, 6, 7, 8]) ?_ ?_ ?_⟩
    · exact ⟨none, _, [], rfl, F2.same s3, k2.trans (.same s3), s3 _ _ hL2, hS, rfl, rfl, .refl _⟩
    · rintro i σ H' hi ⟨y6, left, ks, rfl, F4, k4, hL4, hS4, ll, lk, pm⟩
      have hi : i < n := by simpa using hi
      refine ⟨_, rfl, .inl ⟨rfl, _, .of hS4⟩, _, rfl, .inl ⟨rfl, _, .of hL4⟩, _, rfl, _, rfl, L, _, rfl, .inl (.of hL4), f, c, _, B + 1 + i, rfl, ?_, ?_, F4, by omega, fun d H5 d0 d1 F5 b5 => ?_⟩
      · rw [List.length_map]
        omega
      · rw [List.length_map]
        omega
      rw [List.length_map] at d1
      have dl : d.toNat < left.length := by omega
      have hL5 : H5 L = some (.lst (left.map V.int)) := (b5 L nLf).trans hL4
      have hS5 : H5 S = some (.lst (ks.map V.int)) := (b5 S nSf).trans hS4
      have k5 : Ke (· = f) H H5 := k4.trans (.but F4 b5)
      refine ⟨L, _, d, d.toNat, .int left[d.toNat], rfl, rfl, hL5, by omega, by omega, by rw [List.length_map]; exact ix_seq d0 d1, by rw [List.getElem?_map, List.getElem?_eq_getElem dl]; rfl, ?_⟩
      refine ⟨S, _, _, rfl, rfl, by rw [upd_ne nSL]; exact hS5, by rw [List.length_map]; exact small1000 (by omega), ?_⟩
      refine ⟨_, left.eraseIdx d.toNat, ks ++ [left[d.toNat]], rfl, ((F5.upd nLf nLc).upd nSf nSc).mono (by omega), (k5.write frL hL5).write frS (by rw [upd_ne nSL]; exact hS5), ?_, ?_, ?_, ?_, ?_⟩
      · rw [upd_ne (Ne.symm nSL), upd_same, erase_map]
      · rw [upd_same, List.map_append]
        rfl
      · rw [erase_len dl]
        omega
      · rw [List.length_append, lk]
        rfl
      · refine List.Perm.trans ?_ pm
        rw [List.append_assoc]
        exact (List.Perm.refl ks).append (perm_pop (List.getElem?_eq_getElem dl))
    · rintro σ H' ⟨y6, left, ks, rfl, F4, k4, hL4, hS4, ll, lk, pm⟩
      have lk' : ks.length = n := by simpa using lk
      have nd : (ks ++ left).Nodup := pm.nodup_iff.mpr (by decide)
      refine ⟨_, rfl, q ks S H' (F4.mono (by omega)) k4 frS hS4 ⟨(List.nodup_append.mp nd).1, fun k hk => ?_, by omega⟩ (by omega) (by omega)⟩
      have hm : k ∈ ([1, 2, 3, 4, 5, 6, 7, 8] : List Int) := pm.mem_iff.mp (List.mem_append_left _ hk)
      simp only [List.mem_cons, List.not_mem_nil, or_false] at hm
      omega
/-- sclaim(feed, things, most) -/
def spClm : Sp := fun vs H Q _ => ∃ (f c t : Addr) (m : Int) (B : Nat) (ks : List Int), vs = [.ref f, .ref t, .int m] ∧ 0 ≤ m ∧ m ≤ 8 ∧ H t = some (.lst (ks.map V.int)) ∧ Thg ks ∧ Feed H f c B ∧ B ≤ 2 ^ 58 ∧
  ∀ (cs : List Int) (p : Addr) (H' : Hp), Feed H' f c (B + 20) → Ke (· = f) H H' → Frs H p → H' p = some (.tup (cs.map V.int)) → IsCl cs → (∀ s ∈ cs, (s.natAbs : Int) ∈ ks) → (cs.length : Int) ≤ m → Q (.ref p) H'
theorem abs_nd : ∀ {l : List Int}, (l.map fun s => (s.natAbs : Int)).Nodup → l.Nodup ∧ ∀ k ∈ l, k ≠ 0 → -k ∉ l := fun {l} h => by
  refine ⟨(List.pairwise_map.mp h).imp (fun {a b} z e => z (by rw [e])), fun k hk h0 hn => ?_⟩
  have inj : ∀ a ∈ l, ∀ b ∈ l, (a.natAbs : Int) = b.natAbs → a = b := fun a ha b hb e => by
    obtain ⟨i, hi, ei⟩ := List.getElem_of_mem ha
    obtain ⟨j, hj, ej⟩ := List.getElem_of_mem hb
    have hij : (l.map fun s => (s.natAbs : Int))[i]'(by rw [List.length_map]; exact hi) = (l.map fun s => (s.natAbs : Int))[j]'(by rw [List.length_map]; exact hj) := by
      rw [List.getElem_map, List.getElem_map, ei, ej]
      exact e
    have := (List.getElem_inj h).mp hij
    subst this
    rw [← ei, ← ej]
  have := inj k hk (-k) hn (by omega)
  omega
theorem cl_of {says left ks ns : List Int} (T : Thg ks) (pm : ((says.map fun s => (s.natAbs : Int)) ++ left).Perm ks) (pn : ns.Perm says) (so : ns.Pairwise (· ≤ ·)) : IsCl ns ∧ ∀ s ∈ ns, (s.natAbs : Int) ∈ ks := by
  have nd := (List.nodup_append.mp (pm.nodup_iff.mpr T.nd)).1
  obtain ⟨n1, n2⟩ := abs_nd nd
  have mem : ∀ s ∈ ns, (s.natAbs : Int) ∈ ks := fun s hs => pm.mem_iff.mp (List.mem_append_left _ (List.mem_map.mpr ⟨s, pn.mem_iff.mp hs, rfl⟩))
  have nn : ns.Nodup := pn.nodup_iff.mpr n1
  have bd : ∀ s ∈ ns, s ≠ 0 ∧ -8 ≤ s ∧ s ≤ 8 := fun s hs => by
    have := T.one _ (mem s hs)
    omega
  refine ⟨⟨?_, bd, fun k hk hn => n2 k (pn.mem_iff.mp hk) (bd k hk).1 (pn.mem_iff.mp hn), ?_⟩, mem⟩
  · have := List.Pairwise.and so nn
    exact this.imp fun {a b} h => by
      obtain ⟨h1, h2⟩ := h
      omega
  · have l1 := pn.length_eq
    have l2 := pm.length_eq
    rw [List.length_append, List.length_map] at l2
    have := T.len
    omega
theorem ok_clm {f : Addr} {fd : FuncData} {k : Nat} (F : Fun K "_law_sclaim" "_law_sclaim" sClm f fd) (T : Zs mg) (FD : Fun K "_law_sdraw" "_law_sdraw" sDrw fD fdD) (bD : Binds K fdD ["feed", "many"] []) (gD : mg "_law_sdraw" = some (.ref fD)) (GD : FnOk P w K mg base CX0 2 fD fdD ["feed", "many"] spDrw) :
    FnOk P w K mg base CX0 (k + 3) f fd ["feed", "things", "most"] spClm := by
  refine F.ok scClm (fun vs H Q E h => ?_) (fun cdv A outer s H vs Q E hr h => ?_)
  · obtain ⟨f, c, t, m, B, ks, rfl, _⟩ := h
    rfl
  · obtain ⟨f, c, t, m, B, ks, rfl, m0, m8, ht, Tk, hF, hB, q⟩ := h
    have hr2 : Room 2 _ := hr.mono (by omega)
    refine ⟨_, (Evl.pss_cut (ps_set (i := 3) scClm.nd rfl (.inl rfl) (pe_callTy call_list_ofN (by rfl) T.z_list (by decide +kernel) (pa_cons (pv 1) pa_nil)))
      (pss_cons (ps_set (i := 4) scClm.nd rfl (.inl rfl) (pe_lstN pa_nil))
      (Evl.pss_cut (ps_for PassesOwn.never rfl (pi_range1 (by rfl) T.z_range (pa_cons (pe_callB (call_min2 rfl) (by rfl) T.z_min (by decide +kernel) (pa_cons (pe_callB call_len_seq (by rfl) T.z_len (by decide +kernel) (pa_cons (pv 3) pa_nil)) (pa_cons (pe_call GD hr2 (by rfl) gD FD.kp bD .nil pass0 (pa_cons (pv 0) (pa_cons (pe_op op_add (pv 2) pe_int) pa_nil))) pa_nil))) pa_nil)) (pg_name (i := 5) scClm.nd rfl (.inl rfl)) (pss_cons (ps_set (i := 6) scClm.nd rfl (.inl rfl) (pe_bm PySem.F.plainAttrs_list PySem.F.slot_list_pop PySem.F.type_list_pop mt_popAt (pv 3) (pa_cons (pe_call GD hr2 (by rfl) gD FD.kp bD .nil pass0 (pa_cons (pv 0) (pa_cons (pe_callB call_len_seq (by rfl) T.z_len (by decide +kernel) (pa_cons (pv 3) pa_nil)) pa_nil))) pa_nil)))
      (pss_one (ps_expr (pe_bm PySem.F.plainAttrs_list PySem.F.slot_list_append PySem.F.type_list_append mt_append (pv 4) (pa_cons (pe_ix ix_list (pe_lstN (pa_cons (pv 6) (pa_cons (pe_op op_sub pe_int (pv 6)) pa_nil))) (pe_call GD hr2 (by rfl) gD FD.kp bD .nil pass0 (pa_cons (pv 0) (pa_cons pe_int pa_nil))) (fun _ _ => rfl)) pa_nil))))))
      (pss_one (ps_ret (pe_callTy call_tuple_ofN (by rfl) T.z_tuple (by decide +kernel) (pa_cons (pe_callB cr_sortedN (by rfl) T.z_sorted (by decide +kernel) (pa_cons (pv 4) pa_nil)) pa_nil))))))), ?_⟩
    -- left
    refine Evl.q_cut (M := fun σ' H' => ∃ L, σ' = [some (.ref f), some (.ref t), some (.int m), some (.ref L), none, none, none] ∧ H L = none ∧ Same H H' ∧ H' L = some (.lst (ks.map V.int))) ?_ ?_
    · exact ⟨_, rfl, t, _, rfl, .inl (.of ht), fun L H1 nL s1 hL _ => ⟨L, rfl, nL, s1, hL⟩⟩
    rintro σ' H1 ⟨L, rfl, nL, s1, hL⟩
    refine ⟨Nat.zero_le _, fun S H2 nS s2 hS _ => ?_⟩
    have F2 : Feed H2 f c B := hF.same (s1.trans s2)
    have nLf : L ≠ f := hF.nf nL
    have nLc : L ≠ c := hF.nc nL
    have nSL : S ≠ L := Ne.symm (ne_of_none hL nS)
    have nSf : S ≠ f := (hF.same s1).nf nS
    have nSc : S ≠ c := (hF.same s1).nc nS
    have frL : Frs H L := .of nL
    have frS : Frs H S := .of (s1.free nS)
    have hL2 : H2 L = some (.lst (ks.map V.int)) := s2 _ _ hL
    -- the loop
    refine Evl.q_cut (M := fun σ' H' => ∃ (y5 y6 : Option V) (left says : List Int), σ' = [some (.ref f), some (.ref t), some (.int m), some (.ref L), some (.ref S), y5, y6] ∧ Feed H' f c (B + 20) ∧ Ke (· = f) H H' ∧ H' S = some (.lst (says.map V.int)) ∧ (says.length : Int) ≤ m ∧ ((says.map fun s => (s.natAbs : Int)) ++ left).Perm ks) ?_ ?_
    · refine ⟨_, rfl, L, _, rfl, .inl (.of hL2), _, rfl, _, rfl, _, _, rfl, rfl, f, c, _, B, rfl, by omega, by omega, F2, by omega, fun d H3 d0 d1 F3 b3 => ?_⟩
      refine ⟨_, _, rfl, ?_⟩
      generalize hn : (if d < ((ks.map V.int).length : Int) then d else ((ks.map V.int).length : Int)) = n
      have n0 : 0 ≤ n ∧ n ≤ m ∧ n ≤ ks.length := by
        rw [List.length_map] at hn
        split at hn <;> omega
      have tl := Tk.len
      have hL3 : H3 L = some (.lst (ks.map V.int)) := (b3 L nLf).trans hL2
      have hS3 : H3 S = some (.lst (([] : List Int).map V.int)) := (b3 S nSf).trans hS
      have k3 : Ke (· = f) H H3 := (Ke.same (s1.trans s2)).trans (.but F2 b3)
      refine ⟨n, rfl, by omega, by omega, for_range (Pv := fun i σ H' => ∃ (y5 y6 : Option V) (left says : List Int), σ = [some (.ref f), some (.ref t), some (.int m), some (.ref L), some (.ref S), y5, y6] ∧ Feed H' f c (B + 1 + 2 * i) ∧ Ke (· = f) H H' ∧ H' L = some (.lst (left.map V.int)) ∧ H' S = some (.lst (says.map V.int)) ∧
        left.length = ks.length - i ∧ says.length = i ∧ ((says.map fun s => (s.natAbs : Int)) ++ left).Perm ks) ?_ ?_ ?_⟩
      · exact ⟨none, none, ks, [], rfl, F3, k3, hL3, hS3, rfl, rfl, .refl _⟩
      · rintro i σ H' hi ⟨y5, y6, left, says, rfl, F4, k4, hL4, hS4, ll, ls, pm⟩
        have hi : i < n.toNat := hi
        refine ⟨_, rfl, .inl ⟨rfl, _, .of hL4⟩, _, rfl, _, rfl, L, _, rfl, .inl (.of hL4), f, c, _, B + 1 + 2 * i, rfl, ?_, ?_, F4, by omega, fun d H5 d0 d1 F5 b5 => ?_⟩
        · rw [List.length_map]
          omega
        · rw [List.length_map]
          omega
        rw [List.length_map] at d1
        have dl : d.toNat < left.length := by omega
        have hL5 : H5 L = some (.lst (left.map V.int)) := (b5 L nLf).trans hL4
        have hS5 : H5 S = some (.lst (says.map V.int)) := (b5 S nSf).trans hS4
        have k5 : Ke (· = f) H H5 := k4.trans (.but F4 b5)
        refine ⟨L, _, d, d.toNat, .int left[d.toNat], rfl, rfl, hL5, by omega, by omega, by rw [List.length_map]; exact ix_seq d0 d1, by rw [List.getElem?_map, List.getElem?_eq_getElem dl]; rfl, ?_⟩
        have pp := perm_pop (List.getElem?_eq_getElem dl)
        have y1 := Tk.one left[d.toNat] (pm.mem_iff.mp (List.mem_append_right _ (List.getElem_mem dl)))
        generalize left[d.toNat] = y at pp y1
        have F6 : Feed (upd H5 L (.lst ((left.map V.int).eraseIdx d.toNat))) f c (B + 1 + 2 * i + 1) := F5.upd nLf nLc
        have k6 : Ke (· = f) H (upd H5 L (.lst ((left.map V.int).eraseIdx d.toNat))) := k5.write frL hL5
        have hL6 : (upd H5 L (.lst ((left.map V.int).eraseIdx d.toNat))) L = some (.lst ((left.eraseIdx d.toNat).map V.int)) := by rw [upd_same, erase_map]
        have hS6 : (upd H5 L (.lst ((left.map V.int).eraseIdx d.toNat))) S = some (.lst (says.map V.int)) := by rw [upd_ne nSL]; exact hS5
        generalize (upd H5 L (.lst ((left.map V.int).eraseIdx d.toNat))) = H6 at F6 k6 hL6 hS6 ⊢
        -- says.append([thing, 0 - thing][..])
        refine ⟨_, rfl, .inl ⟨rfl, _, .of hS6⟩, _, rfl, _, rfl, _, _, rfl, rfl, by show 2 ≤ sizeLine; decide, fun p H7 np s7 hp _ => ?_⟩
        refine ⟨_, rfl, f, c, 2, B + 1 + 2 * i + 1, rfl, by decide, by decide, F6.same s7, by omega, fun e H8 e0 e1 F8 b8 => ?_⟩
        have npf : p ≠ f := F6.nf np
        have hp8 := (b8 p npf).trans hp
        have hS8 : H8 S = some (.lst (says.map V.int)) := (b8 S nSf).trans (s7 _ _ hS6)
        have hL8 : H8 L = some (.lst ((left.eraseIdx d.toNat).map V.int)) := (b8 L nLf).trans (s7 _ _ hL6)
        have k8 : Ke (· = f) H H8 := (k6.trans (.same s7)).trans (.but (F6.same s7) b8)
        have two : e = 0 ∨ e = 1 := by omega
        have go : ∀ z : Int, (z.natAbs : Int) = y → ((says ++ [z]).map (fun s => (s.natAbs : Int)) ++ left.eraseIdx d.toNat).Perm ks := fun z hz => by
          refine List.Perm.trans ?_ pm
          rw [List.map_append, List.append_assoc, List.map_singleton, hz]
          exact (List.Perm.refl _).append pp
        rcases two with rfl | rfl
        · refine ⟨p, _, 0, .int y, rfl, rfl, .of hp8, rfl, S, _, _, rfl, rfl, hS8, by rw [List.length_map]; exact small1000 (by omega), ?_⟩
          refine ⟨_, _, left.eraseIdx d.toNat, says ++ [y], rfl, (F8.upd nSf nSc).mono (by omega), k8.write frS hS8, by rw [upd_ne (Ne.symm nSL)]; exact hL8, by rw [upd_same, List.map_append]; rfl, by rw [erase_len dl]; omega, by rw [List.length_append, ls]; rfl, go y (by omega)⟩
        · refine ⟨p, _, 1, .int (0 - y), rfl, rfl, .of hp8, rfl, S, _, _, rfl, rfl, hS8, by rw [List.length_map]; exact small1000 (by omega), ?_⟩
          refine ⟨_, _, left.eraseIdx d.toNat, says ++ [0 - y], rfl, (F8.upd nSf nSc).mono (by omega), k8.write frS hS8, by rw [upd_ne (Ne.symm nSL)]; exact hL8, by rw [upd_same, List.map_append]; rfl, by rw [erase_len dl]; omega, by rw [List.length_append, ls]; rfl, go (0 - y) (by omega)⟩
      · rintro σ H' ⟨y5, y6, left, says, rfl, F4, k4, hL4, hS4, ll, ls, pm⟩
        exact ⟨y5, y6, left, says, rfl, F4.mono (by omega), k4, hS4, by omega, pm⟩
    rintro σ' H3 ⟨y5, y6, left, says, rfl, F3, k3, hS3, ls, pm⟩
    refine ⟨_, rfl, S, says, rfl, .of hS3, fun ns pn so p H4 np s4 hp _ => ?_⟩
    refine ⟨p, _, rfl, .of hp, fun p2 H5 np2 s5 hp2 _ => ?_⟩
    obtain ⟨h1, h2⟩ := cl_of Tk pm pn so
    refine q ns p2 H5 (F3.same (s4.trans s5)) (k3.trans (.same (s4.trans s5))) (.ke k3 F3 (.of (s4.free np2))) hp2 h1 h2 ?_
    rw [pn.length_eq]
    exact ls
/-- the claims css are of the things ks -/
def Of (ks : List Int) (cs : List Int) : Prop := IsCl cs ∧ ∀ s ∈ cs, (s.natAbs : Int) ∈ ks
/-- a list of claims as it grows -/
def Ls (H : Hp) (L : Addr) (css : List (List Int)) : Prop := ∃ vs, H L = some (.lst vs) ∧ vs.length = css.length ∧ ∀ (i : Nat) (x : V) (cs : List Int), vs[i]? = some x → css[i]? = some cs → TupI H x cs
theorem ix_append {α β : Type} {R : α → β → Prop} {vs : List α} {ys : List β} {v : α} {y : β} (l : vs.length = ys.length) (h : ∀ (i : Nat) (x : α) (z : β), vs[i]? = some x → ys[i]? = some z → R x z) (r : R v y) :
    ∀ (i : Nat) (x : α) (z : β), (vs ++ [v])[i]? = some x → (ys ++ [y])[i]? = some z → R x z := by
  intro i x z h1 h2
  by_cases hi : i < vs.length
  · rw [List.getElem?_append_left hi] at h1
    rw [List.getElem?_append_left (by omega)] at h2
    exact h i x z h1 h2
  · have e : i = vs.length := by
      have := (List.getElem?_eq_some_iff.mp h1).1
      rw [List.length_append, List.length_singleton] at this
      omega
    subst e
    rw [List.getElem?_append_right (Nat.le_refl _), Nat.sub_self] at h1
    rw [List.getElem?_append_right (by omega), show vs.length - ys.length = 0 by omega] at h2
    cases h1
    cases h2
    exact r
/-- sbook(feed, things, most) -/
def spBok : Sp := fun vs H Q _ => ∃ (f c t : Addr) (m : Int) (B : Nat) (ks : List Int), vs = [.ref f, .ref t, .int m] ∧ 1 ≤ m ∧ m ≤ 16 ∧ H t = some (.lst (ks.map V.int)) ∧ Thg ks ∧ ks ≠ [] ∧ t ≠ f ∧ Feed H f c B ∧ B ≤ 2 ^ 57 ∧
  ∀ (css : List (List Int)) (p : Addr) (H' : Hp), Feed H' f c (B + 500) → Ke (· = f) H H' → Frs H p → Bk H' (.ref p) css → (∀ cs ∈ css, Of ks cs) → 1 ≤ css.length → (css.length : Int) ≤ m → Q (.ref p) H'
theorem ok_bok {f fC : Addr} {fd fdC : FuncData} {k : Nat} (F : Fun K "_law_sbook" "_law_sbook" sBok f fd) (T : Zs mg) (FD : Fun K "_law_sdraw" "_law_sdraw" sDrw fD fdD) (bD : Binds K fdD ["feed", "many"] []) (gD : mg "_law_sdraw" = some (.ref fD)) (GD : FnOk P w K mg base CX0 2 fD fdD ["feed", "many"] spDrw)
    (FC : Fun K "_law_sclaim" "_law_sclaim" sClm fC fdC) (bC : Binds K fdC ["feed", "things", "most"] []) (gC : mg "_law_sclaim" = some (.ref fC)) (GC : FnOk P w K mg base CX0 3 fC fdC ["feed", "things", "most"] spClm) :
    FnOk P w K mg base CX0 (k + 4) f fd ["feed", "things", "most"] spBok := by
  refine F.ok scBok (fun vs H Q E h => ?_) (fun cdv A outer s H vs Q E hr h => ?_)
  · obtain ⟨f, c, t, m, B, ks, rfl, _⟩ := h
    rfl
  · obtain ⟨f, c, t, m, B, ks, rfl, m0, m8, ht, Tk, kn, ntf, hF, hB, q⟩ := h
    have hr2 : Room 2 _ := hr.mono (by omega)
    have hr3 : Room 3 _ := hr.mono (by omega)
    refine ⟨_, (pss_cons (ps_set (i := 3) scBok.nd rfl (.inl rfl) (pe_lstN pa_nil))
      (Evl.pss_cut (ps_for PassesOwn.never rfl (pi_range1 (by rfl) T.z_range (pa_cons (pe_op op_add pe_int (pe_call GD hr2 (by rfl) gD FD.kp bD .nil pass0 (pa_cons (pv 0) (pa_cons (pv 2) pa_nil)))) pa_nil)) (pg_name (i := 4) scBok.nd rfl (.inl rfl)) (Evl.pss_cut (ps_set (i := 5) scBok.nd rfl (.inl rfl) (pe_call GC hr3 (by rfl) gC FC.kp bC .nil pass0 (pa_cons (pv 0) (pa_cons (pv 1) (pa_cons (pe_ix ix_list (pe_lstN (pa_cons pe_int (pa_cons pe_int (pa_cons pe_int (pa_cons pe_int pa_nil))))) (pe_call GD hr2 (by rfl) gD FD.kp bD .nil pass0 (pa_cons (pv 0) (pa_cons pe_int pa_nil))) (fun _ _ => rfl)) pa_nil)))))
      (Evl.pss_cut (ps_if (PW.pt (pw_and (pt_cmpR (op_eqD hr.units) (pv 5) (pe_tupN pa_nil) (nomark _)) (pw_and1 (pt_cmpR op_gt (pe_call GD hr2 (by rfl) gD FD.kp bD .nil pass0 (pa_cons (pv 0) (pa_cons pe_int pa_nil))) pe_int (nomark _))))) (pss_one (ps_set (i := 5) scBok.nd rfl (.inl rfl) (pe_tupN (pa_cons (pe_ix ix_list (pv 1) pe_int (fun _ _ => rfl)) pa_nil)))) pss_nil)
      (pss_one (ps_expr (pe_bm PySem.F.plainAttrs_list PySem.F.slot_list_append PySem.F.type_list_append mt_append (pv 3) (pa_cons (pv 5) pa_nil)))))))
      (pss_one (ps_ret (pe_callTy call_tuple_ofN (by rfl) T.z_tuple (by decide +kernel) (pa_cons (pv 3) pa_nil)))))), ?_⟩
    refine ⟨Nat.zero_le _, fun L H1 nL s1 hL _ => ?_⟩
    have nLf : L ≠ f := hF.nf nL
    have nLc : L ≠ c := hF.nc nL
    have frL : Frs H L := .of nL
    have nLt : L ≠ t := Ne.symm (ne_of_none ht nL)
    obtain ⟨k0, kr, rfl⟩ : ∃ k0 kr, ks = k0 :: kr := by
      cases ks with
      | nil => exact absurd rfl kn
      | cons a r => exact ⟨a, r, rfl⟩
    have hk0 := Tk.one k0 List.mem_cons_self
    have of0 : Of (k0 :: kr) [k0] := by
      refine ⟨⟨.cons (fun _ h => (nomatch h)) .nil, fun k hk => ?_, fun k hk hn => ?_, by show 1 ≤ 8; decide⟩, fun s hs => ?_⟩
      · rw [List.mem_singleton.mp hk]
        omega
      · rw [List.mem_singleton.mp hk] at hn
        have := List.mem_singleton.mp hn
        omega
      · rw [List.mem_singleton.mp hs, show ((k0.natAbs : Nat) : Int) = k0 by omega]
        exact List.mem_cons_self
    refine Evl.q_cut (M := fun σ' H' => ∃ (y4 y5 : Option V) (css : List (List Int)), σ' = [some (.ref f), some (.ref t), some (.int m), some (.ref L), y4, y5] ∧ Feed H' f c (B + 500) ∧ Ke (· = f) H H' ∧ Ls H' L css ∧ (∀ cs ∈ css, Of (k0 :: kr) cs) ∧ 1 ≤ css.length ∧ (css.length : Int) ≤ m) ?_ ?_
    · have F1 : Feed H1 f c B := hF.same s1
      refine ⟨_, rfl, _, rfl, f, c, _, B, rfl, by omega, by omega, F1, by omega, fun d H2 d0 d1 F2 b2 => ?_⟩
      refine ⟨_, _, rfl, rfl, 1 + d, rfl, by omega, by omega, for_range (Pv := fun i σ H' => ∃ (y4 y5 : Option V) (css : List (List Int)), σ = [some (.ref f), some (.ref t), some (.int m), some (.ref L), y4, y5] ∧ Feed H' f c (B + 1 + 30 * i) ∧ Ke (· = f) H H' ∧ Ls H' L css ∧ (∀ cs ∈ css, Of (k0 :: kr) cs) ∧ css.length = i) ?_ ?_ ?_⟩
      · exact ⟨none, none, [], rfl, F2, (Ke.same s1).trans (.but F1 b2), ⟨[], (b2 L nLf).trans hL, rfl, fun i x cs h => by simp at h⟩, fun cs h => (nomatch h), rfl⟩
      · rintro i σ H3 hi ⟨y4, y5, css, rfl, F3, k3, ⟨vs, hL3, lv, hv⟩, oc, lc⟩
        have hi : i < (1 + d).toNat := hi
        have ht3 : H3 t = some (.lst ((k0 :: kr).map V.int)) := k3.lst ht ntf
        refine Evl.q_cut (M := fun σ' H' => ∃ (p : Addr) (cs : List Int), σ' = [some (.ref f), some (.ref t), some (.int m), some (.ref L), some (.int (0 + (i : Int))), some (.ref p)] ∧ Feed H' f c (B + 1 + 30 * i + 21) ∧ Ke (· = f) H3 H' ∧ H' p = some (.tup (cs.map V.int)) ∧ Of (k0 :: kr) cs) ?_ ?_
        · refine ⟨_, rfl, _, rfl, by show 4 ≤ sizeLine; decide, fun p4 H4 np4 s4 hp4 _ => ?_⟩
          have F4 := F3.same s4
          refine ⟨_, rfl, f, c, 4, _, rfl, by decide, by decide, F4, by omega, fun e H5 e0 e1 F5 b5 => ?_⟩
          have k5 : Ke (· = f) H3 H5 := (Ke.same s4).trans (.but F4 b5)
          have np4f : p4 ≠ f := F3.nf np4
          have ht5 : H5 t = some (.lst ((k0 :: kr).map V.int)) := k5.lst ht3 ntf
          have pk : ∃ mm : Int, 0 ≤ mm ∧ mm ≤ 8 ∧ atI [V.int 3, V.int 3, V.int 3, V.int 6] e = some (.int mm) := by
            have four : e = 0 ∨ e = 1 ∨ e = 2 ∨ e = 3 := by omega
            rcases four with rfl | rfl | rfl | rfl
            · exact ⟨3, by decide, by decide, rfl⟩
            · exact ⟨3, by decide, by decide, rfl⟩
            · exact ⟨3, by decide, by decide, rfl⟩
            · exact ⟨6, by decide, by decide, rfl⟩
          obtain ⟨mm, mm0, mm1, ha⟩ := pk
          refine ⟨p4, _, e, .int mm, rfl, rfl, .of ((b5 p4 np4f).trans hp4), ha, f, c, t, mm, _, k0 :: kr, rfl, mm0, mm1, ht5, Tk, F5, by omega, fun cs p H6 F6 k6 _ hp h1 h2 _ => ?_⟩
          exact ⟨p, cs, rfl, F6.mono (by omega), k5.trans k6, hp, h1, h2⟩
        rintro σ' H4 ⟨p, cs, rfl, F4, k4, hp, hc⟩
        -- if claim == () and ..
        refine Evl.q_cut (M := fun σ' H' => ∃ (p : Addr) (cs : List Int), σ' = [some (.ref f), some (.ref t), some (.int m), some (.ref L), some (.int (0 + (i : Int))), some (.ref p)] ∧ Feed H' f c (B + 1 + 30 * i + 22) ∧ Ke (· = f) H3 H' ∧ H' p = some (.tup (cs.map V.int)) ∧ Of (k0 :: kr) cs) ?_ ?_
        · refine ⟨_, rfl, Nat.zero_le _, fun p5 H5 np5 s5 hp5 _ => ?_⟩
          have F5 := F4.same s5
          have k5 : Ke (· = f) H3 H5 := k4.trans (.same s5)
          refine ⟨_, _, .tup (.of (s5 _ _ hp)) (dp_ints cs), .tup (.of hp5) .nil, shaped_tuple (flat_ints _), shaped_tuple rfl, _, rfl, ite2 (fun e => ?_) (fun e => ?_)⟩
          · refine ⟨_, rfl, f, c, 6, _, rfl, by decide, by decide, F5, by omega, fun g H6 g0 g1 F6 b6 => ?_⟩
            have k6 : Ke (· = f) H3 H6 := k5.trans (.but F5 b6)
            refine ⟨_, _, rfl, rfl, _, rfl, ite2 (fun e => ?_) (fun e => ?_)⟩
            · have ht6 : H6 t = some (.lst ((k0 :: kr).map V.int)) := k6.lst ht3 ntf
              refine ⟨_, rfl, t, _, 0, .int k0, rfl, rfl, .of ht6, atI_nat (j := 0) rfl, by show 1 ≤ sizeLine; decide, fun p7 H7 np7 s7 hp7 _ => ?_⟩
              exact ⟨p7, [k0], rfl, (F6.same s7).mono (by omega), k6.trans (.same s7), hp7, of0⟩
            · exact ⟨p, cs, rfl, F6.mono (by omega), k6, (Ke.but F5 b6).tups _ _ (s5 _ _ hp), hc⟩
          · exact ⟨p, cs, rfl, F5.mono (by omega), k5, s5 _ _ hp, hc⟩
        rintro σ' H5 ⟨p, cs, rfl, F5, k5, hp, hc⟩
        -- claims.append(claim)
        have hL5 : H5 L = some (.lst vs) := k5.lst hL3 nLf
        refine ⟨_, rfl, .inl ⟨rfl, _, .of hL5⟩, _, rfl, L, _, _, rfl, rfl, hL5, small1000 (by omega), ?_⟩
        have k6 : Ke (· = f) H (upd H5 L (.lst (vs ++ [.ref p]))) := (k3.trans k5).write frL hL5
        have tp : ∀ {x : V} {ds : List Int}, TupI H5 x ds → TupI (upd H5 L (.lst (vs ++ [.ref p]))) x ds := fun {x ds} ⟨a, e, h⟩ => ⟨a, e, by
          have n : a ≠ L := fun z => by
            rw [z, hL5] at h
            cases h
          rw [upd_ne n]
          exact h⟩
        refine ⟨_, _, css ++ [cs], rfl, (F5.upd nLf nLc).mono (by omega), k6, ⟨vs ++ [.ref p], upd_same, by rw [List.length_append, List.length_append, lv]; rfl, ix_append lv (fun i x ds h1 h2 => tp ((hv i x ds h1 h2).ke k5)) (tp ⟨p, rfl, hp⟩)⟩, fun ds hd => ?_, by rw [List.length_append, lc]; rfl⟩
        rcases List.mem_append.mp hd with z | z
        · exact oc ds z
        · rw [List.mem_singleton.mp z]
          exact hc
      · rintro σ H3 ⟨y4, y5, css, rfl, F3, k3, ls, oc, lc⟩
        have lc' : css.length = (1 + d).toNat := lc
        exact ⟨y4, y5, css, rfl, F3.mono (by omega), k3, ls, oc, by omega, by omega⟩
    rintro σ' H2 ⟨y4, y5, css, rfl, F2, k2, ⟨vs, hL2, lv, hv⟩, oc, l1, l2⟩
    refine ⟨_, rfl, L, vs, rfl, .of hL2, fun p H3 np s3 hp _ => ?_⟩
    have k3 : Ke (· = f) H2 H3 := .same s3
    exact q css p H3 (F2.same s3) (k2.trans k3) (.ke k2 F2 (.of np)) ⟨p, vs, rfl, hp, lv, fun i x cs h1 h2 => (hv i x cs h1 h2).ke k3⟩ oc l1 l2
end
end Cl
namespace Sl
open PySem PySem.Spec PyProof.Rows L2 GxR Nw Dr Kp Se
/-- a list or a tuple of claims -/
def Clm (H : Hp) (v : V) (css : List (List Int)) : Prop := ∃ a vs, v = .ref a ∧ (H a = some (.lst vs) ∨ H a = some (.tup vs)) ∧ vs.length = css.length ∧ ∀ (i : Nat) (x : V) (cs : List Int), vs[i]? = some x → css[i]? = some cs → TupI H x cs
theorem Clm.ke {H H' : Hp} {v : V} {css : List (List Int)} (h : Clm H v css) (k : Ke Nof H H') : Clm H' v css := by
  obtain ⟨a, vs, e, h1, l, h2⟩ := h
  exact ⟨a, vs, e, h1.imp (fun h => k.lst h fun z => z) fun h => k.tups _ _ h, l, fun i x cs e1 e2 => (h2 i x cs e1 e2).ke k⟩
theorem clm_bk {H : Hp} {v : V} {css : List (List Int)} (h : Bk H v css) : Clm H v css := by
  obtain ⟨a, vs, e, h1, h2⟩ := h
  exact ⟨a, vs, e, .inr h1, h2⟩
/-- the built-ins that stand as they stood -/
structure Zl (mg : Str → Option Value) : Prop where
  z_len : mg "len" = none
  z_abs : mg "abs" = none
  z_isinstance : mg "isinstance" = none
  z_tuple : mg "tuple" = none
  z_bool : mg "bool" = none
  z_all : mg "all" = none
abbrev sSho : Stmt := topS 34
abbrev nSho : List Str := ["claim", "setting", "say"]
theorem scSho : FnScope nSho ["claim", "setting"] (defScope sSho) := ⟨rfl, rfl, rfl, by decide +kernel, rfl, by decide +kernel, by decide +kernel⟩
abbrev sSah : Stmt := topS 39
abbrev nSah : List Str := ["claims", "setting", "one"]
theorem scSah : FnScope nSah ["claims", "setting"] (defScope sSah) := ⟨rfl, rfl, rfl, by decide +kernel, rfl, by decide +kernel, by decide +kernel⟩
theorem filter_take {α : Type} {f : α → Bool} {l : List α} {i : Nat} {x : α} (h : l[i]? = some x) : (l.take (i + 1)).filter f = (l.take i).filter f ++ (if f x = true then [x] else []) := by
  rw [List.take_add_one, h, List.filter_append]
  congr 1
  show [x].filter f = _
  cases e : f x with
  | true => rw [List.filter_cons_of_pos e]; rfl
  | false => rw [List.filter_cons_of_neg (by rw [e]; decide)]; rfl
theorem sh_eq {bs : List Bool} {k : Int} (lt : k.natAbs - 1 < bs.length) : decide (V.bl bs[k.natAbs - 1] = V.bl (decide (0 < k))) = sh bs k := by
  unfold sh
  rw [List.getD_eq_getElem?_getD, List.getElem?_eq_getElem lt, Option.getD_some]
  cases bs[k.natAbs - 1] <;> cases decide (0 < k) <;> rfl
theorem filter_any {α : Type} (f : α → Bool) (l : List α) : decide ((0 : Int) < ((l.filter f).length : Int)) = l.any f := by
  cases e : l.any f with
  | true =>
    obtain ⟨x, hx, h⟩ := List.any_eq_true.mp e
    have := List.length_pos_of_mem (List.mem_filter.mpr ⟨hx, h⟩)
    exact decide_eq_true (by omega)
  | false =>
    have z : l.filter f = [] := List.filter_eq_nil_iff.mpr fun x hx h => by
      have := List.any_eq_false.mp e x hx
      exact this h
    rw [z]
    rfl
theorem filter_all {α : Type} (f : α → Bool) (l : List α) : decide (V.int ((l.filter (fun x => !f x)).length : Int) = V.int 0) = l.all f := by
  cases e : l.all f with
  | true =>
    have z : l.filter (fun x => !f x) = [] := List.filter_eq_nil_iff.mpr fun x hx h => by
      have := List.all_eq_true.mp e x hx
      rw [this] at h
      cases h
    rw [z]
    rfl
  | false =>
    obtain ⟨x, hx, h⟩ := List.all_eq_false.mp e
    have := List.length_pos_of_mem (List.mem_filter (p := fun x => !f x).mpr ⟨hx, (by cases g : f x with | true => exact absurd g h | false => rfl : (!f x) = true)⟩)
    exact decide_eq_false fun z => by
      have := V.int.inj z
      omega
section
variable {P : Program} {w : World} {K : PySem.W.Frag} {mg : Str → Option Value} {base : Heap}
def spSho : Sp := fun vs H Q _ => ∃ (v u : V) (cs : List Int) (bs : List Bool), vs = [v, u] ∧ TupI H v cs ∧ TupB H u bs ∧ bs.length = 8 ∧ Says cs ∧ cs.length ≤ 20 ∧ ∀ H', Same H H' → Q (.bl (cs.any (sh bs))) H'
theorem ok_sho {f : Addr} {fd : FuncData} {k : Nat} (F : Fun K "_law_sholds" "_law_sholds" sSho f fd) (T : Zl mg) : FnOk P w K mg base CX0 (k + 1) f fd ["claim", "setting"] spSho := by
  refine F.ok scSho (fun vs H Q E h => ?_) (fun cdv A outer s H vs Q E hr h => ?_)
  · obtain ⟨v, u, cs, bs, rfl, _⟩ := h
    rfl
  · obtain ⟨v, u, cs, bs, rfl, ⟨a, rfl, ha⟩, ⟨b, rfl, hb⟩, l8, sy, lc, q⟩ := h
    refine ⟨_, (pss_one (ps_ret (pe_cmpR op_gt (pe_callB call_len_seq (by rfl) T.z_len (by decide +kernel) (pa_cons (pe_lc (own := [("say", 2)]) (g := (gName 2))  rfl scSho.nd (pi_tup (pv 0)) (blkOk_by (N := nSho) (sc := defScope sSho) (by decide +kernel)) (fun _ _ _ _ _ => (pg_name (i := 2) scSho.nd rfl (.inl rfl))) (fun _ _ _ _ _ => (pts_one (pt_cmpR op_eq (pe_ix (ix_tupB (K := K) rfl) (pv 1) (pe_op op_sub (pe_callB call_abs (by rfl) T.z_abs (by decide +kernel) (pa_cons (pv 2) pa_nil)) pe_int) (fun _ _ => rfl)) (pe_cmpR op_gt (pv 2) pe_int (nomark _)) (nomark _)))) (fun _ _ _ _ _ => (pv 2))) pa_nil)) pe_int (nomark _)))), ?_⟩
    refine ⟨_, rfl, a, rfl, ⟨_, .of ha⟩, fun D nD => ?_⟩
    refine lc_tup (xs := cs.map V.int) (Pv := fun i H' => Same H H' ∧ H' D = some (.lst (((cs.take i).filter (sh bs)).map V.int))) ⟨same_new nD, upd_same⟩ (fun i H' _ p => .of (p.1 _ _ ha)) ?_ ?_
    · rintro i x H' hx ⟨s1, hD⟩
      obtain ⟨k, hz, rfl⟩ : ∃ z, cs[i]? = some z ∧ x = V.int z := by
        rw [List.getElem?_map] at hx
        cases e : cs[i]? with
        | none =>
          rw [e] at hx
          cases hx
        | some z =>
          rw [e] at hx
          exact ⟨z, rfl, (Option.some.inj hx).symm⟩
      obtain ⟨k0, k1, k2⟩ := sy k (List.mem_of_getElem? hz)
      have lt : k.natAbs - 1 < bs.length := by omega
      have e : (if k < 0 then -k else k) = (k.natAbs : Int) := by
        split <;> omega
      refine ⟨rfl, _, rfl, _, rfl, k, rfl, _, _, rfl, rfl, b, _, _, .bl bs[k.natAbs - 1], rfl, rfl, .of (s1 _ _ hb), at_of (j := k.natAbs - 1) (by rw [e]; omega) (by rw [List.getElem?_map, List.getElem?_eq_getElem lt]; rfl), _, rfl, _, _, rfl, rfl, rfl, sh bs k, ?_, ?_⟩
      · exact congrArg V.bl (sh_eq lt)
      · have ft := filter_take (f := sh bs) hz
        refine ite2 (fun z => ?_) (fun z => ?_)
        · refine ⟨_, rfl, _, hD, ?_, fun c o y => ?_, ?_⟩
          · rw [List.length_map]
            exact small1000 (Nat.le_trans (List.length_filter_le _ _) (by rw [List.length_take]; omega))
          · rw [upd_ne (ne_of_none y nD)]
            exact s1 _ _ y
          · rw [upd_same, ft, if_pos z, List.map_append]
            rfl
        · refine ⟨s1, ?_⟩
          rw [ft, if_neg z, List.append_nil]
          exact hD
    · rintro H' ⟨s1, hD⟩
      rw [List.length_map, List.take_length] at hD
      refine ⟨D, _, rfl, .inl (.of hD), _, _, rfl, rfl, ?_⟩
      rw [List.length_map]
      have := q H' s1
      rw [← filter_any] at this
      exact this
def spSah : Sp := fun vs H Q _ => ∃ (v u : V) (css : List (List Int)) (bs : List Bool), vs = [v, u] ∧ Clm H v css ∧ TupB H u bs ∧ bs.length = 8 ∧ (∀ cs ∈ css, Says cs ∧ cs.length ≤ 20) ∧ css.length ≤ 100 ∧ ∀ H', Same H H' → Q (.bl (ah bs css)) H'
theorem ok_sah {f fO : Addr} {fd fdO : FuncData} {k : Nat} (F : Fun K "_law_sall_hold" "_law_sall_hold" sSah f fd) (T : Zl mg) (FO : Fun K "_law_sholds" "_law_sholds" sSho fO fdO) (bO : Binds K fdO ["claim", "setting"] []) (gO : mg "_law_sholds" = some (.ref fO)) (GO : FnOk P w K mg base CX0 1 fO fdO ["claim", "setting"] spSho) :
    FnOk P w K mg base CX0 (k + 2) f fd ["claims", "setting"] spSah := by
  refine F.ok scSah (fun vs H Q E h => ?_) (fun cdv A outer s H vs Q E hr h => ?_)
  · obtain ⟨v, u, css, bs, rfl, _⟩ := h
    rfl
  · obtain ⟨v, u, css, bs, rfl, ⟨a, vs, rfl, ha, lv, hv⟩, hb, l8, sy, lc, q⟩ := h
    have hr1 : Room 1 _ := hr.mono (by omega)
    refine ⟨_, (pss_one (ps_ret (pe_cmpR op_eq (pe_callB call_len_seq (by rfl) T.z_len (by decide +kernel) (pa_cons (pe_lc (own := [("one", 2)]) (g := (gName 2))  rfl scSah.nd (Co.pi_seq (pv 0)) (blkOk_by (N := nSah) (sc := defScope sSah) (by decide +kernel)) (fun _ _ _ _ _ => (pg_name (i := 2) scSah.nd rfl (.inl rfl))) (fun _ _ _ _ _ => (pts_one (pt_not (pt_val (pe_call GO hr1 (by rfl) gO FO.kp bO .nil pass0 (pa_cons (pv 2) (pa_cons (pv 1) pa_nil))))))) (fun _ _ _ _ _ => (pv 2))) pa_nil)) pe_int (nomark _)))), ?_⟩
    have fin : ∀ D H', (Same H H' ∧ ∃ ys, H' D = some (.lst ys) ∧ ys.length = ((css.take vs.length).filter fun cs => !cs.any (sh bs)).length) → ∃ (b : Addr) (ws : List V), [V.ref D] = [V.ref b] ∧ (SqL K H' b ws ∨ SqT K H' b ws) ∧ decide (V.int (ws.length : Int) = V.int 0) = ah bs css ∧ Same H H' := by
      rintro D H' ⟨s1, ys, hD, ly⟩
      rw [lv, List.take_length] at ly
      refine ⟨D, _, rfl, .inl (.of hD), ?_, s1⟩
      unfold ah
      rw [← filter_all, ← ly]
    rcases ha with ha | ha
    · refine .inl ⟨_, rfl, a, rfl, ⟨_, .of ha⟩, fun D nD => ?_⟩
      refine lc_list (xs := vs) (Pv := fun i H' => Same H H' ∧ ∃ ys, H' D = some (.lst ys) ∧ ys.length = ((css.take i).filter fun cs => !cs.any (sh bs)).length) ⟨same_new nD, [], upd_same, rfl⟩ (fun i H' _ p => .of (p.1 _ _ ha)) ?_ ?_
      · rintro i x H' hx ⟨s1, ys, hD, ly⟩
        have li : i < css.length := by
          have := (List.getElem?_eq_some_iff.mp hx).1
          omega
        have hz := List.getElem?_eq_getElem li
        have ti := hv i x _ hx hz
        obtain ⟨sz, szl⟩ := sy _ (List.mem_of_getElem? hz)
        have ft := filter_take (f := fun cs : List Int => !cs.any (sh bs)) hz
        generalize css[i] = cs at ti sz szl ft
        refine ⟨rfl, _, rfl, _, rfl, x, u, cs, bs, rfl, ti.ke (Ke.same (F := Nof) s1), hb.ke (Ke.same (F := Nof) s1), l8, sz, szl, fun H2 s2 => ⟨_, rfl, ?_⟩⟩
        have lf : ((css.take i).filter fun cs => !cs.any (sh bs)).length ≤ 100 := Nat.le_trans (List.length_filter_le _ _) (by rw [List.length_take]; omega)
        refine ite2 (fun z => ?_) (fun z => ?_)
        · refine ⟨_, rfl, _, s2 _ _ hD, small1000 (by omega), fun c o y => ?_, _, upd_same, ?_⟩
          · rw [upd_ne (ne_of_none y nD)]
            exact s2 _ _ (s1 _ _ y)
          · rw [ft, if_pos z, List.length_append, List.length_append, ly]
            rfl
        · refine ⟨s1.trans s2, ys, s2 _ _ hD, ?_⟩
          rw [ft, if_neg z, List.append_nil]
          exact ly
      · rintro H' z
        obtain ⟨b, ws, e, h1, h2, s1⟩ := fin D H' z
        cases e
        refine ⟨D, _, rfl, h1, rfl, ?_⟩
        rw [h2]
        exact q H' s1
    · refine .inr ⟨_, rfl, a, rfl, ⟨_, .of ha⟩, fun D nD => ?_⟩
      refine lc_tup (xs := vs) (Pv := fun i H' => Same H H' ∧ ∃ ys, H' D = some (.lst ys) ∧ ys.length = ((css.take i).filter fun cs => !cs.any (sh bs)).length) ⟨same_new nD, [], upd_same, rfl⟩ (fun i H' _ p => .of (p.1 _ _ ha)) ?_ ?_
      · rintro i x H' hx ⟨s1, ys, hD, ly⟩
        have li : i < css.length := by
          have := (List.getElem?_eq_some_iff.mp hx).1
          omega
        have hz := List.getElem?_eq_getElem li
        have ti := hv i x _ hx hz
        obtain ⟨sz, szl⟩ := sy _ (List.mem_of_getElem? hz)
        have ft := filter_take (f := fun cs : List Int => !cs.any (sh bs)) hz
        generalize css[i] = cs at ti sz szl ft
        refine ⟨rfl, _, rfl, _, rfl, x, u, cs, bs, rfl, ti.ke (Ke.same (F := Nof) s1), hb.ke (Ke.same (F := Nof) s1), l8, sz, szl, fun H2 s2 => ⟨_, rfl, ?_⟩⟩
        have lf : ((css.take i).filter fun cs => !cs.any (sh bs)).length ≤ 100 := Nat.le_trans (List.length_filter_le _ _) (by rw [List.length_take]; omega)
        refine ite2 (fun z => ?_) (fun z => ?_)
        · refine ⟨_, rfl, _, s2 _ _ hD, small1000 (by omega), fun c o y => ?_, _, upd_same, ?_⟩
          · rw [upd_ne (ne_of_none y nD)]
            exact s2 _ _ (s1 _ _ y)
          · rw [ft, if_pos z, List.length_append, List.length_append, ly]
            rfl
        · refine ⟨s1.trans s2, ys, s2 _ _ hD, ?_⟩
          rw [ft, if_neg z, List.append_nil]
          exact ly
      · rintro H' z
        obtain ⟨b, ws, e, h1, h2, s1⟩ := fin D H' z
        cases e
        refine ⟨D, _, rfl, h1, rfl, ?_⟩
        rw [h2]
        exact q H' s1
end
/-! ### all settings of some things -/
def setF (o : List Bool) (k : Nat) : List Bool := o.take (k - 1) ++ [false] ++ o.drop k
def evs (ks : List Int) : List (List Bool) := ks.foldl (fun e k => e ++ e.map (setF · k.toNat)) [List.replicate 8 true]
theorem setF_len {o : List Bool} {k : Nat} (h : o.length = 8) (h1 : 1 ≤ k) (h2 : k ≤ 8) : (setF o k).length = 8 := by
  unfold setF
  rw [List.length_append, List.length_append, List.length_take, List.length_drop, List.length_singleton]
  omega
theorem evs_snoc (ks : List Int) (k : Int) : evs (ks ++ [k]) = evs ks ++ (evs ks).map (setF · k.toNat) := by
  unfold evs
  rw [List.foldl_append]
  rfl
theorem evs_fold : ∀ (ks : List Int) (E : List (List Bool)), (∀ k ∈ ks, 1 ≤ k ∧ k ≤ 8) → (∀ o ∈ E, o.length = 8) → (∀ o ∈ ks.foldl (fun e k => e ++ e.map (setF · k.toNat)) E, o.length = 8) ∧ (ks.foldl (fun e k => e ++ e.map (setF · k.toNat)) E).length = E.length * 2 ^ ks.length
  | [], E, _, h => ⟨h, by simp⟩
  | k :: r, E, hk, h => by
    obtain ⟨k1, k2⟩ := hk k List.mem_cons_self
    obtain ⟨h1, h2⟩ := evs_fold r (E ++ E.map (setF · k.toNat)) (fun x hx => hk x (List.mem_cons_of_mem _ hx)) fun o ho => by
      rcases List.mem_append.mp ho with z | z
      · exact h o z
      · obtain ⟨p, hp, rfl⟩ := List.mem_map.mp z
        exact setF_len (h p hp) (by omega) (by omega)
    refine ⟨h1, h2.trans ?_⟩
    rw [List.length_append, List.length_map, List.length_cons, Nat.pow_succ]
    rw [← Nat.two_mul, Nat.mul_comm 2 E.length, Nat.mul_assoc, Nat.mul_comm 2]
theorem evs_len8 {ks : List Int} (hk : ∀ k ∈ ks, 1 ≤ k ∧ k ≤ 8) : ∀ o ∈ evs ks, o.length = 8 := (evs_fold ks _ hk fun o ho => by rw [List.mem_singleton.mp ho]; rfl).1
theorem evs_length {ks : List Int} (hk : ∀ k ∈ ks, 1 ≤ k ∧ k ≤ 8) : (evs ks).length = 2 ^ ks.length := by
  have := (evs_fold ks [List.replicate 8 true] hk fun o ho => by rw [List.mem_singleton.mp ho]; rfl).2
  rw [List.length_singleton, Nat.one_mul] at this
  exact this
theorem pow8 {n : Nat} (h : n ≤ 8) : 2 ^ n ≤ 256 := Nat.le_trans (Nat.pow_le_pow_right (by decide) h) (by decide)
def maskB (ks : List Int) (bs : List Bool) : List Bool := (List.range 8).map fun j => if (((j + 1 : Nat) : Int) ∈ ks) then bs.getD j false else true
theorem mask_len (ks : List Int) (bs : List Bool) : (maskB ks bs).length = 8 := by
  unfold maskB
  rw [List.length_map, List.length_range]
theorem mask_get (ks : List Int) (bs : List Bool) {j : Nat} (h : j < 8) : (maskB ks bs)[j]? = some (if (((j + 1 : Nat) : Int) ∈ ks) then bs.getD j false else true) := by
  unfold maskB
  rw [List.getElem?_map, List.getElem?_range h]
  rfl
theorem setF_get {o : List Bool} {k j : Nat} (h : o.length = 8) (k1 : 1 ≤ k) (k2 : k ≤ 8) (hj : j < 8) : (setF o k)[j]? = if j + 1 = k then some false else o[j]? := by
  unfold setF
  by_cases e : j + 1 = k
  · rw [if_pos e, List.getElem?_append_left (by rw [List.length_append, List.length_take, List.length_singleton]; omega), List.getElem?_append_right (by rw [List.length_take]; omega)]
    rw [show j - (o.take (k - 1)).length = 0 by rw [List.length_take]; omega]
    rfl
  · rw [if_neg e]
    by_cases l : j < k - 1
    · rw [List.getElem?_append_left (by rw [List.length_append, List.length_take, List.length_singleton]; omega), List.getElem?_append_left (by rw [List.length_take]; omega), List.getElem?_take_of_lt l]
    · rw [List.getElem?_append_right (by rw [List.length_append, List.length_take, List.length_singleton]; omega), List.getElem?_drop]
      congr 1
      rw [List.length_append, List.length_take, List.length_singleton]
      omega
theorem ext8 {a b : List Bool} (ha : a.length = 8) (hb : b.length = 8) (h : ∀ j, j < 8 → a[j]? = b[j]?) : a = b := List.ext_getElem? fun j => by
  by_cases hj : j < 8
  · exact h j hj
  · rw [List.getElem?_eq_none (by omega), List.getElem?_eq_none (by omega)]
theorem mask_step (pre : List Int) (k : Int) (bs : List Bool) (k1 : 1 ≤ k) (k2 : k ≤ 8) : maskB (pre ++ [k]) bs = maskB pre bs ∨ maskB (pre ++ [k]) bs = setF (maskB pre bs) k.toNat := by
  cases e : bs.getD (k.toNat - 1) false with
  | true =>
    refine .inl (ext8 (mask_len _ _) (mask_len _ _) fun j hj => ?_)
    rw [mask_get _ _ hj, mask_get _ _ hj]
    by_cases h1 : (((j + 1 : Nat) : Int) ∈ pre)
    · rw [if_pos h1, if_pos (List.mem_append_left _ h1)]
    · rw [if_neg h1]
      by_cases h2 : ((j + 1 : Nat) : Int) = k
      · rw [if_pos (List.mem_append_right _ (List.mem_singleton.mpr h2)), show j = k.toNat - 1 by omega, e]
      · rw [if_neg fun z => (List.mem_append.mp z).elim h1 fun y => h2 (List.mem_singleton.mp y)]
  | false =>
    refine .inr (ext8 (mask_len _ _) (setF_len (mask_len _ _) (by omega) (by omega)) fun j hj => ?_)
    rw [mask_get _ _ hj, setF_get (mask_len _ _) (by omega) (by omega) hj]
    by_cases h2 : ((j + 1 : Nat) : Int) = k
    · rw [if_pos (List.mem_append_right _ (List.mem_singleton.mpr h2)), if_pos (by omega), show j = k.toNat - 1 by omega, e]
    · rw [if_neg (show ¬ j + 1 = k.toNat by omega), mask_get _ _ hj]
      by_cases h1 : (((j + 1 : Nat) : Int) ∈ pre)
      · rw [if_pos h1, if_pos (List.mem_append_left _ h1)]
      · rw [if_neg h1, if_neg fun z => (List.mem_append.mp z).elim h1 fun y => h2 (List.mem_singleton.mp y)]
theorem mask_fold : ∀ (ks pre : List Int) (E : List (List Bool)), (∀ k ∈ ks, 1 ≤ k ∧ k ≤ 8) → (∀ bs, maskB pre bs ∈ E) → ∀ bs, maskB (pre ++ ks) bs ∈ ks.foldl (fun e k => e ++ e.map (setF · k.toNat)) E
  | [], pre, E, _, h, bs => by
    rw [List.append_nil]
    exact h bs
  | k :: r, pre, E, hk, h, bs => by
    obtain ⟨k1, k2⟩ := hk k List.mem_cons_self
    have := mask_fold r (pre ++ [k]) (E ++ E.map (setF · k.toNat)) (fun x hx => hk x (List.mem_cons_of_mem _ hx)) (fun cs => by
      rcases mask_step pre k cs k1 k2 with z | z
      · rw [z]
        exact List.mem_append_left _ (h cs)
      · rw [z]
        exact List.mem_append_right _ (List.mem_map.mpr ⟨_, h cs, rfl⟩)) bs
    rw [List.append_assoc] at this
    exact this
theorem mask_mem {ks : List Int} (hk : ∀ k ∈ ks, 1 ≤ k ∧ k ≤ 8) (bs : List Bool) : maskB ks bs ∈ evs ks := by
  have := mask_fold ks [] [List.replicate 8 true] hk (fun cs => by
    rw [List.mem_singleton]
    rfl) bs
  exact this
theorem sh_mask {ks : List Int} {bs : List Bool} {s : Int} (h : (s.natAbs : Int) ∈ ks) (h1 : 1 ≤ s.natAbs) (h2 : s.natAbs ≤ 8) : sh (maskB ks bs) s = sh bs s := by
  unfold sh
  have e : (maskB ks bs).getD (s.natAbs - 1) false = bs.getD (s.natAbs - 1) false := by
    rw [List.getD_eq_getElem?_getD, mask_get _ _ (by omega), Option.getD_some, if_pos]
    rw [show s.natAbs - 1 + 1 = s.natAbs by omega]
    exact h
  rw [e]
/-- the things of these claims are among ks -/
def Among (ks : List Int) (cs : List Int) : Prop := Says cs ∧ ∀ s ∈ cs, (s.natAbs : Int) ∈ ks
theorem any_mask {ks : List Int} {bs : List Bool} {cs : List Int} (h : Among ks cs) : cs.any (sh (maskB ks bs)) = cs.any (sh bs) := by
  rw [Bool.eq_iff_iff, List.any_eq_true, List.any_eq_true]
  have key : ∀ s ∈ cs, sh (maskB ks bs) s = sh bs s := fun s hs => by
    have := h.1 s hs
    exact sh_mask (h.2 s hs) (by omega) (by omega)
  constructor
  · rintro ⟨s, hs, z⟩
    exact ⟨s, hs, by rw [← key s hs]; exact z⟩
  · rintro ⟨s, hs, z⟩
    exact ⟨s, hs, by rw [key s hs]; exact z⟩
theorem ctr_mask {ks cs : List Int} {css : List (List Int)} {bs : List Bool} (h : Among ks cs) (hs : ∀ c ∈ css, Among ks c) (x : Ctr css cs bs) : Ctr css cs (maskB ks bs) := by
  obtain ⟨l, x1, x2⟩ := x
  refine ⟨mask_len _ _, by rw [any_mask h]; exact x1, ?_⟩
  unfold ah at x2 ⊢
  rw [List.all_eq_true] at x2 ⊢
  intro c hc
  rw [any_mask (hs c hc)]
  exact x2 c hc
/-- settings in a list -/
def Ss (H : Hp) (ys : List V) (bss : List (List Bool)) : Prop := ys.length = bss.length ∧ ∀ (i : Nat) (x : V) (bs : List Bool), ys[i]? = some x → bss[i]? = some bs → TupB H x bs
theorem TupB.wr {H : Hp} {D : Addr} {x : V} {bs : List Bool} {ys : List V} {o : HO} (h : TupB H x bs) (hD : H D = some (.lst ys)) : TupB (upd H D o) x bs := by
  obtain ⟨a, e, h⟩ := h
  refine ⟨a, e, ?_⟩
  have n : a ≠ D := fun z => by
    rw [z, hD] at h
    cases h
  rw [upd_ne n]
  exact h
theorem Ss.same {H H' : Hp} {ys : List V} {bss : List (List Bool)} (h : Ss H ys bss) (s : Same H H') : Ss H' ys bss := ⟨h.1, fun i x bs h1 h2 => (h.2 i x bs h1 h2).ke (Ke.same (F := Nof) s)⟩
theorem ix_cat {α β : Type} {R : α → β → Prop} {vs us : List α} {ys zs : List β} (l : vs.length = ys.length) (h : ∀ (i : Nat) (x : α) (z : β), vs[i]? = some x → ys[i]? = some z → R x z) (h' : ∀ (i : Nat) (x : α) (z : β), us[i]? = some x → zs[i]? = some z → R x z) :
    ∀ (i : Nat) (x : α) (z : β), (vs ++ us)[i]? = some x → (ys ++ zs)[i]? = some z → R x z := by
  intro i x z h1 h2
  by_cases hi : i < vs.length
  · rw [List.getElem?_append_left hi] at h1
    rw [List.getElem?_append_left (by omega)] at h2
    exact h i x z h1 h2
  · rw [List.getElem?_append_right (by omega)] at h1 h2
    rw [← l] at h2
    exact h' _ x z h1 h2
theorem cutB_to {bs : List Bool} {k : Int} (h0 : 1 ≤ k) (h8 : k ≤ 8) (l : bs.length = 8) : cutV (bs.map V.bl) none (some (k - 1)) = (bs.take (k.toNat - 1)).map V.bl := by
  unfold cutV
  rw [HT.sIx_none, show k - 1 = ((k.toNat - 1 : Nat) : Int) by omega, HT.sIx_nat, List.drop_zero, Nat.sub_zero, List.length_map, Nat.min_eq_left (by omega), List.map_take]
theorem cutB_from {bs : List Bool} {k : Int} (h0 : 1 ≤ k) (h8 : k ≤ 8) (l : bs.length = 8) : cutV (bs.map V.bl) (some k) none = (bs.drop k.toNat).map V.bl := by
  unfold cutV
  rw [HT.sIx_none, show HT.sIx (bs.map V.bl).length 0 (some k) = k.toNat by
    rw [show k = ((k.toNat : Nat) : Int) by omega, HT.sIx_nat, List.length_map]
    omega]
  rw [List.take_of_length_le (by rw [List.length_drop]; exact Nat.le_refl _), List.map_drop]
abbrev sSev : Stmt := topS 35
abbrev nSev : List Str := ["things", "every", "k", "one"]
theorem scSev : FnScope nSev ["things"] (defScope sSev) := ⟨rfl, rfl, rfl, by decide +kernel, rfl, by decide +kernel, by decide +kernel⟩
section
variable {P : Program} {w : World} {K : PySem.W.Frag} {mg : Str → Option Value} {base : Heap}
def spSev : Sp := fun vs H Q _ => ∃ (t : Addr) (ks : List Int), vs = [.ref t] ∧ H t = some (.lst (ks.map V.int)) ∧ (∀ k ∈ ks, 1 ≤ k ∧ k ≤ 8) ∧ ks.length ≤ 8 ∧ ∀ L ys H', Same H H' → H' L = some (.lst ys) → Ss H' ys (evs ks) → Q (.ref L) H'
theorem ok_sev {f : Addr} {fd : FuncData} {k : Nat} (F : Fun K "_law_severy" "_law_severy" sSev f fd) : FnOk P w K mg base CX0 (k + 1) f fd ["things"] spSev := by
  refine F.ok scSev (fun vs H Q E h => ?_) (fun cdv A outer s H vs Q E hr h => ?_)
  · obtain ⟨t, ks, rfl, _⟩ := h
    rfl
  · obtain ⟨t, ks, rfl, ht, hk, lk, q⟩ := h
    refine ⟨_, (pss_cons (ps_set (i := 1) scSev.nd rfl (.inl rfl) (pe_lstN (pa_cons (pe_op op_repTN (pe_tupN (pa_cons pe_bl pa_nil)) pe_int) pa_nil)))
      (pss_cons (ps_for PassesOwn.never rfl (pi_list (pv 0)) (pg_name (i := 2) scSev.nd rfl (.inr rfl)) (pss_one (ps_set (i := 1) scSev.nd rfl (.inl rfl) (pe_op op_catN (pv 1) (pe_lc (own := [("one", 3)]) (g := (gName 3)) (tt := tYes) rfl scSev.nd (pi_list (pv 1)) (blkOk_by (N := nSev) (sc := defScope sSev) (by decide +kernel)) (fun _ _ _ _ _ => (pg_name (i := 3) scSev.nd rfl (.inl rfl))) (fun _ _ _ _ _ => pts_nil) (fun _ _ _ _ _ => (pe_op op_catTN (pe_op op_catTN (pe_slice sl_tupN (pv 3) po_none (po_some (pe_op op_sub (pv 2) pe_int))) (pe_tupN (pa_cons pe_bl pa_nil))) (pe_slice sl_tupN (pv 3) (po_some (pv 2)) po_none))))))))
      (pss_one (ps_ret (pv 1))))), ?_⟩
    refine ⟨by show 1 ≤ sizeLine; decide, fun p1 H1 np1 s1 hp1 _ => ⟨p1, 8, _, rfl, rfl, hp1, by simp, by decide, by decide, by show 1 ≤ 1000; decide, fun p2 H2 s2 hp2 => ?_⟩⟩
    refine ⟨by show 1 ≤ sizeLine; decide, fun L0 H3 nL0 s3 hL0 _ => ?_⟩
    have s03 := (s1.trans s2).trans s3
    refine ⟨_, rfl, t, rfl, ⟨_, .of (s03 _ _ ht)⟩, for_list (K := K) (a := t) (xs := ks.map V.int) (Pv := fun i σ H' => ∃ (L : Addr) (y2 : Option V) (ys : List V), σ = [some (.ref t), some (.ref L), y2, none] ∧ Same H H' ∧ H' L = some (.lst ys) ∧ Ss H' ys (evs (ks.take i))) ?_ (fun i σ H' _ ⟨_, _, _, _, sm, _⟩ => .of (sm _ _ ht)) ?_ ?_⟩
    · refine ⟨L0, none, _, rfl, s03, hL0, rfl, fun i x bs h1 h2 => ?_⟩
      match i, h1, h2 with
      | 0, h1, h2 =>
        cases h1
        cases h2
        exact ⟨p2, rfl, s3 _ _ hp2⟩
    · rintro i x σ H4 hx ⟨L, y2, ys, rfl, s4, hL, ss⟩
      obtain ⟨z, hz, rfl⟩ : ∃ z, ks[i]? = some z ∧ x = V.int z := by
        rw [List.getElem?_map] at hx
        cases e : ks[i]? with
        | none =>
          rw [e] at hx
          cases hx
        | some z =>
          rw [e] at hx
          exact ⟨z, rfl, (Option.some.inj hx).symm⟩
      obtain ⟨z1, z2⟩ := hk z (List.mem_of_getElem? hz)
      have hk' : ∀ k ∈ ks.take i, 1 ≤ k ∧ k ≤ 8 := fun k h => hk k (List.mem_of_mem_take h)
      have l8 := evs_len8 hk'
      have ln : (evs (ks.take i)).length ≤ 256 := by
        rw [evs_length hk']
        exact pow8 (by rw [List.length_take]; omega)
      have sn : evs (ks.take (i + 1)) = evs (ks.take i) ++ (evs (ks.take i)).map (setF · z.toNat) := by
        rw [List.take_add_one, hz]
        exact evs_snoc _ _
      generalize evs (ks.take i) = Es at ss l8 ln sn
      refine ⟨_, rfl, _, rfl, L, rfl, ⟨_, .of hL⟩, fun D nD => ?_⟩
      refine lc_list (xs := ys) (Pv := fun j H' => Same H4 H' ∧ ∃ zs, H' D = some (.lst zs) ∧ Ss H' zs ((Es.take j).map (setF · z.toNat))) ⟨same_new nD, [], upd_same, rfl, fun i x bs h => by simp at h⟩ (fun j H' _ p => .of (p.1 _ _ hL)) ?_ ?_
      · rintro j x H5 hj ⟨s5, zs, hD, lz, hzs⟩
        have lj : j < Es.length := by
          have := (List.getElem?_eq_some_iff.mp hj).1
          have := ss.1
          omega
        have ho := List.getElem?_eq_getElem lj
        obtain ⟨a, rfl, ha⟩ := (ss.2 j x _ hj ho).ke (Ke.same (F := Nof) s5)
        have o8 := l8 _ (List.mem_of_getElem? ho)
        generalize hoo : Es[j] = o at ha o8
        have l1 : ((Es.take j).map (setF · z.toNat)).length = j := by
          rw [List.length_map, List.length_take]
          omega
        refine ⟨rfl, _, rfl, _, rfl, _, _, rfl, rfl, _, rfl, a, _, rfl, ha, fun q1 J1 u1 h1 => ?_⟩
        refine ⟨by show 1 ≤ sizeLine; decide, fun q2 J2 nq2 u2 h2 _ => ⟨q1, q2, _, _, rfl, rfl, u2 _ _ h1, h2, ?_, fun q3 J3 u3 h3 => ?_⟩⟩
        · rw [cutB_to z1 z2 o8, List.length_map, List.length_take]
          show _ + 1 ≤ sizeLine
          exact Nat.le_trans (by omega : _ ≤ 1000) (by decide)
        have u13 := (u1.trans u2).trans u3
        refine ⟨_, rfl, _, rfl, _, rfl, a, _, rfl, u13 _ _ ha, fun q4 J4 u4 h4 => ⟨q3, q4, _, _, rfl, rfl, u4 _ _ h3, h4, ?_, fun q5 J5 u5 h5 => ?_⟩⟩
        · rw [cutB_to z1 z2 o8, cutB_from z1 z2 o8, List.length_append, List.length_map, List.length_map, List.length_take, List.length_drop]
          show _ + 1 + _ ≤ sizeLine
          exact Nat.le_trans (by omega : _ ≤ 1000) (by decide)
        have u15 := (u13.trans u4).trans u5
        have hD5 : J5 D = some (.lst zs) := u15 _ _ hD
        refine ⟨_, hD5, small1000 (by rw [lz, l1]; omega), fun b oo e => ?_, zs ++ [.ref q5], upd_same, ?_⟩
        · rw [upd_ne (ne_of_none e nD)]
          exact u15 _ _ (s5 _ _ e)
        · rw [List.take_add_one, ho, hoo, List.map_append]
          refine ⟨by rw [List.length_append, List.length_append, lz]; rfl, Cl.ix_append lz (fun i x bs h1 h2 => TupB.wr ((hzs i x bs h1 h2).ke (Ke.same (F := Nof) u15)) hD5) (TupB.wr ⟨q5, rfl, ?_⟩ hD5)⟩
          rw [h5, cutB_to z1 z2 o8, cutB_from z1 z2 o8]
          unfold setF
          rw [List.map_append, List.map_append]
          rfl
      · rintro H5 ⟨s5, zs, hD, ssz⟩
        rw [ss.1, List.take_length] at ssz
        refine ⟨L, D, _, _, rfl, rfl, s5 _ _ hL, hD, ?_, fun M H6 nM s6 hM _ => ?_⟩
        · rw [ss.1, ssz.1, List.length_map]
          exact Nat.le_trans (by omega : _ ≤ 1000) (by decide)
        · refine ⟨M, _, _, rfl, s4.trans (s5.trans s6), hM, ?_⟩
          rw [sn]
          have ss6 := ss.same (s5.trans s6)
          have sz6 := ssz.same s6
          exact ⟨by rw [List.length_append, List.length_append, ss6.1, sz6.1], ix_cat ss6.1 ss6.2 sz6.2⟩
    · rintro σ H4 ⟨L, y2, ys, rfl, s4, hL, ss⟩
      rw [List.length_map, List.take_length] at ss
      exact ⟨_, rfl, q L ys H4 s4 hL ss⟩
abbrev sSag : Stmt := topS 36
theorem scSag : FnScope ["claims", "claim", "things", "setting"] ["claims", "claim", "things"] (defScope sSag) := ⟨rfl, rfl, rfl, by decide +kernel, rfl, by decide +kernel, by decide +kernel⟩
def spSag : Sp := fun vs H Q _ => ∃ (v u : V) (t : Addr) (css : List (List Int)) (cs ks : List Int), vs = [v, u, .ref t] ∧ Clm H v css ∧ TupI H u cs ∧ Says cs ∧ cs.length ≤ 20 ∧ (∀ cs ∈ css, Says cs ∧ cs.length ≤ 20) ∧ css.length ≤ 100 ∧ H t = some (.lst (ks.map V.int)) ∧ (∀ k ∈ ks, 1 ≤ k ∧ k ≤ 8) ∧ ks.length ≤ 8 ∧
  (∀ H', Same H H' → (∀ bs ∈ evs ks, ¬ Ctr css cs bs) → Q .non H') ∧ ∀ r H' bs, Same H H' → H' r = some (.tup (bs.map V.bl)) → Ctr css cs bs → Q (.ref r) H'
theorem ok_sag {f fO fA fV : Addr} {fd fdO fdA fdV : FuncData} {k : Nat} (F : Fun K "_law_sagainst" "_law_sagainst" sSag f fd) (FO : Fun K "_law_sholds" "_law_sholds" sSho fO fdO) (bO : Binds K fdO ["claim", "setting"] []) (gO : mg "_law_sholds" = some (.ref fO)) (GO : FnOk P w K mg base CX0 1 fO fdO ["claim", "setting"] spSho)
    (FA : Fun K "_law_sall_hold" "_law_sall_hold" sSah fA fdA) (bA : Binds K fdA ["claims", "setting"] []) (gA : mg "_law_sall_hold" = some (.ref fA)) (GA : FnOk P w K mg base CX0 2 fA fdA ["claims", "setting"] spSah)
    (FV : Fun K "_law_severy" "_law_severy" sSev fV fdV) (bV : Binds K fdV ["things"] []) (gV : mg "_law_severy" = some (.ref fV)) (GV : FnOk P w K mg base CX0 1 fV fdV ["things"] spSev) :
    FnOk P w K mg base CX0 (k + 3) f fd ["claims", "claim", "things"] spSag := by
  refine F.ok scSag (fun vs H Q E h => ?_) (fun cdv A outer s H vs Q E hr h => ?_)
  · obtain ⟨v, u, t, css, cs, ks, rfl, _⟩ := h
    rfl
  · obtain ⟨v, u, t, css, cs, ks, rfl, hbk, hcl, sy, lc, sys, lcs, ht, hk, lk, q1, q2⟩ := h
    have hr1 : Room 1 _ := hr.mono (by omega)
    have hr2 : Room 2 _ := hr.mono (by omega)
    refine ⟨_, (pss_cons (ps_for PassesOwn.never rfl (pi_list (pe_call GV hr1 (by rfl) gV FV.kp bV .nil pass0 (pa_cons (pv 2) pa_nil))) (pg_name (i := 3) scSag.nd rfl (.inl rfl)) (pss_one (ps_if (pt_not (pt_val (pe_call GO hr1 (by rfl) gO FO.kp bO .nil pass0 (pa_cons (pv 1) (pa_cons (pv 3) pa_nil))))) (pss_one (ps_if (pt_val (pe_call GA hr2 (by rfl) gA FA.kp bA .nil pass0 (pa_cons (pv 0) (pa_cons (pv 3) pa_nil)))) (pss_one (ps_ret (pv 3))) pss_nil)) pss_nil)))
      (pss_one (ps_ret pe_non))), ?_⟩
    refine ⟨_, rfl, t, ks, rfl, ht, hk, lk, fun L ys H1 s1 hL ss => ⟨L, rfl, ⟨_, .of hL⟩, for_list (K := K) (a := L) (xs := ys) (Pv := fun i σ H' => ∃ y3, σ = [some v, some u, some (.ref t), y3] ∧ Same H1 H' ∧ ∀ bs ∈ (evs ks).take i, ¬ Ctr css cs bs) ?_ (fun i σ H' _ p => ?_) ?_ ?_⟩⟩
    · exact ⟨none, rfl, Same.refl _, fun bs h => by simp at h⟩
    · obtain ⟨_, _, sm, _⟩ := p
      exact .of (sm _ _ hL)
    · rintro i x σ H2 hx ⟨y3, rfl, s2, no⟩
      have li : i < (evs ks).length := by
        have := (List.getElem?_eq_some_iff.mp hx).1
        have := ss.1
        omega
      have hz := List.getElem?_eq_getElem li
      have tb := (ss.2 i x _ hx hz).ke (Ke.same (F := Nof) s2)
      have l8 := evs_len8 hk _ (List.mem_of_getElem? hz)
      have tk : ∀ bs, bs ∈ (evs ks).take (i + 1) → bs ∈ (evs ks).take i ∨ bs = (evs ks)[i] := fun bs h => by
        rw [List.take_add_one, hz] at h
        rcases List.mem_append.mp h with z | z
        · exact .inl z
        · exact .inr (List.mem_singleton.mp z)
      generalize (evs ks)[i] = bs at tb l8 tk
      have k2 : Ke Nof H H2 := (Ke.same s1).trans (.same s2)
      have more : ¬ Ctr css cs bs → ∀ o ∈ (evs ks).take (i + 1), ¬ Ctr css cs o := fun nc o ho => by
        rcases tk o ho with z | z
        · exact no o z
        · rw [z]
          exact nc
      refine ⟨_, rfl, _, rfl, u, x, cs, bs, rfl, hcl.ke k2, tb, l8, sy, lc, fun H3 s3 => ⟨_, rfl, ?_⟩⟩
      cases ea : cs.any (sh bs) with
      | true => exact ⟨_, rfl, s2.trans s3, more fun z => by rw [z.2.1] at ea; cases ea⟩
      | false =>
        have k3 : Ke Nof H H3 := k2.trans (.same s3)
        refine ⟨_, rfl, _, rfl, v, x, css, bs, rfl, hbk.ke k3, tb.ke (Ke.same (F := Nof) s3), l8, sys, lcs, fun H4 s4 => ⟨_, rfl, ?_⟩⟩
        cases eb : ah bs css with
        | false => exact ⟨_, rfl, (s2.trans s3).trans s4, more fun z => by rw [z.2.2] at eb; cases eb⟩
        | true =>
          obtain ⟨r, rfl, hrr⟩ := tb
          exact ⟨_, rfl, q2 r H4 bs (((s1.trans s2).trans s3).trans s4) ((s3.trans s4) _ _ hrr) ⟨l8, ea, eb⟩⟩
    · rintro σ H2 ⟨y3, rfl, s2, no⟩
      rw [ss.1, List.take_length] at no
      exact q1 H2 (s1.trans s2) no
end
end Sl
namespace Sn
open PySem PySem.Spec PyProof.Rows L2 GxR Nw Dr Kp Se Od Oh Co
/-! ### settings and numbers of anything -/
/-- a setting -/
def StD (d : PyData) : Prop := ∃ bs : List Bool, d = .tuple (bs.map PyData.bool) ∧ bs.length = 8
/-- a setting in which these hold and the claim doesn't -/
def NdD (css : List (List Int)) (cs : List Int) (d : PyData) : Prop := ∃ bs : List Bool, d = .tuple (bs.map PyData.bool) ∧ Ctr css cs bs
/-- rising numbers below m -/
def UpD (m : Nat) (ns : List Nat) (ds : List PyData) : Prop := ds = ns.map (fun n => PyData.int (n : Nat)) ∧ ns.Pairwise (· < ·) ∧ ∀ n ∈ ns, n < m
/-- a core, shown -/
structure CoD (css : List (List Int)) (cs : List Int) (ns : List Nat) (ds es : List PyData) : Prop where
  up : UpD css.length ns ds
  ln : es.length = ns.length
  nd : ∀ (i n : Nat) (e : PyData), ns[i]? = some n → es[i]? = some e → NdD (pick css (out ns n)) cs e
  fl : Flw (pick css ns) cs
theorem bl_inj : ∀ {l m : List Bool}, l.map PyData.bool = m.map PyData.bool → l = m
  | [], [], _ => rfl
  | [], _ :: _, h => by cases h
  | _ :: _, [], h => by cases h
  | a :: l, b :: m, h => by
    obtain ⟨h1, h2⟩ := List.cons.inj h
    rw [PyData.bool.inj h1, bl_inj h2]
theorem nat_inj : ∀ {l m : List Nat}, l.map (fun n => PyData.int (n : Nat)) = m.map (fun n => PyData.int (n : Nat)) → l = m
  | [], [], _ => rfl
  | [], _ :: _, h => by cases h
  | _ :: _, [], h => by cases h
  | a :: l, b :: m, h => by
    obtain ⟨h1, h2⟩ := List.cons.inj h
    have := PyData.int.inj h1
    rw [show a = b by omega, nat_inj h2]
theorem od_bls {f : Addr → Prop} {H : Hp} : ∀ {vs : List V} {bs : List Bool}, OdAll f H vs (bs.map PyData.bool) → vs = bs.map V.bl
  | [], [], _ => rfl
  | [], _ :: _, h => by cases h
  | _ :: _, [], h => by cases h
  | v :: vs, n :: ns, h => by
    cases h with
    | cons h1 h2 =>
      cases h1
      rw [od_bls h2]
      rfl
theorem od_nats {f : Addr → Prop} {H : Hp} : ∀ {vs : List V} {ns : List Nat}, OdAll f H vs (ns.map fun n => PyData.int (n : Nat)) → vs = ns.map nv
  | [], [], _ => rfl
  | [], _ :: _, h => by cases h
  | _ :: _, [], h => by cases h
  | v :: vs, n :: ns, h => by
    cases h with
    | cons h1 h2 =>
      cases h1
      rw [od_nats h2]
      rfl
def blD : PyData → Bool
  | .bool _ => true
  | _ => false
theorem bls_of : ∀ {ds : List PyData}, (∀ d ∈ ds, blD d = true) → ∃ bs : List Bool, ds = bs.map PyData.bool
  | [], _ => ⟨[], rfl⟩
  | d :: r, h => by
    have h1 := h d List.mem_cons_self
    obtain ⟨bs, e⟩ := bls_of (ds := r) fun x hx => h x (List.mem_cons_of_mem _ hx)
    cases d with
    | bool b => exact ⟨b :: bs, by rw [e]; rfl⟩
    | _ => cases h1
theorem nats_of {m : Int} : ∀ {ds : List PyData}, (∀ d ∈ ds, numD d m = true) → ∃ ns : List Nat, ds = ns.map (fun n => PyData.int (n : Nat)) ∧ ∀ n ∈ ns, ((n : Nat) : Int) < m
  | [], _ => ⟨[], rfl, fun n h => nomatch h⟩
  | d :: r, h => by
    obtain ⟨n, e1, h1⟩ := num_int (h d List.mem_cons_self)
    obtain ⟨ns, e, h2⟩ := nats_of (ds := r) fun x hx => h x (List.mem_cons_of_mem _ hx)
    refine ⟨n :: ns, by rw [e, e1]; rfl, fun k hk => ?_⟩
    rcases List.mem_cons.mp hk with z | z
    · rw [z]
      exact h1
    · exact h2 k z
theorem ty_bool {d : PyData} : (tyD d = "bool") ↔ blD d = true := by cases d <;> simp [tyD, blD]
theorem up_cast {ns : List Nat} : (ns.map fun n : Nat => (n : Int)).Pairwise (· < ·) ↔ ns.Pairwise (· < ·) := by
  rw [List.pairwise_map]
  exact ⟨fun h => h.imp fun z => by omega, fun h => h.imp fun z => by omega⟩
theorem nv_cast (ns : List Nat) : ns.map nv = (ns.map fun n : Nat => (n : Int)).map V.int := by
  rw [List.map_map]
  rfl
structure Zn (mg : Str → Option Value) : Prop where
  z_all : mg "all" = none
  z_zip : mg "zip" = none
  z_isinstance : mg "isinstance" = none
  z_tuple : mg "tuple" = none
  z_bool : mg "bool" = none
  z_len : mg "len" = none
section
variable {P : Program} {w : World} {K : PySem.W.Frag} {mg : Str → Option Value} {base : Heap}
abbrev sIss : Stmt := topS 16
abbrev nIss : List Str := ["thing", "truth"]
theorem scIss : FnScope nIss ["thing"] (defScope sIss) := ⟨rfl, rfl, rfl, by decide +kernel, rfl, by decide +kernel, by decide +kernel⟩
def spIss (Ps : Addr) : Sp := fun vs H Q _ => ∃ (f0 : Addr → Prop) (v : V) (d : PyData), vs = [v] ∧ OdV f0 H v d ∧ (∀ ds, d = .tuple ds → ds.length ≤ 60) ∧ TabG H Ps ∧ ∀ b H', (b = true ↔ StD d) → Ke Nof H H' → Q (.bl b) H'
theorem no_st {d : PyData} (h : ∀ ds, d ≠ .tuple ds) : (false = true ↔ StD d) := ⟨fun z => (nomatch z), fun ⟨_, e, _⟩ => absurd e (h _)⟩
theorem ok_iss {f c Ps : Addr} {fd : FuncData} {k : Nat} {tk : Tok} (F : FunC K "is_setting" "is_setting" sIss f c fd) (T : Zn mg) (M8 : mg "MOST_THINGS" = some (.int 8 tk)) (TB : TabB base mg c Ps) : FnOk P w K mg base CX0 (k + 3) f fd ["thing"] (spIss Ps) := by
  refine F.ok scIss (fun vs H Q E h => ?_) (fun A outer s H vs Q E hr h => ?_)
  · obtain ⟨f0, v, d, rfl, _⟩ := h
    rfl
  · obtain ⟨f0, v, d, rfl, hv, l60, t1, q⟩ := h
    refine ⟨_, (pss_cons (ps_if (pt_not (pt_val (pe_callB call_isi (by rfl) T.z_isinstance (by decide +kernel) (pa_cons (pv 0) (pa_cons (pe_bltn (v := .ty "tuple") (u := .type "tuple") (by rfl) T.z_tuple (by decide +kernel) rfl) pa_nil))))) (pss_one (ps_ret pe_bl)) pss_nil)
      (pss_one (ps_ret (pe_and (pe_cmpR op_eq (pe_callB call_len_seq (by rfl) T.z_len (by decide +kernel) (pa_cons (pv 0) pa_nil)) (pe_glob (v := .int 8) rfl M8 ⟨_, rfl⟩) (nomark _)) (pe_one (pe_cl (Gx.pe_all hr (by rfl) T.z_all rfl scIss.nd TB rfl (pi_tup (pv 0)) (own := [("truth", 1)]) (g := gName 1) (tt := tYes) (blkOk_by (N := nIss) (sc := defScope sIss) (by decide +kernel)) ⟨rfl, by decide +kernel, rfl⟩ (fun _ _ _ _ _ _ _ => pg_name (i := 1) scIss.nd rfl (.inl rfl)) (fun _ _ _ _ _ _ _ => pts_nil) (fun _ _ _ _ _ _ _ => (pe_callB (call_isiB (K := K) rfl) (by rfl) T.z_isinstance (by decide +kernel) (pa_cons (pv 1) (pa_cons (pe_bltn (v := .ty "bool") (u := .type "bool") (by rfl) T.z_bool (by decide +kernel) rfl) pa_nil))))))))))), ?_⟩
    have t := hv.ty (K := K)
    cases d with
    | int n => exact ⟨_, rfl, v, .ty "tuple", .type "int", .type "tuple", false, rfl, .ty _, t, kit_ty (by decide +kernel), _, rfl, q _ _ (no_st fun _ => nofun) (.refl _ _)⟩
    | bool b => exact ⟨_, rfl, v, .ty "tuple", .type "bool", .type "tuple", false, rfl, .ty _, t, kit_ty (by decide +kernel), _, rfl, q _ _ (no_st fun _ => nofun) (.refl _ _)⟩
    | none => exact ⟨_, rfl, v, .ty "tuple", .type "NoneType", .type "tuple", false, rfl, .ty _, t, kit_ty (by decide +kernel), _, rfl, q _ _ (no_st fun _ => nofun) (.refl _ _)⟩
    | str x => exact ⟨_, rfl, v, .ty "tuple", .type "str", .type "tuple", false, rfl, .ty _, t, kit_ty (by decide +kernel), _, rfl, q _ _ (no_st fun _ => nofun) (.refl _ _)⟩
    | list x => exact ⟨_, rfl, v, .ty "tuple", .type "list", .type "tuple", false, rfl, .ty _, t, kit_ty (by decide +kernel), _, rfl, q _ _ (no_st fun _ => nofun) (.refl _ _)⟩
    | dict x => cases hv
    | tuple ds =>
      cases id hv with
      | tup ha od =>
        rename_i a xs
        have l6 := l60 ds rfl
        have lx := od.len
        refine ⟨_, rfl, .ref a, .ty "tuple", .type "tuple", .type "tuple", true, rfl, .ty _, t, kit_ty (by decide +kernel), _, rfl, ?_⟩
        refine ⟨_, rfl, a, _, rfl, .inr (.of ha), rfl, _, rfl, ?_⟩
        by_cases l8 : ds.length = 8
        · rw [show decide (V.int (xs.length : Int) = V.int 8) = true from decide_eq_true (by rw [lx, l8]; rfl)]
          refine ⟨fun v H' => Ke Nof H H' ∧ ((v = .bl true ∧ ∀ d ∈ ds, blD d = true) ∨ (v = .bl false ∧ ∃ d ∈ ds, blD d = false)), fun v H2 ⟨k2, w⟩ => ?_, _, rfl, a, rfl, ⟨_, .of ha⟩, t1, fun H1 tb => ?_⟩
          · rcases w with ⟨rfl, al⟩ | ⟨rfl, d, hd, no⟩
            · obtain ⟨bs, rfl⟩ := bls_of al
              exact q _ _ ⟨fun _ => ⟨bs, rfl, by rw [List.length_map] at l8; exact l8⟩, fun _ => rfl⟩ k2
            · refine q _ _ ⟨fun z => (nomatch z), fun ⟨bs, e, _⟩ => ?_⟩ k2
              rw [PyData.tuple.inj e] at hd
              obtain ⟨n, hn, rfl⟩ := List.mem_map.mp hd
              cases no
          have k1 : Ke Nof H H1 := .tabbed t1 tb
          refine Gx.aa_tup (xs := xs) (stopb := false) (Q := fun v H' => Ke Nof H H' ∧ ((v = .bl true ∧ ∀ d ∈ ds, blD d = true) ∨ (v = .bl false ∧ ∃ d ∈ ds, blD d = false))) (Pv := fun i H' => Ke Nof H H' ∧ ∀ (j : Nat) (d : PyData), j < i → ds[j]? = some d → blD d = true) ⟨k1, fun j d h => absurd h (Nat.not_lt_zero _)⟩ (fun i H' _ p => .of (p.1.tups _ _ ha)) ?_ ?_
          · rintro i x H' hx ⟨k2, pv⟩
            obtain ⟨d, hd, ox⟩ := (od.ke k2.all).at hx
            have yes : blD d = true → ∀ (j : Nat) (d' : PyData), j < i + 1 → ds[j]? = some d' → blD d' = true := fun e j d' hj h1 => by
              rcases Nat.lt_or_ge j i with g | g
              · exact pv j d' g h1
              · have ej : j = i := by omega
                subst ej
                rw [hd] at h1
                cases h1
                exact e
            have no : blD d = false → ∃ d ∈ ds, blD d = false := fun e => ⟨d, List.mem_of_getElem? hd, e⟩
            have tx := ox.ty (K := K)
            cases d with
            | bool b => exact ⟨rfl, _, rfl, x, .ty "bool", .type "bool", .type "bool", true, rfl, .ty _, tx, kit_ty (by decide +kernel), .inr ⟨rfl, k2, yes rfl⟩⟩
            | int n => exact ⟨rfl, _, rfl, x, .ty "bool", .type "int", .type "bool", false, rfl, .ty _, tx, kit_ty (by decide +kernel), .inl ⟨rfl, k2, .inr ⟨rfl, no rfl⟩⟩⟩
            | none => exact ⟨rfl, _, rfl, x, .ty "bool", .type "NoneType", .type "bool", false, rfl, .ty _, tx, kit_ty (by decide +kernel), .inl ⟨rfl, k2, .inr ⟨rfl, no rfl⟩⟩⟩
            | str n => exact ⟨rfl, _, rfl, x, .ty "bool", .type "str", .type "bool", false, rfl, .ty _, tx, kit_ty (by decide +kernel), .inl ⟨rfl, k2, .inr ⟨rfl, no rfl⟩⟩⟩
            | list n => exact ⟨rfl, _, rfl, x, .ty "bool", .type "list", .type "bool", false, rfl, .ty _, tx, kit_ty (by decide +kernel), .inl ⟨rfl, k2, .inr ⟨rfl, no rfl⟩⟩⟩
            | tuple n => exact ⟨rfl, _, rfl, x, .ty "bool", .type "tuple", .type "bool", false, rfl, .ty _, tx, kit_ty (by decide +kernel), .inl ⟨rfl, k2, .inr ⟨rfl, no rfl⟩⟩⟩
            | dict n => cases ox
          · rintro H' ⟨k2, pv⟩
            refine ⟨k2, .inl ⟨rfl, fun d hd => ?_⟩⟩
            obtain ⟨j, hj⟩ := List.getElem?_of_mem hd
            exact pv j d (by rw [od.len]; exact (List.getElem?_eq_some_iff.mp hj).1) hj
        · rw [show decide (V.int (xs.length : Int) = V.int 8) = false from decide_eq_false fun z => l8 (by have := V.int.inj z; omega)]
          exact q _ _ ⟨fun z => (nomatch z), fun ⟨bs, e, l⟩ => absurd (by rw [PyData.tuple.inj e, List.length_map]; exact l) l8⟩ (.refl _ _)
abbrev sSnd : Stmt := topS 19
theorem scSnd : FnScope ["book", "claim", "numbers", "thing"] ["book", "claim", "numbers", "thing"] (defScope sSnd) := ⟨rfl, rfl, rfl, by decide +kernel, rfl, by decide +kernel, by decide +kernel⟩
def spSnd (Ps Ph Pa : Addr) : Sp := fun vs H Q _ => ∃ (f0 : Addr → Prop) (v x u t : V) (css : List (List Int)) (cs : List Int) (ns : List Nat) (d : PyData), vs = [v, x, u, t] ∧ Bk H v css ∧ TupI H x cs ∧ NumL H u ns ∧ (∀ n ∈ ns, n < css.length) ∧ ns.length ≤ 100 ∧ OdV f0 H t d ∧ (∀ ds, d = .tuple ds → ds.length ≤ 60) ∧ Says cs ∧ (∀ c ∈ css, Says c) ∧ TabG H Ps ∧ TabG H Ph ∧ TabG H Pa ∧
  ∀ b H', (b = true ↔ NdD (pick css ns) cs d) → Ke Nof H H' → Q (.bl b) H'
theorem ok_snd {f fI fA fY fH Ps Ph Pa : Addr} {fd fdI fdA fdY fdH : FuncData} {k : Nat} (F : Fun K "shows_need" "shows_need" sSnd f fd)
    (kpI : PySem.W.keepIn K (.ref fI) = true) (bI : Binds K fdI ["thing"] []) (gI : mg "is_setting" = some (.ref fI)) (GI : FnOk P w K mg base CX0 3 fI fdI ["thing"] (spIss Ps))
    (kpA : PySem.W.keepIn K (.ref fA) = true) (bA : Binds K fdA ["book", "setting"] []) (gA : mg "all_hold" = some (.ref fA)) (GA : FnOk P w K mg base CX0 5 fA fdA ["book", "setting"] (spAhd Ph Pa))
    (FY : Fun K "claims_by" "claims_by" sCby fY fdY) (bY : Binds K fdY ["book", "numbers"] []) (gY : mg "claims_by" = some (.ref fY)) (GY : FnOk P w K mg base CX0 1 fY fdY ["book", "numbers"] spCby)
    (kpH : PySem.W.keepIn K (.ref fH) = true) (bH : Binds K fdH ["claim", "setting"] []) (gH : mg "holds" = some (.ref fH)) (GH : FnOk P w K mg base CX0 3 fH fdH ["claim", "setting"] (spHol Ph)) :
    FnOk P w K mg base CX0 (k + 6) f fd ["book", "claim", "numbers", "thing"] (spSnd Ps Ph Pa) := by
  refine F.ok scSnd (fun vs H Q E h => ?_) (fun cdv A outer s H vs Q E hr h => ?_)
  · obtain ⟨f0, v, x, u, t, css, cs, ns, d, rfl, _⟩ := h
    rfl
  · obtain ⟨f0, v, x, u, t, css, cs, ns, d, rfl, hb, tx, hn, bd, l100, ot, l60, sc, sb, ts, th, ta, q⟩ := h
    have hr1 : Room 1 _ := hr.mono (by omega)
    have hr3 : Room 3 _ := hr.mono (by omega)
    have hr5 : Room 5 _ := hr.mono (by omega)
    refine ⟨_, (pss_one (ps_ret (pe_and (pe_call GI hr3 (by rfl) gI kpI bI .nil pass0 (pa_cons (pv 3) pa_nil)) (pe_and (pe_call GA hr5 (by rfl) gA kpA bA .nil pass0 (pa_cons (pe_call GY hr1 (by rfl) gY FY.kp bY .nil pass0 (pa_cons (pv 0) (pa_cons (pv 2) pa_nil))) (pa_cons (pv 3) pa_nil))) (pe_one (pe_not (pe_call GH hr3 (by rfl) gH kpH bH .nil pass0 (pa_cons (pv 1) (pa_cons (pv 3) pa_nil))))))))), ?_⟩
    refine ⟨_, rfl, f0, t, d, rfl, ot, l60, ts, fun b H1 hb1 k1 => ⟨b, rfl, ?_⟩⟩
    cases b with
    | false => exact q _ _ ⟨fun z => (nomatch z), fun ⟨bs, e, c⟩ => hb1.mpr ⟨bs, e, c.1⟩⟩ k1
    | true =>
      obtain ⟨bs, rfl, l8⟩ := hb1.mp rfl
      have tb : TupB H1 t bs := by
        cases ot with
        | tup ha od =>
          rw [od_bls od] at ha
          exact ⟨_, rfl, k1.tups _ _ ha⟩
      refine ⟨_, rfl, _, rfl, v, u, css, ns, rfl, hb.ke k1, hn.ke k1, bd, l100, fun p H2 s2 hp => ?_⟩
      have k2 : Ke Nof H H2 := k1.trans (.same s2)
      refine ⟨_, rfl, .ref p, t, pick css ns, bs, rfl, hp, tb.ke (Ke.same (F := Nof) s2), l8, fun c hc => sb c (pick_mem bd c hc), k2.tabs _ th, k2.tabs _ ta, fun H3 k3 => ⟨_, rfl, ?_⟩⟩
      have k23 := k2.trans k3
      cases ea : ah bs (pick css ns) with
      | false =>
        refine q _ _ ⟨fun z => (nomatch z), fun ⟨cs', e, c⟩ => ?_⟩ k23
        have c2 := c.2.2
        rw [← bl_inj (PyData.tuple.inj e), ea] at c2
        cases c2
      | true =>
        refine ⟨_, rfl, _, rfl, x, t, cs, bs, rfl, tx.ke k23, (tb.ke (Ke.same (F := Nof) s2)).ke k3, l8, sc, k23.tabs _ th, fun H4 k4 => ⟨_, rfl, ?_⟩⟩
        refine q _ _ ?_ (k23.trans k4)
        cases eh : cs.any (sh bs) with
        | true =>
          refine ⟨fun z => (nomatch z), fun ⟨cs', e, c⟩ => ?_⟩
          have c2 := c.2.1
          rw [← bl_inj (PyData.tuple.inj e), eh] at c2
          cases c2
        | false => exact ⟨fun _ => ⟨bs, rfl, l8, eh, ea⟩, fun _ => rfl⟩
end
end Sn
namespace St
open PySem PySem.Spec PyProof.Rows L2 Nw
/-! ### set(xs) of a list of whole numbers, and sorted of it -/
/-- a set as it begins -/
abbrev bare (w : World) : Obj := { cls := .type "set", dict := none, data := .set #[] 0 (.fresh 0 0 (!w.params.followText "set-order")) }
section
variable {P : Program} {w : World} {A : Around} {E : Value → Shared → Prop} {s : Shared}
set_option maxRecDepth 100000 in
set_option maxHeartbeats 3200000 in
theorem set_of_list {l : Addr} {xs : Array Value} (ks : List Int) {Q : Value → Shared → Prop} (hA : A.handled = none) (hx : s.heap.IsList l xs) (hk : IntsAre xs.toList ks) (few : ks.length + 1 < scanBound)
    (want : ∀ (h' : Heap) (tk c : Nat), SetR w h' s.heap.objs.size (fun j => decide (j ∈ ks)) c → c ≤ ks.length → (∀ b o, s.heap.get? b = some o → h'.get? b = some o) → Q (.ref s.heap.objs.size) { s with heap := h', toks := tk }) :
    wpAny (model P w) A (call (.type "set") [.ref l]) Q E s := by
  have sz : xs.size = ks.length := by rw [← Array.length_toList]; exact IntsAre.length hk
  obtain ⟨c, tl, hmro⟩ := F.called_set.mro
  have m1 := F.called_set.made
  have m2 := F.called_set.sub
  have m3 := F.called_set.notType
  have m4 := F.called_set.canCreate
  have m5 := F.typeCall_set_1 (.ref l)
  refine wpAny_call (codeAny_of_tree (wpAny_pure ⟨Code.quiet_builtin _ (by decide +kernel), codeAny_builtin F.entry_type_call ?_⟩))
  rw [Around.under_plain (weight_type_call_type "set" [.ref l] []) rfl]
  repeat (any_goals (first | assumption | wp_step))
  refine codeAny_mono (code_set_led1 (.ref l) (E := E) (Q₁ := fun o s1 => o = .ref s.heap.objs.size ∧ s1 = { s with heap := s.heap.push (bare w) }) ⟨rfl, rfl⟩) fun r s1 hr => ?_
  cases r with
  | error e => exact hr
  | ok fl =>
    cases fl with
    | next => exact hr.elim
    | brk => exact hr.elim
    | cont => exact hr.elim
    | ret o =>
      obtain ⟨rfl, rfl⟩ := hr
      have g0 : (s.heap.push (bare w)).get? s.heap.objs.size = some (bare w) := Heap.get?_push_size _ rfl
      have t0 : Shared.TypeIs { s with heap := s.heap.push (bare w) } (.ref s.heap.objs.size) "set" := ⟨_, g0, rfl⟩
      have m6 := F.called_set.init.lookup
      have m7 := F.called_set.init.bind (.ref s.heap.objs.size)
      repeat (any_goals (first | assumption | wp_step))
      refine codeAny_mono (codeAny_call_builtin (R := wants (fun r s2 => r = .none ∧ ∃ h' tk c, s2 = { s with heap := h', toks := tk } ∧ SetR w h' s.heap.objs.size (fun j => decide (j ∈ ks)) c ∧ c ≤ ks.length ∧ ∀ b o, s.heap.get? b = some o → h'.get? b = some o) E) F.called_set.init.plain F.entry_set_init (check_set_init_1 t0 ?_)) fun r2 s2 hr2 => ?_
      · obtain ⟨ol, g1, hc, nl, hd⟩ := hx
        have lt : l < s.heap.objs.size := Heap.lt_size g1
        obtain ⟨oc, od, oda, osl⟩ := ol
        dsimp only at hc hd
        subst hc hd
        have g2 : (s.heap.push (bare w)).get? l = some { cls := .type "list", dict := od, data := .seq xs nl, slots := osl } := Heap.get?_push_of_some _ g1
        have i1 : (s.heap.push (bare w)).IsList l xs := ⟨_, g2, rfl, nl, rfl⟩
        have m8 := F.sub_list_set
        have m9 := F.sub_list_frozenset
        have m10 : (Value.type "list" == Value.type "dict") = false := by decide
        have szp : (s.heap.push (bare w)).objs.size = s.heap.objs.size + 1 := Heap.size_push ..
        unfold Builtin.«set.__init__» noKeywords Builtin.Frozenset.updateFrom
        generalize hPI : pyIter = PI
        wp_walk
        subst hPI
        refine wpAny_pyIter_list i1 (wpAny_bind (wpAny_runValue ?_))
        have ne1 : l ≠ (s.heap.push (bare w)).objs.size := by rw [szp]; exact Nat.ne_of_lt (Nat.lt_succ_of_lt lt)
        have ne2 : s.heap.objs.size ∉ [(s.heap.push (bare w)).objs.size, l] := by
          rw [szp]
          simp only [List.mem_cons, List.not_mem_nil, or_false, not_or]
          exact ⟨Nat.ne_of_lt (Nat.lt_succ_self _), Nat.ne_of_gt lt⟩
        have at_ : ∀ (i : Nat) (v : Value), xs[i]? = some v → ∃ k t, ks[i]? = some k ∧ v = .int k t := fun i v hv => by
          have hi : i < ks.length := by rw [← sz]; exact (Array.getElem?_eq_some_iff.mp hv).1
          obtain ⟨t, e⟩ := IntsAre.int_at hk i v (by rw [Array.getElem?_toList]; exact hv)
          rw [List.getD_eq_getElem?_getD, List.getElem?_eq_getElem hi, Option.getD_some] at e
          exact ⟨ks[i], t, List.getElem?_eq_getElem hi, e⟩
        have hA3 : A.in1.in1.in1.handled = none := by simp [hA]
        refine set_update_ints ((Walks.list hA3 _ l ne1 xs).toS) s.heap.objs.size ne2 ks sz few at_ (xs.size - 0) 0 _ (by omega) (Nat.zero_le _) ⟨⟨_, Heap.get?_push_size _ rfl, rfl, rfl⟩, i1.push _⟩ ⟨0, Nat.le_refl 0, setR_new_at (Heap.get?_push_of_some _ g0)⟩ ?_
        intro s' c' hm hc' hS'
        obtain ⟨h', g', d', tk', os'⟩ := s'
        obtain rfl : g' = s.gens := hm.gens
        obtain rfl : d' = s.drawn := hm.drawn
        obtain rfl : os' = s.os := hm.os
        show wpAny _ _ _ _ _ _
        refine wpAny_pure (wpAny_pure ⟨rfl, h', tk', c', rfl, hS', by omega, fun b o e => ?_⟩)
        have lb : b < s.heap.objs.size := Heap.lt_size e
        refine hm.heap b o ?_ (Heap.get?_push_of_some _ (Heap.get?_push_of_some _ e))
        rw [szp]
        simp only [List.mem_cons, List.not_mem_nil, or_false, not_or]
        exact ⟨Nat.ne_of_lt lb, Nat.ne_of_lt (Nat.lt_succ_of_lt lb)⟩
      · cases r2 with
        | error e => exact hr2
        | ok f2 =>
          cases f2 with
          | next => exact hr2.elim
          | brk => exact hr2.elim
          | cont => exact hr2.elim
          | ret r =>
            obtain ⟨rfl, h', tk, c', rfl, hS', hc', hk'⟩ := hr2
            repeat (any_goals (first | assumption | wp_step))
            exact want _ _ _ hS' hc' hk'
end
end St
namespace St
open PySem PySem.Spec PyProof.Rows L2 Nw
theorem cr_setL {X : Cx} (hc : X.calm = true) : CallR X (.type "set") (fun xs H Q => ∃ (a : Addr) (ns : List Int), xs = [.ref a] ∧ SqL X.K H a (ns.map V.int) ∧ ns.length ≤ 60 ∧ ∀ p H2 n, H p = none → Same H H2 → H2 p = some (SetO X.w p (fun j => decide (j ∈ ns)) n) → n ≤ ns.length → Q (.ref p) H2) := by
  intro pins s σ H xs us Q I r h
  obtain ⟨a, ns, rfl, hs, hl, q⟩ := h
  obtain ⟨u, rfl, ru⟩ := Vals.one r
  cases ru
  obtain ⟨its, ri, pl, _⟩ := I.list hs
  have hn : H s.heap.objs.size = none := I.hok.fresh (Nat.le_refl _)
  refine set_of_list ns (I.ok.hd hc) (PlainL.isList pl) (by rw [List.toList_toArray]; exact Vals.ints ri) (by unfold scanBound; omega) fun h' tk c R lc k => ?_
  exact ⟨.ref s.heap.objs.size, upd H s.heap.objs.size (SetO X.w s.heap.objs.size (fun j => decide (j ∈ ns)) c), I.laid (t' := tk) k (Nat.le_refl _) (setO_new R), rfl, q _ _ c hn (same_new hn) upd_same lc⟩
theorem cr_sortedS {X : Cx} (hc : X.calm = true) : CallR X (.builtin "sorted") (fun vs H Q => ∃ (a : Addr) (S : Int → Bool) (n : Nat), vs = [V.ref a] ∧ H a = some (SetO X.w a S n) ∧ n < 64 ∧ ∀ ns : List Int, ns.Pairwise (· < ·) → (∀ k : Int, k ∈ ns ↔ S k = true) → ns.length = n → New H (.lst (ns.map V.int)) Q) :=
  call_weak (cr_sortedSet hc) fun _ _ _ ⟨a, S, n, h1, h2, h3, h4⟩ => ⟨a, S, n, h1, h2, h3, fun ns p x1 x2 x3 np => (h4 ns x1 x2 x3).to p np⟩
end St
namespace St
open PySem PySem.Spec PyProof.Rows L2 Nw
section
variable {X : Cx}
/-- sorted(t), t a tuple of whole numbers: the items are gathered in a list, then a list of these is sorted in its place -/
theorem cr_sortedT : CallR X (.builtin "sorted") (fun vs H Q => ∃ (a : Addr) (ns : List Int), vs = [V.ref a] ∧ SqT X.K H a (ns.map V.int) ∧ ∀ ns' : List Int, ns'.Perm ns → ns'.Pairwise (· ≤ ·) → New H (.lst (ns'.map V.int)) Q) := by
  intro pins s σ H vs us Q I r h
  obtain ⟨a, ns, rfl, hs, q⟩ := h
  obtain ⟨its, rv, ⟨o, ho, hcl, n, hd⟩, hz⟩ := I.tuple hs
  obtain ⟨u, rfl, ru⟩ := Vals.one r
  cases ru
  have hin := Vals.ints rv
  have lz : its.length ≤ sizeLine := by rw [← Vals.length rv]; exact hz
  refine Calls.call_function_entry PyProof.Rows.kind_sorted PyProof.Rows.plain_sorted PyProof.Rows.entry_sorted (PyProof.Rows.args_sorted1 _) ?_
  unfold Builtin.«sorted»
  refine wpAny_bind (m := checkCount "sorted" 1 1 _) (wpAny_pure (wpAny_bind (wpAny_collect_seq a (.inr rfl) ho hcl hd (fun h1 k1 => ?_) (by rw [List.size_toArray]; exact lz))))
  refine wpAny_bind (wpAny_newList ?_ (by rw [List.toList_toArray]; exact lz))
  rw [List.toList_toArray]
  have at1 : (h1.push (seqObj "list" its.toArray 0)).get? h1.objs.size = some (seqObj "list" its.toArray 0) := Heap.get?_push_size _ rfl
  have up1 : ∀ b o, s.heap.get? b = some o → b ≠ h1.objs.size ∧ (h1.push (seqObj "list" its.toArray 0)).get? b = some o := fun b o e => ⟨Nat.ne_of_lt (Heap.lt_size (k1 b o e)), Heap.get?_push_of_some _ (k1 b o e)⟩
  refine wpAny_bind (wpAny_holding (wpAny_call_entry PyProof.Rows.slot_list_sort ⟨_, at1, rfl⟩ PyProof.Rows.entry_list_sort (SrtO.list_sort_ord SrtO.swo_int at1 lz (fun h2 => SrtO.ints_sortable hin h2) fun out g1 g2 => ⟨_, rfl, ?_⟩) (PyProof.Rows.args_list_sort _)))
  obtain ⟨i1, i2, i3⟩ := SrtO.ints_out hin g1 g2
  obtain ⟨ep, hat⟩ := PyProof.Rows.sortedHeap_at (out := out.toArray) at1
  have gone : s.heap.get? h1.objs.size = none := by
    cases e : s.heap.get? h1.objs.size with
    | none => rfl
    | some o => exact absurd (Heap.lt_size (k1 _ o e)) (Nat.lt_irrefl _)
  have hn : H h1.objs.size = none := I.hok.gone gone
  have old : ∀ b o, s.heap.get? b = some o → (PyProof.Rows.sortedHeap (h1.push (seqObj "list" its.toArray 0)) h1.objs.size its out.toArray).get? b = some o := fun b o e => by
    rw [PyProof.Rows.sortedHeap_old (up1 b o e).1 (Heap.lt_size (up1 b o e).2)]
    exact (up1 b o e).2
  have len : ((out.map SrtO.iv).map V.int).length ≤ sizeLine := by
    rw [List.length_map, i2.length_eq]
    rw [List.length_map] at hz
    exact hz
  refine wpAny_pure ⟨_, rfl, .ref h1.objs.size, upd H h1.objs.size (.lst ((out.map SrtO.iv).map V.int)), I.laidN (t' := s.toks) old gone hn ⟨len, out, ep, vals_of_ints i1, hat⟩, rfl, (q _ i2 i3).to _ hn⟩
end
end St
namespace St2
open PySem PySem.Spec PyProof.Rows L2 Nw
/-! ### set(t) of a tuple of whole numbers -/
/-- a set as it begins -/
abbrev bare (w : World) : Obj := { cls := .type "set", dict := none, data := .set #[] 0 (.fresh 0 0 (!w.params.followText "set-order")) }
section
variable {P : Program} {w : World} {A : Around} {E : Value → Shared → Prop} {s : Shared}
set_option maxRecDepth 100000 in
set_option maxHeartbeats 3200000 in
theorem set_of_tup {l : Addr} {xs : Array Value} (ks : List Int) {Q : Value → Shared → Prop} (hA : A.handled = none) (hx : s.heap.IsTuple l xs) (hk : IntsAre xs.toList ks) (few : ks.length + 1 < scanBound)
    (want : ∀ (h' : Heap) (tk c : Nat), SetR w h' s.heap.objs.size (fun j => decide (j ∈ ks)) c → c ≤ ks.length → (∀ b o, s.heap.get? b = some o → h'.get? b = some o) → Q (.ref s.heap.objs.size) { s with heap := h', toks := tk }) :
    wpAny (model P w) A (call (.type "set") [.ref l]) Q E s := by
  have sz : xs.size = ks.length := by rw [← Array.length_toList]; exact IntsAre.length hk
  obtain ⟨c, tl, hmro⟩ := F.called_set.mro
  have m1 := F.called_set.made
  have m2 := F.called_set.sub
  have m3 := F.called_set.notType
  have m4 := F.called_set.canCreate
  have m5 := F.typeCall_set_1 (.ref l)
  refine wpAny_call (codeAny_of_tree (wpAny_pure ⟨Code.quiet_builtin _ (by decide +kernel), codeAny_builtin F.entry_type_call ?_⟩))
  rw [Around.under_plain (weight_type_call_type "set" [.ref l] []) rfl]
  repeat (any_goals (first | assumption | wp_step))
  refine codeAny_mono (code_set_led1 (.ref l) (E := E) (Q₁ := fun o s1 => o = .ref s.heap.objs.size ∧ s1 = { s with heap := s.heap.push (bare w) }) ⟨rfl, rfl⟩) fun r s1 hr => ?_
  cases r with
  | error e => exact hr
  | ok fl =>
    cases fl with
    | next => exact hr.elim
    | brk => exact hr.elim
    | cont => exact hr.elim
    | ret o =>
      obtain ⟨rfl, rfl⟩ := hr
      have g0 : (s.heap.push (bare w)).get? s.heap.objs.size = some (bare w) := Heap.get?_push_size _ rfl
      have t0 : Shared.TypeIs { s with heap := s.heap.push (bare w) } (.ref s.heap.objs.size) "set" := ⟨_, g0, rfl⟩
      have m6 := F.called_set.init.lookup
      have m7 := F.called_set.init.bind (.ref s.heap.objs.size)
      repeat (any_goals (first | assumption | wp_step))
      refine codeAny_mono (codeAny_call_builtin (R := wants (fun r s2 => r = .none ∧ ∃ h' tk c, s2 = { s with heap := h', toks := tk } ∧ SetR w h' s.heap.objs.size (fun j => decide (j ∈ ks)) c ∧ c ≤ ks.length ∧ ∀ b o, s.heap.get? b = some o → h'.get? b = some o) E) F.called_set.init.plain F.entry_set_init (check_set_init_1 t0 ?_)) fun r2 s2 hr2 => ?_
      · obtain ⟨ol, g1, hc, nl, hd⟩ := hx
        have lt : l < s.heap.objs.size := Heap.lt_size g1
        obtain ⟨oc, od, oda, osl⟩ := ol
        dsimp only at hc hd
        subst hc hd
        have g2 : (s.heap.push (bare w)).get? l = some { cls := .type "tuple", dict := od, data := .seq xs nl, slots := osl } := Heap.get?_push_of_some _ g1
        have i1 : (s.heap.push (bare w)).IsTuple l xs := ⟨_, g2, rfl, nl, rfl⟩
        have m8 := F.sub_tuple_set
        have m9 := F.sub_tuple_frozenset
        have m10 : (Value.type "tuple" == Value.type "dict") = false := by decide
        have szp : (s.heap.push (bare w)).objs.size = s.heap.objs.size + 1 := Heap.size_push ..
        unfold Builtin.«set.__init__» noKeywords Builtin.Frozenset.updateFrom
        generalize hPI : pyIter = PI
        wp_walk
        subst hPI
        refine wpAny_pyIter_tuple i1 (wpAny_bind (wpAny_runValue ?_))
        have ne1 : l ≠ (s.heap.push (bare w)).objs.size := by rw [szp]; exact Nat.ne_of_lt (Nat.lt_succ_of_lt lt)
        have ne2 : s.heap.objs.size ∉ [(s.heap.push (bare w)).objs.size, l] := by
          rw [szp]
          simp only [List.mem_cons, List.not_mem_nil, or_false, not_or]
          exact ⟨Nat.ne_of_lt (Nat.lt_succ_self _), Nat.ne_of_gt lt⟩
        have at_ : ∀ (i : Nat) (v : Value), xs[i]? = some v → ∃ k t, ks[i]? = some k ∧ v = .int k t := fun i v hv => by
          have hi : i < ks.length := by rw [← sz]; exact (Array.getElem?_eq_some_iff.mp hv).1
          obtain ⟨t, e⟩ := IntsAre.int_at hk i v (by rw [Array.getElem?_toList]; exact hv)
          rw [List.getD_eq_getElem?_getD, List.getElem?_eq_getElem hi, Option.getD_some] at e
          exact ⟨ks[i], t, List.getElem?_eq_getElem hi, e⟩
        have hA3 : A.in1.in1.in1.handled = none := by simp [hA]
        refine set_update_ints ((Walks.tuple hA3 _ l ne1 xs).toS) s.heap.objs.size ne2 ks sz few at_ (xs.size - 0) 0 _ (by omega) (Nat.zero_le _) ⟨⟨_, Heap.get?_push_size _ rfl, rfl, rfl⟩, i1.push _⟩ ⟨0, Nat.le_refl 0, setR_new_at (Heap.get?_push_of_some _ g0)⟩ ?_
        intro s' c' hm hc' hS'
        obtain ⟨h', g', d', tk', os'⟩ := s'
        obtain rfl : g' = s.gens := hm.gens
        obtain rfl : d' = s.drawn := hm.drawn
        obtain rfl : os' = s.os := hm.os
        show wpAny _ _ _ _ _ _
        refine wpAny_pure (wpAny_pure ⟨rfl, h', tk', c', rfl, hS', by omega, fun b o e => ?_⟩)
        have lb : b < s.heap.objs.size := Heap.lt_size e
        refine hm.heap b o ?_ (Heap.get?_push_of_some _ (Heap.get?_push_of_some _ e))
        rw [szp]
        simp only [List.mem_cons, List.not_mem_nil, or_false, not_or]
        exact ⟨Nat.ne_of_lt lb, Nat.ne_of_lt (Nat.lt_succ_of_lt lb)⟩
      · cases r2 with
        | error e => exact hr2
        | ok f2 =>
          cases f2 with
          | next => exact hr2.elim
          | brk => exact hr2.elim
          | cont => exact hr2.elim
          | ret r =>
            obtain ⟨rfl, h', tk, c', rfl, hS', hc', hk'⟩ := hr2
            repeat (any_goals (first | assumption | wp_step))
            exact want _ _ _ hS' hc' hk'
theorem cr_setT {X : Cx} (hc : X.calm = true) : CallR X (.type "set") (fun xs H Q => ∃ (a : Addr) (ns : List Int), xs = [.ref a] ∧ SqT X.K H a (ns.map V.int) ∧ ns.length ≤ 60 ∧ ∀ p H2 n, H p = none → Same H H2 → H2 p = some (SetO X.w p (fun j => decide (j ∈ ns)) n) → n ≤ ns.length → Q (.ref p) H2) := by
  intro pins s σ H xs us Q I r h
  obtain ⟨a, ns, rfl, hs, hl, q⟩ := h
  obtain ⟨u, rfl, ru⟩ := Vals.one r
  cases ru
  obtain ⟨its, ri, pl, _⟩ := I.tuple hs
  have hn : H s.heap.objs.size = none := I.hok.fresh (Nat.le_refl _)
  refine set_of_tup ns (I.ok.hd hc) (show s.heap.IsTuple a its.toArray from pl) (by rw [List.toList_toArray]; exact Vals.ints ri) (by unfold scanBound; omega) fun h' tk c R lc k => ?_
  exact ⟨.ref s.heap.objs.size, upd H s.heap.objs.size (SetO X.w s.heap.objs.size (fun j => decide (j ∈ ns)) c), I.laid (t' := tk) k (Nat.le_refl _) (setO_new R), rfl, q _ _ c hn (same_new hn) upd_same lc⟩
end
end St2
namespace Ct
open PySem PySem.Spec PyProof.Rows L2 GxR Nw Dr Kp Se
structure Zc (mg : Str → Option Value) : Prop where
  z_any : mg "any" = none
  z_isinstance : mg "isinstance" = none
  z_int : mg "int" = none
  z_bool : mg "bool" = none
  z_tuple : mg "tuple" = none
  z_sorted : mg "sorted" = none
  z_set : mg "set" = none
theorem ints_flat (cs : List Int) : (cs.map V.int).all flatV = true := by
  rw [List.all_map, List.all_eq_true]
  exact fun _ _ => rfl
theorem at_int {ks : List Int} {i : Nat} {x : V} (hx : (ks.map V.int)[i]? = some x) : ∃ z, ks[i]? = some z ∧ x = V.int z := by
  rw [List.getElem?_map] at hx
  cases e : ks[i]? with
  | none =>
    rw [e] at hx
    cases hx
  | some z =>
    rw [e] at hx
    exact ⟨z, rfl, (Option.some.inj hx).symm⟩
/-- any/all over a list that stays -/
theorem aa_list {K : PySem.W.Frag} {a : Addr} {xs : List V} {g : TG} {tt : TT} {te : TE} {vs : List Nat} {σ : L2.St} {H1 : Hp} {stopb : Bool} {Q : VK} (Pv : Nat → Hp → Prop) (h0 : Pv 0 H1) (hl : ∀ i H, i ≤ xs.length → Pv i H → SqL K H a xs)
    (hs : ∀ i x H, xs[i]? = some x → Pv i H → g x (wipe σ vs) H fun σ2 H2 => wipe σ2 vs = wipe σ vs ∧ tt σ2 H2 fun b H3 => if b = true then te σ2 H3 fun y H4 => (y = .bl stopb ∧ Q (.bl stopb) H4) ∨ (y = .bl (!stopb) ∧ Pv (i + 1) H4) else Pv (i + 1) H3) (hd : ∀ H, Pv xs.length H → Q (.bl (!stopb)) H) :
    ∃ W : Nat → Nat → Hp → Prop, (∃ m, W 0 m H1) ∧ ∀ i m H, W i m H → ((Itl K a).stop i H ∧ Q (.bl (!stopb)) H) ∨ ((Itl K a).go i H ∧ ∃ Nx : Hp → Prop, (∀ H', Nx H' → ∃ m', m' < m ∧ W (i + 1) m' H') ∧ ∀ x H', (Itl K a).yld i H x H' → g x (wipe σ vs) H' fun σ2 H2 => wipe σ2 vs = wipe σ vs ∧ tt σ2 H2 fun b H3 =>
      if b = true then te σ2 H3 fun y H4 => (y = .bl stopb ∧ Q (.bl stopb) H4) ∨ (y = .bl (!stopb) ∧ Nx H4) else Nx H3) := by
  refine ⟨fun i m H => i + m = xs.length ∧ Pv i H, ⟨xs.length, Nat.zero_add _, h0⟩, fun i m H ⟨e, p⟩ => ?_⟩
  have sq := hl i H (by omega) p
  cases m with
  | zero =>
    have ei : i = xs.length := by omega
    subst ei
    exact .inl ⟨⟨xs, sq, Nat.le_refl _⟩, hd H p⟩
  | succ m =>
    have lt : i < xs.length := by omega
    refine .inr ⟨⟨xs, xs[i], sq, List.getElem?_eq_getElem lt⟩, Pv (i + 1), fun H' q => ⟨m, Nat.lt_succ_self m, by omega, q⟩, fun x H' y => ?_⟩
    obtain ⟨rfl, y⟩ := y
    exact hs i x _ (y xs sq) p
/-- two of the says are opposite -/
def oppB (ns : List Int) : Bool := ns.any fun s => decide (0 < s) && inV (.int (-s)) (ns.map V.int)
theorem take_any {α : Type} {f : α → Bool} {l : List α} {i : Nat} {x : α} (h : l[i]? = some x) (p : (l.take i).any f = false) : (f x = true → l.any f = true) ∧ (f x = false → (l.take (i + 1)).any f = false) := by
  refine ⟨fun z => List.any_eq_true.mpr ⟨x, List.mem_of_getElem? h, z⟩, fun z => ?_⟩
  rw [List.take_add_one, h, List.any_append, p]
  show (f x || false) = false
  rw [z]
  rfl
section
variable {P : Program} {w : World} {K : PySem.W.Frag} {mg : Str → Option Value} {base : Heap}
def spWho : Sp := fun vs H Q _ => ∃ k : Int, vs = [.int k] ∧ Q (.bl true) H
/-- k meets -/
def meetB (cs ds : List Int) (k : Int) : Bool := decide (1 ≤ k) && decide (k ≤ 8) && inV (.int k) (cs.map V.int) && inV (.int (-k)) (ds.map V.int)
/-- what is said besides -/
def saysB (cs ds : List Int) (k : Int) : List Int := (cs.filter fun s => !decide (V.int s = V.int k)) ++ ds.filter fun s => !decide (V.int s = V.int (-k))
theorem filt_take {α : Type} {f : α → Bool} {l : List α} {i : Nat} {x : α} (h : l[i]? = some x) : (l.take (i + 1)).filter f = (l.take i).filter f ++ (if f x = true then [x] else []) := by
  rw [List.take_add_one, h, List.filter_append]
  congr 1
  show [x].filter f = _
  cases e : f x with
  | true => rw [List.filter_cons_of_pos e]; rfl
  | false => rw [List.filter_cons_of_neg (by rw [e]; decide)]; rfl
def spCon (Po : Addr) : Sp := fun vs H Q _ => ∃ (v u : V) (k : Int) (cs ds : List Int), vs = [v, u, .int k] ∧ TupI H v cs ∧ TupI H u ds ∧ cs.length ≤ 20 ∧ ds.length ≤ 20 ∧ TabG H Po ∧
  (∀ H', Ke Nof H H' → (meetB cs ds k = false ∨ oppB (saysB cs ds k) = true) → Q .non H') ∧
  ∀ (ns : List Int) (p : Addr) (H' : Hp), Ke Nof H H' → meetB cs ds k = true → oppB (saysB cs ds k) = false → ns.Pairwise (· < ·) → (∀ j, j ∈ ns ↔ j ∈ saysB cs ds k) → H' p = some (.tup (ns.map V.int)) → Q (.ref p) H'
end
end Ct
namespace Ct
open PySem PySem.Spec PyProof.Rows L2 GxR Nw Dr Kp Se
structure Zd (mg : Str → Option Value) : Prop where
  z_tuple : mg "tuple" = none
  z_sorted : mg "sorted" = none
  z_set : mg "set" = none
  z_abs : mg "abs" = none
theorem in_ints (k : Int) : ∀ cs : List Int, inV (.int k) (cs.map V.int) = true ↔ k ∈ cs
  | [] => by
    constructor
    · intro h
      cases h
    · intro h
      cases h
  | c :: r => by
    have ih := in_ints k r
    show (eqV (.int c) (.int k) || inV (.int k) (r.map V.int)) = true ↔ _
    rw [Bool.or_eq_true, ih, List.mem_cons]
    have e : eqV (.int c) (.int k) = true ↔ k = c := by
      show (c == k) = true ↔ k = c
      rw [beq_iff_eq]
      exact eq_comm
    rw [e]
/-- what is said besides, told by members -/
def Bes (cs ds : List Int) (k j : Int) : Prop := (j ∈ cs ∨ j ∈ ds) ∧ (j.natAbs : Int) ≠ k
end Ct
namespace Ct
open PySem PySem.Spec PyProof.Rows L2 GxR Nw Dr Kp Se
/-! ### what the program cuts and what is cut here agree -/
theorem up_unique : ∀ {xs ys : List Int}, xs.Pairwise (· < ·) → ys.Pairwise (· < ·) → (∀ j, j ∈ xs ↔ j ∈ ys) → xs = ys
  | [], [], _, _, _ => rfl
  | [], y :: r, _, _, h => absurd ((h y).mpr List.mem_cons_self) (by simp)
  | x :: r, [], _, _, h => absurd ((h x).mp List.mem_cons_self) (by simp)
  | x :: r, y :: t, hx, hy, h => by
    obtain ⟨x1, x2⟩ := List.pairwise_cons.mp hx
    obtain ⟨y1, y2⟩ := List.pairwise_cons.mp hy
    have e : x = y := by
      rcases List.mem_cons.mp ((h x).mp List.mem_cons_self) with e | m
      · exact e
      · rcases List.mem_cons.mp ((h y).mpr List.mem_cons_self) with e | m2
        · exact e.symm
        · have := y1 x m
          have := x1 y m2
          omega
    subst e
    rw [up_unique x2 y2 fun j => ⟨fun hj => ?_, fun hj => ?_⟩]
    · rcases List.mem_cons.mp ((h j).mp (List.mem_cons_of_mem _ hj)) with e | m
      · have := x1 j hj
        omega
      · exact m
    · rcases List.mem_cons.mp ((h j).mpr (List.mem_cons_of_mem _ hj)) with e | m
      · have := y1 j hj
        omega
      · exact m
variable {cs ds : List Int} {k : Int}
theorem meet_iff (hc : IsCl cs) : meetB cs ds k = true ↔ 1 ≤ k ∧ k ∈ cs ∧ -k ∈ ds := by
  unfold meetB
  rw [Bool.and_eq_true, Bool.and_eq_true, Bool.and_eq_true, decide_eq_true_iff, decide_eq_true_iff, in_ints, in_ints]
  constructor
  · rintro ⟨⟨⟨h1, _⟩, h2⟩, h3⟩
    exact ⟨h1, h2, h3⟩
  · rintro ⟨h1, h2, h3⟩
    exact ⟨⟨⟨h1, (hc.says k h2).2.2⟩, h2⟩, h3⟩
theorem not_int {a b : Int} : (!decide (V.int a = V.int b)) = true ↔ a ≠ b := by
  rw [Bool.not_eq_true', decide_eq_false_iff_not]
  exact ⟨fun z y => z (by rw [y]), fun z y => z (V.int.inj y)⟩
theorem says_iff (hc : IsCl cs) (hd : IsCl ds) (kc : k ∈ cs) (kd : -k ∈ ds) (k1 : 1 ≤ k) (j : Int) : j ∈ saysB cs ds k ↔ Bes cs ds k j := by
  unfold saysB Bes
  rw [List.mem_append, List.mem_filter, List.mem_filter, not_int, not_int]
  constructor
  · rintro (⟨h1, h2⟩ | ⟨h1, h2⟩)
    · refine ⟨.inl h1, fun z => ?_⟩
      have e : j = -k := by omega
      rw [e] at h1
      exact hc.opp k kc h1
    · refine ⟨.inr h1, fun z => ?_⟩
      have e : j = k := by omega
      rw [e] at h1
      exact hd.opp k h1 kd
  · rintro ⟨h1 | h1, h2⟩
    · exact .inl ⟨h1, by omega⟩
    · exact .inr ⟨h1, by omega⟩
theorem opp_iff (ns : List Int) (nz : ∀ j ∈ ns, j ≠ 0) : oppB ns = true ↔ ∃ j, j ∈ ns ∧ -j ∈ ns := by
  unfold oppB
  rw [List.any_eq_true]
  constructor
  · rintro ⟨j, hj, h⟩
    rw [Bool.and_eq_true, in_ints] at h
    exact ⟨j, hj, h.2⟩
  · rintro ⟨j, h1, h2⟩
    have := nz j h1
    by_cases p : 0 < j
    · exact ⟨j, h1, by rw [Bool.and_eq_true, in_ints, decide_eq_true_iff]; exact ⟨p, h2⟩⟩
    · exact ⟨-j, h2, by rw [Bool.and_eq_true, in_ints, decide_eq_true_iff, Int.neg_neg]; exact ⟨by omega, h1⟩⟩
/-- the cut of two claims: what comes, if anything -/
def Comes (cs ds : List Int) (k : Int) (ns : List Int) : Prop := 1 ≤ k ∧ k ∈ cs ∧ -k ∈ ds ∧ (∀ j, Bes cs ds k j → ¬ Bes cs ds k (-j)) ∧ ns.Pairwise (· < ·) ∧ ∀ j, j ∈ ns ↔ Bes cs ds k j
def NoCome (cs ds : List Int) (k : Int) : Prop := k < 1 ∨ k ∉ cs ∨ -k ∉ ds ∨ ∃ j, Bes cs ds k j ∧ Bes cs ds k (-j)
theorem Comes.one {ns ms : List Int} (a : Comes cs ds k ns) (b : Comes cs ds k ms) : ns = ms := up_unique a.2.2.2.2.1 b.2.2.2.2.1 fun j => (a.2.2.2.2.2 j).trans (b.2.2.2.2.2 j).symm
theorem Comes.no {ns : List Int} (a : Comes cs ds k ns) (b : NoCome cs ds k) : False := by
  obtain ⟨a1, a2, a3, a4, _⟩ := a
  rcases b with b | b | b | ⟨j, b1, b2⟩
  · omega
  · exact b a2
  · exact b a3
  · exact a4 j b1 b2
theorem comes_of (hc : IsCl cs) (hd : IsCl ds) {ns : List Int} (m : meetB cs ds k = true) (o : oppB (saysB cs ds k) = false) (up : ns.Pairwise (· < ·)) (me : ∀ j, j ∈ ns ↔ j ∈ saysB cs ds k) : Comes cs ds k ns := by
  obtain ⟨k1, kc, kd⟩ := (meet_iff hc).mp m
  have sb := says_iff hc hd kc kd k1
  refine ⟨k1, kc, kd, fun j h1 h2 => ?_, up, fun j => (me j).trans (sb j)⟩
  have nz : ∀ j ∈ saysB cs ds k, j ≠ 0 := fun j hj => by
    rcases ((sb j).mp hj).1 with h | h
    · exact (hc.says j h).1
    · exact (hd.says j h).1
  have := (opp_iff _ nz).mpr ⟨j, (sb j).mpr h1, (sb _).mpr h2⟩
  rw [o] at this
  cases this
theorem nocome_of (hc : IsCl cs) (hd : IsCl ds) (h : meetB cs ds k = false ∨ oppB (saysB cs ds k) = true) : NoCome cs ds k := by
  by_cases k1 : 1 ≤ k
  · by_cases kc : k ∈ cs
    · by_cases kd : -k ∈ ds
      · have m := (meet_iff (ds := ds) hc).mpr ⟨k1, kc, kd⟩
        rcases h with h | h
        · rw [m] at h
          cases h
        · have sb := says_iff hc hd kc kd k1
          have nz : ∀ j ∈ saysB cs ds k, j ≠ 0 := fun j hj => by
            rcases ((sb j).mp hj).1 with h | h
            · exact (hc.says j h).1
            · exact (hd.says j h).1
          obtain ⟨j, h1, h2⟩ := (opp_iff _ nz).mp h
          exact .inr (.inr (.inr ⟨j, (sb j).mp h1, (sb _).mp h2⟩))
      · exact .inr (.inr (.inl kd))
    · exact .inr (.inl kc)
  · exact .inl (by omega)
end Ct
namespace Sic
open PySem PySem.Spec PyProof.Rows L2 GxR Nw Dr Kp Se Od Oh Co Sl Sn
/-! ### the law's own look at cores, of anything -/
theorem at_int {ks : List Int} {i : Nat} {x : V} (hx : (ks.map V.int)[i]? = some x) : ∃ z, ks[i]? = some z ∧ x = V.int z := Kc.at_int hx
theorem eqv_ints : ∀ {l m : List Int}, PyData.eqvAll (l.map PyData.int) (m.map PyData.int) = true ↔ l = m
  | [], [] => ⟨fun _ => rfl, fun _ => rfl⟩
  | [], b :: m => ⟨fun h => absurd h (by simp [PyData.eqvAll]), fun h => nomatch h⟩
  | a :: l, [] => ⟨fun h => absurd h (by simp [PyData.eqvAll]), fun h => nomatch h⟩
  | a :: l, b :: m => by
    have ih := eqv_ints (l := l) (m := m)
    show (PyData.eqv (.int a) (.int b) && PyData.eqvAll (l.map PyData.int) (m.map PyData.int)) = true ↔ _
    rw [Bool.and_eq_true, ih, List.cons.injEq]
    refine and_congr ?_ Iff.rfl
    simp [PyData.eqv]
theorem whs_of : ∀ {ds : List PyData}, (∀ d ∈ ds, whD d = true) → ∃ ns : List Int, ds = ns.map PyData.int
  | [], _ => ⟨[], rfl⟩
  | d :: r, h => by
    have h1 := h d List.mem_cons_self
    obtain ⟨bs, e⟩ := whs_of (ds := r) fun x hx => h x (List.mem_cons_of_mem _ hx)
    cases d with
    | int b => exact ⟨b :: bs, by rw [e]; rfl⟩
    | _ => cases h1
theorem flw_of {ks cs : List Int} {css : List (List Int)} (hk : ∀ k ∈ ks, 1 ≤ k ∧ k ≤ 8) (am : Among ks cs) (as : ∀ c ∈ css, Among ks c) (no : ∀ bs ∈ evs ks, ¬ Ctr css cs bs) : Flw css cs := fun bs ct => no _ (mask_mem hk bs) (ctr_mask am as ct)
/-- those of the numbers below m that are among zs -/
def within (m : Nat) (zs : List Int) : List Nat := (List.range m).filter fun n => inV (.int (n : Nat)) (zs.map V.int)
theorem mem_within {m n : Nat} {zs : List Int} : n ∈ within m zs ↔ n < m ∧ ((n : Nat) : Int) ∈ zs := by
  unfold within
  rw [List.mem_filter, List.mem_range, Kc.in_ints]
theorem up_within (m : Nat) (zs : List Int) : (within m zs).Pairwise (· < ·) := List.Pairwise.filter _ List.pairwise_lt_range
theorem within_up {m : Nat} {ns : List Nat} (h : ns.Pairwise (· < ·)) (b : ∀ n ∈ ns, n < m) : within m (ns.map fun n => ((n : Nat) : Int)) = ns := by
  have key : ((within m (ns.map fun n => ((n : Nat) : Int))).map fun n => ((n : Nat) : Int)) = ns.map fun n => ((n : Nat) : Int) := Ct.up_unique (up_cast.mpr (up_within _ _)) (up_cast.mpr h) fun j => by
    rw [List.mem_map, List.mem_map]
    constructor
    · rintro ⟨n, hn, rfl⟩
      obtain ⟨_, h2⟩ := mem_within.mp hn
      obtain ⟨k, hk, e⟩ := List.mem_map.mp h2
      exact ⟨k, hk, e⟩
    · rintro ⟨n, hn, rfl⟩
      exact ⟨n, mem_within.mpr ⟨b n hn, List.mem_map.mpr ⟨n, hn, rfl⟩⟩, rfl⟩
  have inj : ∀ {l m : List Nat}, l.map (fun n => ((n : Nat) : Int)) = m.map (fun n => ((n : Nat) : Int)) → l = m := fun {l m} e => by
    refine nat_inj ?_
    have := congrArg (List.map PyData.int) e
    rw [List.map_map, List.map_map] at this
    exact this
  exact inj key
structure Zq (mg : Str → Option Value) : Prop where
  z_all : mg "all" = none
  z_zip : mg "zip" = none
  z_isinstance : mg "isinstance" = none
  z_tuple : mg "tuple" = none
  z_list : mg "list" = none
  z_bool : mg "bool" = none
  z_int : mg "int" = none
  z_len : mg "len" = none
  z_range : mg "range" = none
section
variable {P : Program} {w : World} {K : PySem.W.Frag} {mg : Str → Option Value} {base : Heap}
abbrev sSth : Stmt := topS 40
abbrev nSth : List Str := ["book", "numbers", "number"]
theorem scSth : FnScope nSth ["book", "numbers"] (defScope sSth) := ⟨rfl, rfl, rfl, by decide +kernel, rfl, by decide +kernel, by decide +kernel⟩
def spSth : Sp := fun vs H Q _ => ∃ (v u : V) (css : List (List Int)) (ns : List Nat), vs = [v, u] ∧ Bk H v css ∧ NumL H u ns ∧ (∀ n ∈ ns, n < css.length) ∧ ns.length ≤ 100 ∧ ∀ p H', Same H H' → Clm H' (.ref p) (pick css ns) → Q (.ref p) H'
theorem ok_sth {f : Addr} {fd : FuncData} {k : Nat} (F : Fun K "_law_sthose" "_law_sthose" sSth f fd) : FnOk P w K mg base CX0 (k + 1) f fd ["book", "numbers"] spSth := by
  refine F.ok scSth (fun vs H Q E h => ?_) (fun cdv A outer s H vs Q E hr h => ?_)
  · obtain ⟨v, u, css, ns, rfl, _⟩ := h
    rfl
  · obtain ⟨v, u, css, ns, rfl, ⟨ba, bvs, rfl, hB, lB, aB⟩, ⟨a, rfl, ha⟩, bd, l100, q⟩ := h
    refine ⟨_, (pss_one (ps_ret (pe_lc (own := [("number", 2)]) (g := (gName 2)) (tt := tYes) rfl scSth.nd (Co.pi_seq (pv 1)) (blkOk_by (N := nSth) (sc := defScope sSth) (by decide +kernel)) (fun _ _ _ _ _ => (pg_name (i := 2) scSth.nd rfl (.inl rfl))) (fun _ _ _ _ _ => pts_nil) (fun _ _ _ _ _ => (pe_ix (ix_tupB (K := K) rfl) (pv 0) (pv 2) (fun _ _ => rfl)))))), ?_⟩
    have fin : ∀ D H1, Same H H1 → (∃ vs, H1 D = some (.lst vs) ∧ Tls H vs (pick css ns)) → Q (.ref D) H1 := by
      rintro D H1 s1 ⟨vs, hD, lv, av⟩
      exact q D H1 s1 ⟨D, vs, rfl, .inl hD, lv, fun i x cs e1 e2 => (av i x cs e1 e2).ke (.same s1) (F := Nof)⟩
    have step : ∀ (D : Addr) (nD : H D = none) (i : Nat) (x : V) (H1 : Hp), (ns.map nv)[i]? = some x → (Same H H1 ∧ ∃ vs, H1 D = some (.lst vs) ∧ Tls H vs (pick css (ns.take i))) → ∃ (n : Nat) (bv : V), x = nv n ∧ SqT K H1 ba bvs ∧ bvs[n]? = some bv ∧ ∃ acc, H1 D = some (.lst acc) ∧ acc.length < sizeLine ∧ Same H (upd H1 D (.lst (acc ++ [bv]))) ∧ ∃ vs, (upd H1 D (.lst (acc ++ [bv]))) D = some (.lst vs) ∧ Tls H vs (pick css (ns.take (i + 1))) := by
      rintro D nD i x H1 hx ⟨s1, vs, hD, tl⟩
      obtain ⟨n, hn, rfl⟩ := nat_at hx
      have ln := bd n (List.mem_of_getElem? hn)
      have hv := List.getElem?_eq_getElem (show n < bvs.length by omega)
      generalize bvs[n]'(by omega) = bv at hv
      have hc := List.getElem?_eq_getElem ln
      refine ⟨n, bv, rfl, .of (s1 _ _ hB), hv, vs, hD, small1000 ?_, same_wr s1 nD, _, upd_same, ?_⟩
      · rw [tl.1]
        unfold pick
        rw [List.length_map, List.length_take]
        omega
      · rw [take_add hn]
        unfold pick
        rw [List.map_append]
        refine tl.snoc ?_
        show TupI H bv (css.getD n [])
        rw [List.getD_eq_getElem?_getD, hc]
        exact aB n bv _ hv hc
    rcases ha with ha | ha
    · refine .inl ⟨_, rfl, a, rfl, ⟨_, .of ha⟩, fun D nD => ?_⟩
      refine lc_list (xs := ns.map nv) (Pv := fun i H1 => Same H H1 ∧ ∃ vs, H1 D = some (.lst vs) ∧ Tls H vs (pick css (ns.take i))) ⟨same_new nD, [], upd_same, .nil⟩ (fun i H' _ z => .of (z.1 _ _ ha)) ?_ ?_
      · rintro i x H1 hx z
        obtain ⟨n, bv, rfl, hB1, hv, rest⟩ := step D nD i x H1 hx z
        exact ⟨rfl, _, rfl, _, rfl, ba, _, _, bv, rfl, rfl, hB1, at_of (j := n) rfl hv, rest⟩
      · rintro H1 ⟨s1, z⟩
        rw [List.length_map, List.take_length] at z
        exact fin D H1 s1 z
    · refine .inr ⟨_, rfl, a, rfl, ⟨_, .of ha⟩, fun D nD => ?_⟩
      refine lc_tup (xs := ns.map nv) (Pv := fun i H1 => Same H H1 ∧ ∃ vs, H1 D = some (.lst vs) ∧ Tls H vs (pick css (ns.take i))) ⟨same_new nD, [], upd_same, .nil⟩ (fun i H' _ z => .of (z.1 _ _ ha)) ?_ ?_
      · rintro i x H1 hx z
        obtain ⟨n, bv, rfl, hB1, hv, rest⟩ := step D nD i x H1 hx z
        exact ⟨rfl, _, rfl, _, rfl, ba, _, _, bv, rfl, rfl, hB1, at_of (j := n) rfl hv, rest⟩
      · rintro H1 ⟨s1, z⟩
        rw [List.length_map, List.take_length] at z
        exact fin D H1 s1 z
abbrev sSis : Stmt := topS 37
abbrev nSis : List Str := ["thing", "truth"]
theorem scSis : FnScope nSis ["thing"] (defScope sSis) := ⟨rfl, rfl, rfl, by decide +kernel, rfl, by decide +kernel, by decide +kernel⟩
def spSsA : Sp := fun vs H Q _ => ∃ (f0 : Addr → Prop) (v : V) (d : PyData), vs = [v] ∧ OdV f0 H v d ∧ (∀ ds, d = .tuple ds → ds.length ≤ 60) ∧ ∀ b H', (b = true ↔ StD d) → Same H H' → Q (.bl b) H'
theorem ok_sis {f : Addr} {fd : FuncData} {k : Nat} (F : Fun K "_law_sis_setting" "_law_sis_setting" sSis f fd) (T : Zq mg) : FnOk P w K mg base CX0 (k + 1) f fd ["thing"] spSsA := by
  refine F.ok scSis (fun vs H Q E h => ?_) (fun cdv A outer s H vs Q E hr h => ?_)
  · obtain ⟨f0, v, d, rfl, _⟩ := h
    rfl
  · obtain ⟨f0, v, d, rfl, hv, l60, q⟩ := h
    refine ⟨_, (pss_cons (ps_if (PW.pt (pw_or (pt_not (pt_val (pe_callB call_isi (by rfl) T.z_isinstance (by decide +kernel) (pa_cons (pv 0) (pa_cons (pe_bltn (v := .ty "tuple") (u := .type "tuple") (by rfl) T.z_tuple (by decide +kernel) rfl) pa_nil))))) (pw_or1 (pt_cmpR op_ne (pe_callB call_len_seq (by rfl) T.z_len (by decide +kernel) (pa_cons (pv 0) pa_nil)) pe_int (nomark _))))) (pss_one (ps_ret pe_bl)) pss_nil)
      (pss_one (ps_ret (pe_callB (cr_all rfl) (by rfl) T.z_all (by decide +kernel) (pa_cons (pe_lc (own := [("truth", 1)]) (g := (gName 1)) (tt := tYes) rfl scSis.nd (pi_tup (pv 0)) (blkOk_by (N := nSis) (sc := defScope sSis) (by decide +kernel)) (fun _ _ _ _ _ => (pg_name (i := 1) scSis.nd rfl (.inl rfl))) (fun _ _ _ _ _ => pts_nil) (fun _ _ _ _ _ => (pe_callB (call_isiB (K := K) rfl) (by rfl) T.z_isinstance (by decide +kernel) (pa_cons (pv 1) (pa_cons (pe_bltn (v := .ty "bool") (u := .type "bool") (by rfl) T.z_bool (by decide +kernel) rfl) pa_nil))))) pa_nil))))), ?_⟩
    have t := hv.ty (K := K)
    cases d with
    | int n => exact ⟨_, rfl, v, .ty "tuple", .type "int", .type "tuple", false, rfl, .ty _, t, kit_ty (by decide +kernel), _, rfl, q _ _ (no_st fun _ => nofun) (Same.refl _)⟩
    | bool b => exact ⟨_, rfl, v, .ty "tuple", .type "bool", .type "tuple", false, rfl, .ty _, t, kit_ty (by decide +kernel), _, rfl, q _ _ (no_st fun _ => nofun) (Same.refl _)⟩
    | none => exact ⟨_, rfl, v, .ty "tuple", .type "NoneType", .type "tuple", false, rfl, .ty _, t, kit_ty (by decide +kernel), _, rfl, q _ _ (no_st fun _ => nofun) (Same.refl _)⟩
    | str x => exact ⟨_, rfl, v, .ty "tuple", .type "str", .type "tuple", false, rfl, .ty _, t, kit_ty (by decide +kernel), _, rfl, q _ _ (no_st fun _ => nofun) (Same.refl _)⟩
    | list x => exact ⟨_, rfl, v, .ty "tuple", .type "list", .type "tuple", false, rfl, .ty _, t, kit_ty (by decide +kernel), _, rfl, q _ _ (no_st fun _ => nofun) (Same.refl _)⟩
    | dict x => cases hv
    | tuple ds =>
      cases id hv with
      | tup ha od =>
        rename_i a xs
        have l6 := l60 ds rfl
        have lx := od.len
        refine ⟨_, rfl, .ref a, .ty "tuple", .type "tuple", .type "tuple", true, rfl, .ty _, t, kit_ty (by decide +kernel), _, rfl, ?_⟩
        by_cases l8 : ds.length = 8
        · refine ⟨_, rfl, a, _, rfl, .inr (.of ha), rfl, false, ?_, ?_⟩
          · rw [show decide (V.int (xs.length : Int) = V.int 8) = true from decide_eq_true (by rw [lx, l8]; rfl)]
            rfl
          refine ⟨_, rfl, a, rfl, ⟨_, .of ha⟩, fun D nD => ?_⟩
          refine lc_tup (xs := xs) (Pv := fun i H' => Same H H' ∧ H' D = some (.lst (((ds.take i).map blD).map V.bl))) ⟨same_new nD, upd_same⟩ (fun i H' _ p => .of (p.1 _ _ ha)) ?_ ?_
          · rintro i x H' hx ⟨s1, hD⟩
            obtain ⟨d, hd, ox⟩ := (od.ke (Ke.same s1)).at hx
            have li := (List.getElem?_eq_some_iff.mp hd).1
            have fin : ∀ y : Bool, blD d = y → ∃ acc, H' D = some (.lst acc) ∧ acc.length < sizeLine ∧ Same H (upd H' D (.lst (acc ++ [V.bl y]))) ∧ (upd H' D (.lst (acc ++ [V.bl y]))) D = some (.lst (((ds.take (i + 1)).map blD).map V.bl)) := fun y e => by
              refine ⟨_, hD, ?_, same_wr s1 nD, ?_⟩
              · rw [List.length_map, List.length_map, List.length_take]
                exact small1000 (by omega)
              · rw [upd_same, List.take_add_one, hd, List.map_append, List.map_append, ← e]
                rfl
            have tx := ox.ty (K := K)
            cases d with
            | bool b => exact ⟨rfl, _, rfl, x, .ty "bool", .type "bool", .type "bool", true, rfl, .ty _, tx, kit_ty (by decide +kernel), fin true rfl⟩
            | int n => exact ⟨rfl, _, rfl, x, .ty "bool", .type "int", .type "bool", false, rfl, .ty _, tx, kit_ty (by decide +kernel), fin false rfl⟩
            | none => exact ⟨rfl, _, rfl, x, .ty "bool", .type "NoneType", .type "bool", false, rfl, .ty _, tx, kit_ty (by decide +kernel), fin false rfl⟩
            | str n => exact ⟨rfl, _, rfl, x, .ty "bool", .type "str", .type "bool", false, rfl, .ty _, tx, kit_ty (by decide +kernel), fin false rfl⟩
            | list n => exact ⟨rfl, _, rfl, x, .ty "bool", .type "list", .type "bool", false, rfl, .ty _, tx, kit_ty (by decide +kernel), fin false rfl⟩
            | tuple n => exact ⟨rfl, _, rfl, x, .ty "bool", .type "tuple", .type "bool", false, rfl, .ty _, tx, kit_ty (by decide +kernel), fin false rfl⟩
            | dict n => cases ox
          · rintro H' ⟨s1, hD⟩
            rw [lx, List.take_length] at hD
            refine ⟨D, _, rfl, .of hD, q _ _ ?_ s1⟩
            rw [List.all_map, List.all_eq_true]
            constructor
            · intro al
              obtain ⟨bs, rfl⟩ := bls_of al
              exact ⟨bs, rfl, by rw [List.length_map] at l8; exact l8⟩
            · rintro ⟨bs, e, _⟩ d hd
              rw [PyData.tuple.inj e] at hd
              obtain ⟨n, hn, rfl⟩ := List.mem_map.mp hd
              rfl
        · refine ⟨_, rfl, a, _, rfl, .inr (.of ha), rfl, true, ?_, ?_⟩
          · rw [show decide (V.int (xs.length : Int) = V.int 8) = false from decide_eq_false fun z => l8 (by have := V.int.inj z; omega)]
            rfl
          exact q _ _ ⟨fun z => (nomatch z), fun ⟨bs, e, l⟩ => absurd (by rw [PyData.tuple.inj e, List.length_map]; exact l) l8⟩ (Same.refl _)
abbrev sSia : Stmt := topS 41
theorem scSia : FnScope ["claims", "claim", "setting"] ["claims", "claim", "setting"] (defScope sSia) := ⟨rfl, rfl, rfl, by decide +kernel, rfl, by decide +kernel, by decide +kernel⟩
def spSia : Sp := fun vs H Q _ => ∃ (f0 : Addr → Prop) (v x t : V) (css : List (List Int)) (cs : List Int) (d : PyData), vs = [v, x, t] ∧ Clm H v css ∧ TupI H x cs ∧ Says cs ∧ cs.length ≤ 20 ∧ (∀ c ∈ css, Says c ∧ c.length ≤ 20) ∧ css.length ≤ 100 ∧ OdV f0 H t d ∧ (∀ ds, d = .tuple ds → ds.length ≤ 60) ∧ ∀ b H', (b = true ↔ NdD css cs d) → Same H H' → Q (.bl b) H'
theorem ok_sia {f fI fO fA : Addr} {fd fdI fdO fdA : FuncData} {k : Nat} (F : Fun K "_law_sis_against" "_law_sis_against" sSia f fd)
    (FI : Fun K "_law_sis_setting" "_law_sis_setting" sSis fI fdI) (bI : Binds K fdI ["thing"] []) (gI : mg "_law_sis_setting" = some (.ref fI)) (GI : FnOk P w K mg base CX0 1 fI fdI ["thing"] spSsA)
    (FO : Fun K "_law_sholds" "_law_sholds" sSho fO fdO) (bO : Binds K fdO ["claim", "setting"] []) (gO : mg "_law_sholds" = some (.ref fO)) (GO : FnOk P w K mg base CX0 1 fO fdO ["claim", "setting"] spSho)
    (FA : Fun K "_law_sall_hold" "_law_sall_hold" sSah fA fdA) (bA : Binds K fdA ["claims", "setting"] []) (gA : mg "_law_sall_hold" = some (.ref fA)) (GA : FnOk P w K mg base CX0 2 fA fdA ["claims", "setting"] spSah) :
    FnOk P w K mg base CX0 (k + 3) f fd ["claims", "claim", "setting"] spSia := by
  refine F.ok scSia (fun vs H Q E h => ?_) (fun cdv A outer s H vs Q E hr h => ?_)
  · obtain ⟨f0, v, x, t, css, cs, d, rfl, _⟩ := h
    rfl
  · obtain ⟨f0, v, x, t, css, cs, d, rfl, hb, tx, sc, lc, sb, l100, ot, l60, q⟩ := h
    have hr1 : Room 1 _ := hr.mono (by omega)
    have hr2 : Room 2 _ := hr.mono (by omega)
    refine ⟨_, (pss_cons (ps_if (PW.pt (pw_or (pt_not (pt_val (pe_call GI hr1 (by rfl) gI FI.kp bI .nil pass0 (pa_cons (pv 2) pa_nil)))) (pw_or1 (pt_val (pe_call GO hr1 (by rfl) gO FO.kp bO .nil pass0 (pa_cons (pv 1) (pa_cons (pv 2) pa_nil))))))) (pss_one (ps_ret pe_bl)) pss_nil)
      (pss_one (ps_ret (pe_call GA hr2 (by rfl) gA FA.kp bA .nil pass0 (pa_cons (pv 0) (pa_cons (pv 2) pa_nil)))))), ?_⟩
    refine ⟨_, rfl, f0, t, d, rfl, ot, l60, fun b H1 hb1 s1 => ⟨b, rfl, ?_⟩⟩
    cases b with
    | false => exact q _ _ ⟨fun z => (nomatch z), fun ⟨bs, e, c⟩ => hb1.mpr ⟨bs, e, c.1⟩⟩ s1
    | true =>
      obtain ⟨bs, rfl, l8⟩ := hb1.mp rfl
      have tb : TupB H1 t bs := by
        cases ot with
        | tup ha od =>
          rw [od_bls od] at ha
          exact ⟨_, rfl, s1 _ _ ha⟩
      have k1 : Ke Nof H H1 := .same s1
      refine ⟨_, rfl, _, rfl, x, t, cs, bs, rfl, tx.ke k1, tb, l8, sc, lc, fun H2 s2 => ⟨_, rfl, ?_⟩⟩
      have k2 : Ke Nof H H2 := k1.trans (.same s2)
      cases eh : cs.any (sh bs) with
      | true =>
        refine q _ _ ⟨fun z => (nomatch z), fun ⟨cs', e, c⟩ => ?_⟩ (s1.trans s2)
        have c2 := c.2.1
        rw [← bl_inj (PyData.tuple.inj e), eh] at c2
        cases c2
      | false =>
        refine ⟨_, rfl, _, rfl, v, t, css, bs, rfl, hb.ke k2, tb.ke (Ke.same (F := Nof) s2), l8, sb, l100, fun H3 s3 => ?_⟩
        refine q _ _ ⟨fun z => ⟨bs, rfl, l8, eh, z⟩, fun ⟨cs', e, c⟩ => ?_⟩ ((s1.trans s2).trans s3)
        have c2 := c.2.2
        rw [← bl_inj (PyData.tuple.inj e)] at c2
        exact c2
end
end Sic
namespace L2
open PySem PySem.Spec PyProof.Rows
theorem pg_tupB {X : Cx} {K : PySem.W.Frag} {es : List Expr} {k : Nat} {t : TGs} {n : Nat} {pos : Pos} (hK : X.K = K) (hc : X.calm = true) (h : PGs X es t) (hn : (assignEach es X.env).length = n := by rfl) (hst : (assignEach es X.env).findIdx? (·.1) = none := by rfl) : PG X (.Tuple es k pos) (gTup K n t) := by
  subst hK
  exact pg_tup hc h hn hst
end L2
namespace Sl
end Sl
namespace En
end En
namespace Wd
open PySem PySem.Spec PyProof.Rows L2 GxR Nw Dr Kp Se Sl En
structure Zw (mg : Str → Option Value) : Prop where
  z_len : mg "len" = none
  z_all : mg "all" = none
  z_tuple : mg "tuple" = none
  z_range : mg "range" = none
  z_enumerate : mg "enumerate" = none
abbrev sSst : Stmt := topS 33
abbrev nSst : List Str := ["feed", "k"]
theorem scSst : FnScope nSst ["feed"] (defScope sSst) := ⟨rfl, rfl, rfl, by decide +kernel, rfl, by decide +kernel, by decide +kernel⟩
theorem ints_flat (cs : List Int) : (cs.map V.int).all flatV = true := by
  rw [List.all_map, List.all_eq_true]
  exact fun _ _ => rfl
theorem at_int {ks : List Int} {i : Nat} {x : V} (hx : (ks.map V.int)[i]? = some x) : ∃ z, ks[i]? = some z ∧ x = V.int z := by
  rw [List.getElem?_map] at hx
  cases e : ks[i]? with
  | none =>
    rw [e] at hx
    cases hx
  | some z =>
    rw [e] at hx
    exact ⟨z, rfl, (Option.some.inj hx).symm⟩
/-- each of cs is one of ds -/
def wideB (cs ds : List Int) : Bool := cs.all fun s => inV (.int s) (ds.map V.int)
theorem take_all {α : Type} {f : α → Bool} {l : List α} {i : Nat} {x : α} (h : l[i]? = some x) (p : (l.take i).all f = true) : (f x = false → l.all f = false) ∧ (f x = true → (l.take (i + 1)).all f = true) := by
  refine ⟨fun z => List.all_eq_false.mpr ⟨x, List.mem_of_getElem? h, by rw [z]; decide⟩, fun z => ?_⟩
  rw [List.take_add_one, h, List.all_append, p]
  show (f x && true) = true
  rw [z]
  rfl
section
variable {P : Program} {w : World} {K : PySem.W.Frag} {mg : Str → Option Value} {base : Heap}
def spSst : Sp := fun vs H Q _ => ∃ (f c : Addr) (B : Nat), vs = [.ref f] ∧ Feed H f c B ∧ B ≤ 2 ^ 58 ∧ ∀ (bs : List Bool) (p : Addr) (H' : Hp), Feed H' f c (B + 8) → Ke (· = f) H H' → H' p = some (.tup (bs.map V.bl)) → bs.length = 8 → Q (.ref p) H'
theorem ok_sst {f fD : Addr} {fd fdD : FuncData} {k : Nat} (F : Fun K "_law_ssetting" "_law_ssetting" sSst f fd) (T : Zw mg) (FD : Fun K "_law_sdraw" "_law_sdraw" sDrw fD fdD) (bD : Binds K fdD ["feed", "many"] []) (gD : mg "_law_sdraw" = some (.ref fD)) (GD : FnOk P w K mg base CX0 2 fD fdD ["feed", "many"] spDrw) :
    FnOk P w K mg base CX0 (k + 3) f fd ["feed"] spSst := by
  refine F.ok scSst (fun vs H Q E h => ?_) (fun cdv A outer s H vs Q E hr h => ?_)
  · obtain ⟨f, c, B, rfl, _⟩ := h
    rfl
  · obtain ⟨f, c, B, rfl, hF, hB, q⟩ := h
    have hr2 : Room 2 _ := hr.mono (by omega)
    refine ⟨_, (pss_one (ps_ret (pe_callTy call_tuple_ofN (by rfl) T.z_tuple (by decide +kernel) (pa_cons (pe_lc (own := [("k", 1)]) (g := (gName 1)) (tt := tYes) rfl scSst.nd (pi_range1 (by rfl) T.z_range (pa_cons pe_int pa_nil)) (blkOk_by (N := nSst) (sc := defScope sSst) (by decide +kernel)) (fun _ _ _ _ _ => (pg_name (i := 1) scSst.nd rfl (.inl rfl))) (fun _ _ _ _ _ => pts_nil) (fun _ _ _ _ _ => (pe_cmpR op_eq (pe_call GD hr2 (by rfl) gD FD.kp bD .nil pass0 (pa_cons (pv 0) (pa_cons pe_int pa_nil))) pe_int (nomark _)))) pa_nil)))), ?_⟩
    refine ⟨8, rfl, by decide, by decide, fun D nD => ?_⟩
    have nDf : D ≠ f := hF.nf nD
    have nDc : D ≠ c := hF.nc nD
    refine lc_range (Pv := fun j H' => ∃ bs : List Bool, Feed H' f c (B + j) ∧ Ke (· = f) H H' ∧ H' D = some (.lst (bs.map V.bl)) ∧ bs.length = j) ?_ ?_ ?_
    · exact ⟨[], hF.same (same_new nD), .same (same_new nD), upd_same, rfl⟩
    · rintro j H1 hj ⟨bs, F1, k1, hD, lb⟩
      have hj : j < 8 := hj
      refine ⟨rfl, _, rfl, f, c, 2, _, rfl, by decide, by decide, F1, by omega, fun d H2 d0 d1 F2 b2 => ?_⟩
      have hD2 : H2 D = some (.lst (bs.map V.bl)) := (b2 D nDf).trans hD
      refine ⟨rfl, _, hD2, by rw [List.length_map]; exact small1000 (by omega), bs ++ [decide (V.int d = V.int 0)], F2.upd nDf nDc, (k1.trans (.but F1 b2)).upd nD, ?_, by rw [List.length_append, lb]; rfl⟩
      rw [upd_same, List.map_append]
      rfl
    · rintro H1 ⟨bs, F1, k1, hD, lb⟩
      refine ⟨D, _, rfl, .of hD, fun p H2 np s2 hp _ => ?_⟩
      exact q bs p H2 (F1.same s2) (k1.trans (.same s2)) hp lb
/-- the numbers below i of the claims that don't hold -/
def fails (bs : List Bool) (css : List (List Int)) (i : Nat) : List Int := ((List.range i).filter fun j => !((css.getD j []).any (sh bs))).map fun j : Nat => (j : Int)
theorem fails_succ {bs : List Bool} {css : List (List Int)} {i : Nat} {cs : List Int} (h : css[i]? = some cs) : fails bs css (i + 1) = fails bs css i ++ (if (!cs.any (sh bs)) = true then [(i : Int)] else []) := by
  have e : css.getD i [] = cs := by rw [List.getD_eq_getElem?_getD, h]; rfl
  unfold fails
  rw [List.range_succ, List.filter_append, List.map_append]
  congr 1
  cases q : (!cs.any (sh bs)) with
  | true => rw [List.filter_cons_of_pos (by rw [e]; exact q)]; rfl
  | false => rw [List.filter_cons_of_neg (by rw [e, q]; decide)]; rfl
theorem fails_len (bs : List Bool) (css : List (List Int)) (i : Nat) : (fails bs css i).length ≤ i := by
  unfold fails
  rw [List.length_map]
  exact Nat.le_trans (List.length_filter_le _ _) (by rw [List.length_range]; exact Nat.le_refl _)
theorem fails_lt {bs : List Bool} {css : List (List Int)} {i : Nat} {n : Int} (h : n ∈ fails bs css i) : 0 ≤ n ∧ n < i := by
  obtain ⟨j, hj, rfl⟩ := List.mem_map.mp h
  have := List.mem_range.mp (List.mem_filter.mp hj).1
  omega
end
end Wd
namespace To
open PySem PySem.Spec PyProof.Rows L2
/-! ### a tuple of whole numbers as a key (to's own, for texts without told_once) -/
def kT (c : List Int) : List Key := c.map Sum.inl
theorem kT_v (c : List Int) : (kT c).map kV = c.map V.int := by
  unfold kT
  rw [List.map_map]
  rfl
theorem kT_inj : ∀ {c d : List Int}, kT c = kT d → c = d
  | [], [], _ => rfl
  | [], _ :: _, h => (nomatch h)
  | _ :: _, [], h => (nomatch h)
  | x :: c, y :: d, h => by
    have h : (Sum.inl x : Key) :: kT c = Sum.inl y :: kT d := h
    injection h with h1 h2
    rw [Sum.inl.inj h1, kT_inj h2]
end To
namespace Un
open PySem PySem.Spec PyProof.Rows L2
theorem lt1 {n : Nat} (h : n + 64 < cLine) : n + 1 < cLine := by omega
theorem in_ints (k : Int) : ∀ cs : List Int, inV (.int k) (cs.map V.int) = true ↔ k ∈ cs
  | [] => by
    constructor
    · intro h
      cases h
    · intro h
      cases h
  | c :: r => by
    have ih := in_ints k r
    show (eqV (.int c) (.int k) || inV (.int k) (r.map V.int)) = true ↔ _
    rw [Bool.or_eq_true, ih, List.mem_cons]
    have e : eqV (.int c) (.int k) = true ↔ k = c := by
      show (c == k) = true ↔ k = c
      rw [beq_iff_eq]
      exact eq_comm
    rw [e]
end Un
namespace Dct
open PySem PySem.Spec PyProof.Rows L2
/-! ### {k: v for .. in ..}: keys of any kind that a dict takes, tuples too -/
/-- a key put into a new dict -/
theorem put_runs {X : Cx} {pins : List (Addr × Obj)} {σ : L2.St} {H G : Hp} {s : Shared} {d : Addr} {y v : V} {ku vu : Value} {E : Value → Shared → Prop} {Q : Unit → Shared → Prop} (room : X.A.units + 1 < cLine) (I : Inv X pins σ H s) (p : DPut H d y v G) (ry : RelV y ku) (rv : RelV v vu) (done : ∀ t, Inv X pins σ G t → Q () t) :
    wpAny (model X.prog X.w) X.A (dictSet d ku vu) Q E s := by
  rcases p with ⟨ks, q, here, rfl, small, rfl⟩ | ⟨ks, q, b, here, rfl, tup, small, rfl⟩
  · exact d_dictSet I here small ry rv done
  · obtain rfl : ku = Value.ref b := ry
    obtain ⟨z, nm, xs, rel, dd⟩ := dt_of I.hok here
    have lx : xs.length ≤ sizeLine := Paired.length rel ▸ z
    have ln := length_putK ks q v
    refine wpAny_dictSet_heap (hsz := lx) (show X.A.units < cLine by omega) (key_of I.hok tup) dd fun h2 d2 but => done _ ?_
    obtain ⟨o, es, ep, ho, a1, a2, a3, _, a5⟩ := d2
    have kept : KT (upd H d (.dT (putK ks q v))) (putK ks q v) (storedH xs q b vu) := (rel.put q tup rv).keeps fun c ys ec => (upd_ne (ne_of ec here fun z => nomatch z)).trans ec
    exact d_write I (by rw [here]; exact True.intro) but ⟨o, ho⟩ ⟨by omega, nm, _, kept, o, es, ep, ho, a1, a2, a3, a5⟩
/-- the dict is ini ahead of the first turn -/
def tDcG (ini : HO) (wi : TI) (g : TG) (tt : TT) (tk tv : TE) (vs : List Nat) : TE := fun σ H Q => wi σ H fun J H1 => ∀ D, H1 D = none → ∃ W : Nat → Nat → Hp → Prop, (∃ m, W 0 m (upd H1 D ini)) ∧
  ∀ i m G, W i m G → (J.stop i G ∧ Q (.ref D) G) ∨ (J.go i G ∧ ∃ Nx : Hp → Prop, (∀ G', Nx G' → ∃ m', m' < m ∧ W (i + 1) m' G') ∧
    ∀ x G', J.yld i G x G' → g x (wipe σ vs) G' fun σ2 G2 => wipe σ2 vs = wipe σ vs ∧ tt σ2 G2 fun b G3 => if b = true then tk σ2 G3 fun y G4 => tv σ2 G4 fun z G5 => ∃ G6, DPut G5 D y z G6 ∧ Nx G6 else Nx G3)
section
variable {X : Cx} {kx vx tg iter : Expr} {ifs : List Expr} {scope : Scope} {own : List (Str × Nat)} {pos : Pos} {wi : TI} {g : TG} {tt : TT} {tk tv : TE} {ini : HO}
/-- a new dict, as ini tells -/
def Emp (X : Cx) (ini : HO) : Prop := ∀ (H : Hp) (h : Heap), sysModules < h.objs.size → ObjOk X.prog X.w H (h.push { cls := .type "dict", data := .dict #[] }) h.objs.size ini
theorem dcG_core {pins : List (Addr × Obj)} {s : Shared} {σ : L2.St} {H : Hp} {Q : VK} {pos' : Pos} {use : Option (Value → Sem Unit)} {Qf : Value → Shared → Prop} (room : X.A.units + 1 < cLine) (emp : Emp X ini) (calm : X.calm = true) (nd : X.N.Nodup) (I : L2.Inv X pins σ H s) (hi : PI X tg iter wi) (ok : BlkOk X.N X.env.scope scope own)
    (hg : ∀ (s : Shared) (H : Hp) (C : Addr) (cl : List (Str × Addr)) (fp : List Addr), PG (X.blk s H scope (compEnvC scope cl C X.env) fp) tg g)
    (ht : ∀ (s : Shared) (H : Hp) (C : Addr) (cl : List (Str × Addr)) (fp : List Addr), PTs (X.blk s H scope (compEnvC scope cl C X.env) fp) ifs tt)
    (hk : ∀ (s : Shared) (H : Hp) (C : Addr) (cl : List (Str × Addr)) (fp : List Addr), PE (X.blk s H scope (compEnvC scope cl C X.env) fp) kx tk)
    (he : ∀ (s : Shared) (H : Hp) (C : Addr) (cl : List (Str × Addr)) (fp : List Addr), PE (X.blk s H scope (compEnvC scope cl C X.env) fp) vx tv)
    (hs : ∀ x, foldedSetIterable iter X.env x = pure x) (ask : tDcG ini wi g tt tk tv (own.map (·.2)) σ H Q)
    (fin : ∀ (D C : Addr) (s' : Shared) (m : Str → Option Value) (H' : Hp), L2.Inv X pins σ H' s' → Q (.ref D) H' → s'.heap.Ns C m → FpOk X pins H' C → compPost (model X.prog X.w) X.A X.xe use Qf (.ref D) C (.ok .next) s') :
    wpAny (model X.prog X.w) X.A (comprehension (.DictComp kx vx [⟨tg, iter, ifs, 0⟩] scope pos) scope X.env pos' newDict false (eval iter X.env) use) Qf X.xe s := by
  have vis : ∀ y ∈ scope.names, y.2 = .free → ∃ c, X.env.cells.lookup y.1 = some c := fun y my fy => (ok.free y my fy).elim (fun z => I.ok.has _ (.inl z)) fun z => I.ok.has _ (.inr z)
  refine wpAny_comprehension_free rfl hs (closure_ok vis) ok.kind (fun y my ly => by rw [ok.uniq y my, ly]) (thn (hi.run pins s σ H _ I ask) fun first s1 got => thn got fun iv s2 r2 => ?_)
  obtain ⟨itA, fps, tn, J, H2, rfl, I2, T, at2, ok2, rest⟩ := r2
  refine wpAny_newObj_type (newEnv_comp ?_)
  generalize hD : s2.heap.objs.size = D
  obtain ⟨W, ⟨m0, w0⟩, turn⟩ := rest D (I2.hok.fresh (Nat.le_of_eq hD))
  generalize hs3 : ({ s2 with heap := s2.heap.push { cls := .type "dict", data := .dict #[] } } : Shared) = s3
  have grown : s3.heap = s2.heap.push { cls := .type "dict", data := .dict #[] } := by rw [← hs3]
  have old : ∀ b ∈ fps, b < s2.heap.objs.size := fun b mb => (T.obj _ _ at2 b mb).elim fun o z => Heap.lt_size z.1
  have I3 : Inv X pins σ (upd H2 D ini) s3 := by
    rw [← hs3]
    exact I2.laid (t' := s2.toks) (fun b o z => Heap.get?_push_of_some _ z) (Nat.le_of_eq hD) (hD ▸ emp _ s2.heap I2.big)
  have ok3 : ∀ b ∈ fps, FpOk X pins (upd H2 D ini) b ∧ b < s3.heap.objs.size := fun b mb => by
    have lt := old b mb
    refine ⟨⟨(upd_ne (hD ▸ Nat.ne_of_lt lt)).trans (ok2 b mb).1, (ok2 b mb).2⟩, ?_⟩
    rw [grown, Heap.size_push]
    exact Nat.lt_succ_of_lt lt
  have at3 : tn 0 s3.heap := T.keep _ _ _ at2 fun b _ o z => grown ▸ Heap.get?_push_of_some _ z
  have I4 := block_start I3 ok nd ok3
  have pg := hg s3 (upd H2 D ini) s3.heap.objs.size (cellsFrom (s3.heap.objs.size + 1) scope.names (cloFrom X.env.cells scope.names [])) fps
  have pt := ht s3 (upd H2 D ini) s3.heap.objs.size (cellsFrom (s3.heap.objs.size + 1) scope.names (cloFrom X.env.cells scope.names [])) fps
  have pk := hk s3 (upd H2 D ini) s3.heap.objs.size (cellsFrom (s3.heap.objs.size + 1) scope.names (cloFrom X.env.cells scope.names [])) fps
  have pv := he s3 (upd H2 D ini) s3.heap.objs.size (cellsFrom (s3.heap.objs.size + 1) scope.names (cloFrom X.env.cells scope.names [])) fps
  have gone : ∀ b ∈ fps, (upd H2 D ini) b = none := fun b mb => (ok3 b mb).1.1
  show codeAny _ _ (.compStart (.DictComp kx vx [⟨tg, iter, ifs, 0⟩] scope pos) 0 (.ref itA) (.ref D) (compEnvC scope (cellsFrom (s3.heap.objs.size + 1) scope.names (cloFrom X.env.cells scope.names [])) s3.heap.objs.size X.env)) (compPost (model X.prog X.w) X.A X.xe _ _ (.ref D) s3.heap.objs.size)
    { s3 with heap := pushCells (s3.heap.push { cls := .type "dict", data := .dict #[] }) scope.names }
  generalize hce : compEnvC scope (cellsFrom (s3.heap.objs.size + 1) scope.names (cloFrom X.env.cells scope.names [])) s3.heap.objs.size X.env = ce at I4 pg pt pk pv ⊢
  have loc : ce.locals = s3.heap.objs.size := hce ▸ rfl
  generalize hG : upd H2 D ini = G at I3 I4 pg pt pk pv w0 gone ok3
  generalize hs4 : ({ s3 with heap := pushCells (s3.heap.push { cls := .type "dict", data := .dict #[] }) scope.names } : Shared) = s4 at I4 ⊢
  have at4 : tn 0 s4.heap := T.keep _ _ _ at3 fun b _ o z => hs4 ▸ pushCells_keeps _ _ _ _ (Heap.get?_push_of_some _ z)
  have pinned : ∀ {σ' : L2.St} {F : Hp} {t : Shared}, Inv (X.blk s3 G scope ce fps) [] σ' F t → (∀ b ∈ fps, F b = none) → ∀ b ∈ fps, FpOk (X.blk s3 G scope ce fps) [] F b := fun {σ' F t} J' no b mb =>
    ⟨no b mb, (J'.ok.exf b mb).1, J'.ok.exfs b mb, .inl mb, fun x c z => (J'.ok.exf b mb).2 x c z, fun p mp => absurd (show p ∈ ([] : List (Addr × Obj)) ++ [] from mp) (by simp)⟩
  suffices all : codeAny (model X.prog X.w) X.A (.compLoop (.DictComp kx vx [⟨tg, iter, ifs, 0⟩] scope pos) 0 (.ref itA) (.ref D) ce) _ s4 from codeAny_compStart_dict all (T.self X.A 0 _ _ _ at4 all)
  refine compLoop_anyD (fun n t => ∃ i F, Inv (X.blk s3 G scope ce fps) [] (wipe σ (own.map (·.2))) F t ∧ tn i t.heap ∧ (∀ b ∈ fps, F b = none) ∧ W i n F) ?_ m0 ⟨0, G, I4, at4, gone, w0⟩
  rintro n s5 ⟨i, F5, I5, at5, no5, w5⟩
  rcases turn i n F5 w5 with ⟨ends, told⟩ | ⟨goes, Nx, next, step⟩
  · -- the end: back to the def
    refine thnF (T.done (X.blk s3 G scope ce fps) rfl rfl rfl calm i [] s5 _ F5 (fun _ _ => False) I5 (pinned I5 no5) at5 ends) fun r s6 ⟨er, I6⟩ => ?_
    subst er
    have back : Inv X pins σ F5 s6 := I3.call' (ch := fps) I6.os I6.base I6.hok I6.bare fun b mb => ⟨(ok3 b mb).1.2.2.2.1, (ok3 b mb).1.2.1, (ok3 b mb).1.2.2.2.2.1, (ok3 b mb).1.2.2.2.2.2⟩
    have noC : F5 s3.heap.objs.size = none := loc ▸ (show F5 ce.locals = none from I6.free)
    obtain ⟨mm, ns, _⟩ := I6.loc
    have ns : s6.heap.Ns s3.heap.objs.size mm := loc ▸ (show s6.heap.Ns ce.locals mm from ns)
    exact fin D _ s6 mm F5 back told ns (I3.fpOk (Nat.le_refl _) noC)
  · -- one turn
    refine thnF (T.item (X.blk s3 G scope ce fps) rfl rfl rfl calm i [] s5 _ F5 (fun _ _ => False) I5 (pinned I5 no5) at5 goes) fun r s6 ⟨u, er, h6⟩ => ?_
    subst er
    refine thnF h6 fun _ s7 ⟨x, F7, I7, rx, yx, at7, no7⟩ => ?_
    have held := I7.pinned (pinned I7 no7) (T.obj _ _ at7)
    refine thnF (pg.run _ s7 _ F7 x u _ held rx (step x F7 yx)) fun _ s8 ⟨σ8, F8, I8, wp8, a8⟩ => ?_
    refine thnF (pt.run _ s8 σ8 F8 _ I8 a8) fun b s9 ⟨F9, I9, a9⟩ => ?_
    have over : ∀ {t : Shared} {F' : Hp}, Inv (X.blk s3 G scope ce fps) ([] ++ pinsAt fps s7.heap) σ8 F' t → Nx F' → ∃ m, m < n ∧ ∃ i F', Inv (X.blk s3 G scope ce fps) [] (wipe σ (own.map (·.2))) F' t ∧ tn i t.heap ∧ (∀ b ∈ fps, F' b = none) ∧ W i m F' := fun {t F'} Jt nx => by
      obtain ⟨m', less, w'⟩ := next F' nx
      have stay : ∀ b ∈ fps, ∀ o, s7.heap.get? b = some o → t.heap.get? b = some o ∧ F' b = none := fun b mb o z => by
        have y := Jt.pin (b, o) (List.mem_append_right _ (List.mem_append_right _ (mem_pinsAt mb z)))
        exact ⟨y.1, y.2.1⟩
      have len : (wipe σ (own.map (·.2))).length = σ8.length := by rw [← wp8, wipe_length]
      exact ⟨m', less, i + 1, F', (Jt.unpinned (pins := [])).weak len (fun j v z => (wipe_some (wp8.symm ▸ z)).1), T.keep _ _ _ at7 fun b mb o z => (stay b mb o z).1, fun b mb => (T.obj _ _ at7 b mb).elim fun o z => (stay b mb o z.1).2, w'⟩
    cases b with
    | false => exact over I9 a9
    | true =>
      refine thnF (pk.run _ s9 σ8 F9 _ I9 a9) fun kv s10 ⟨yk, F10, I10, r10, a10⟩ => ?_
      refine thnF (pv.run _ s10 σ8 F10 _ I10 a10) fun vv s11 ⟨yv, F11, I11, r11, F12, pd, nx⟩ => ?_
      exact put_runs (X := X.blk s3 G scope ce fps) room I11 pd r10 r11 fun t It => over It nx
theorem pe_dcG (room : X.A.units + 1 < cLine) (emp : Emp X ini) (calm : X.calm = true) (nd : X.N.Nodup) (hi : PI X tg iter wi) (ok : BlkOk X.N X.env.scope scope own)
    (hg : ∀ (s : Shared) (H : Hp) (C : Addr) (cl : List (Str × Addr)) (fp : List Addr), PG (X.blk s H scope (compEnvC scope cl C X.env) fp) tg g)
    (ht : ∀ (s : Shared) (H : Hp) (C : Addr) (cl : List (Str × Addr)) (fp : List Addr), PTs (X.blk s H scope (compEnvC scope cl C X.env) fp) ifs tt)
    (hk : ∀ (s : Shared) (H : Hp) (C : Addr) (cl : List (Str × Addr)) (fp : List Addr), PE (X.blk s H scope (compEnvC scope cl C X.env) fp) kx tk)
    (he : ∀ (s : Shared) (H : Hp) (C : Addr) (cl : List (Str × Addr)) (fp : List Addr), PE (X.blk s H scope (compEnvC scope cl C X.env) fp) vx tv)
    (hs : ∀ x, foldedSetIterable iter X.env x = pure x := by intro _; rfl) :
    PE X (.DictComp kx vx [⟨tg, iter, ifs, 0⟩] scope pos) (tDcG ini wi g tt tk tv (own.map (·.2))) := by
  refine ⟨fun pins s σ H Q I ask => ?_⟩
  rw [arm_eval_DictComp]
  refine dcG_core room emp calm nd I hi ok hg ht hk he hs ask fun D C s' m H' I' q ns f => ?_
  obtain ⟨q0, q1, q2, q3, q4, q5⟩ := f
  exact ⟨m, ns, fun h' but => ⟨.ref D, H', I'.turned (t' := s'.toks) (fun b o nb z => (but.2 b nb).trans z) q0 q1 q3 q4 q5, rfl, q⟩⟩
/-- a local is set to such a dict -/
theorem ps_setDcG {i : Nat} {y : Str} {py spos : Pos} (room : X.A.units + 1 < cLine) (emp : Emp X ini) (calm : X.calm = true) (nd : X.N.Nodup) (hy : X.N[i]? = some y) (hyl : X.env.scope.names.lookup y = some .local)
    (hsw : swapsWith (.DictComp kx vx [⟨tg, iter, ifs, 0⟩] scope pos) (some (.Name y py)) spos.line X.env = pure true) (hi : PI X tg iter wi) (ok : BlkOk X.N X.env.scope scope own)
    (hg : ∀ (s : Shared) (H : Hp) (C : Addr) (cl : List (Str × Addr)) (fp : List Addr), PG (X.blk s H scope (compEnvC scope cl C X.env) fp) tg g)
    (ht : ∀ (s : Shared) (H : Hp) (C : Addr) (cl : List (Str × Addr)) (fp : List Addr), PTs (X.blk s H scope (compEnvC scope cl C X.env) fp) ifs tt)
    (hk : ∀ (s : Shared) (H : Hp) (C : Addr) (cl : List (Str × Addr)) (fp : List Addr), PE (X.blk s H scope (compEnvC scope cl C X.env) fp) kx tk)
    (he : ∀ (s : Shared) (H : Hp) (C : Addr) (cl : List (Str × Addr)) (fp : List Addr), PE (X.blk s H scope (compEnvC scope cl C X.env) fp) vx tv)
    (hs : ∀ x, foldedSetIterable iter X.env x = pure x := by intro _; rfl) :
    PS X (.Assign [.Name y py] (.DictComp kx vx [⟨tg, iter, ifs, 0⟩] scope pos) spos) (tAsg (tDcG ini wi g tt tk tv (own.map (·.2))) (gName i)) := by
  refine ⟨fun pins s σ H D I h => ?_⟩
  rw [exec_Assign_Name_used y py _ spos hsw]
  refine wpAny_bind (wpAny_standAt (wpAny_bind (wpAny_bind (thn (dcG_core room emp calm nd I hi ok hg ht hk he hs h fun L C s' m H' I' q hn f => ?_) fun x s' hq => wpAny_pure (wpAny_pure hq)))))
  refine wpAny_assign_Name (store_ok2 I' nd hy (.inl hyl) (show L2.RelV (V.ref L) (Value.ref L) from rfl) (fun s2 I2 ⟨a, sb, ha⟩ => ?_) (.inr hyl))
  obtain ⟨f0, f1, f2, f3, f4, f5⟩ := f
  have haC : C ≠ a := ha.elim (fun z => by rw [z]; exact f1) fun z e => f4 y a z e.symm
  exact ⟨m, Heap.Ns.sameBut hn sb haC, fun h3 sb3 => ⟨σ.set i (some (.ref L)), H', Inv.turned I2 (fun b o hb e => (sb3.2 b hb).trans e) f0 f1 f3 f4 f5, q⟩⟩
theorem sw_trueD {kx vx : Expr} {gs : List Comprehension} {scope : Scope} {pos py : Pos} {y : Str} {l : Nat} {env : Env} (hk : env.scope.kind = .function) (hy : env.scope.names.lookup y = some .local) (hl : (py.line == pos.line) = true)
    (ha : (scope.names.any fun x => match x with | (n, k) => n == y && (k == NameKind.local || k == NameKind.cell)) = false) : swapsWith (.DictComp kx vx gs scope pos) (some (.Name y py)) l env = pure true :=
  sw_true (elt := kx) (gs := gs) (l := l) hk hy hl ha
theorem emp_t : Emp X (.dT []) := fun _ h big => dt_empty h big
end
end Dct
namespace Stu
open PySem PySem.Spec PyProof.Rows L2
/-! ### sorted(a list of tuples of whole numbers), any number of them (k42, k43) -/
section
variable {prog : Program} {w : World} {A : Around} {E : Value → Shared → Prop} {s : Shared}
/-- by the code of what stands in a tuple -/
def ltT (h : Heap) (B : Int) (v u : Value) : Bool := decide (TS.code B (TS.intsOf h v) < TS.code B (TS.intsOf h u))
theorem swoT (h : Heap) (B : Int) : SrtO.Swo (ltT h B) := ⟨fun x y e => by
  have a := of_decide_eq_true e
  exact decide_eq_false (by omega), fun x y z h1 h2 => by
  have a := of_decide_eq_false h1
  have b := of_decide_eq_false h2
  exact decide_eq_false (by omega)⟩
theorem tups_sortable {d : Nat} {B : Int} {a : Addr} {vs : List Value} {h0 : Heap} (hd : 1 ≤ d) (h2 : 2 ≤ vs.length) (ok : TS.TupsOk h0 d B vs) (kp : ∀ b o, h0.get? b = some o → b ≠ a ∧ s.heap.get? b = some o) : SrtO.SortableO prog w A s a vs (ltT h0 B) := by
  intro h' keep
  have up : ∀ {v : Value} {ns : List Int}, TS.TupInts h0 v ns → TS.TupInts h' v ns := fun {v ns} ⟨x, xs, e, ⟨o, g1, g2⟩, ia⟩ => by
    obtain ⟨n, g⟩ := kp x o g1
    exact ⟨x, xs, e, ⟨o, keep x o n g, g2⟩, ia⟩
  have ok' : TS.TupsOk h' d B vs := fun v hv => by
    obtain ⟨ns, t, l, b⟩ := ok v hv
    exact ⟨ns, up t, l, b⟩
  obtain ⟨fs, f1, f2, f3⟩ := TS.firsts_of hd vs ok'
  refine ⟨tuples' true, fun Q E hq => ?_, fun p r hp hr => ?_⟩
  · refine PySem.W.kat_kind (T := .type "int") f1 (by omega) (fun v hv => ?_) rfl ?_
    · obtain ⟨n, t, rfl⟩ := f3 v hv
      exact PySem.W.Looks.now
    · exact hq
  · obtain ⟨ns, t1, l1, b1⟩ := ok p.1 hp
    obtain ⟨ms, t2, l2, b2⟩ := ok r.1 hr
    have i1 := TS.TupInts.ints t1
    have i2 := TS.TupInts.ints t2
    obtain ⟨x, xs, e1, ⟨o, g1, g2, n, g3⟩, ia⟩ := up t1
    obtain ⟨y, ys, e2, ⟨o', g1', g2', n', g3'⟩, ia'⟩ := up t2
    have lx : ∀ {us : List Value} {ks : List Int}, IntsAre us ks → us.length = ks.length := fun {us ks} z => by
      induction z with
      | nil => rfl
      | cons n t _ ih => rw [List.length_cons, List.length_cons, ih]
    have s1 : xs.size = d := by rw [← Array.length_toList, lx ia, l1]
    have s2 : ys.size = d := by rw [← Array.length_toList, lx ia', l2]
    have em : SrtO.lt2 (ltT h0 B) p r = decide (TS.code B ns < TS.code B ms) := by
      show decide (TS.code B (TS.intsOf h0 p.1) < TS.code B (TS.intsOf h0 r.1)) = _
      rw [i1, i2]
    rw [e1, e2] at *
    refine PySem.W.kat_lt g1 g3 g1' g3' ?_
    rw [s1, s2, show decide (d < d) = false from decide_eq_false (Nat.lt_irrefl d)]
    exact TS.lex_ints 0 ia ia' (l1.trans l2.symm) b1 b2 ⟨rfl, em.symm⟩
theorem sorted_tupsA {l : Addr} {vs : List Value} {d : Nat} {B : Int} {Q : Value → Shared → Prop} (hl : s.heap.IsList l vs.toArray) (hz : vs.length ≤ sizeLine) (hd : 2 ≤ vs.length → 1 ≤ d) (ok : TS.TupsOk s.heap d B vs)
    (q : ∀ out : Array Value, out.toList.Perm vs → out.toList.Pairwise (fun u v => TS.code B (TS.intsOf s.heap u) ≤ TS.code B (TS.intsOf s.heap v)) → Q (.ref (s.heap.objs.size + 1)) { s with heap := sortedAll s.heap vs out }) : wpAny (model prog w) A (call (.builtin "sorted") [.ref l]) Q E s := by
  refine SrtO.sorted_ord (swoT s.heap B) hl hz (fun h2 h₁ a ha kk => tups_sortable (s := { s with heap := h₁ }) (hd h2) h2 ok kk) fun out hs hb => ?_
  exact q out.toArray (by simpa using hb.perm) (by
    have : out.Pairwise fun u v => TS.code B (TS.intsOf s.heap u) ≤ TS.code B (TS.intsOf s.heap v) := hs.imp fun z => by
      have := of_decide_eq_false z
      omega
    simpa using this)
end
def rSortA (K : PySem.W.Frag) : List V → Hp → VK → Prop := fun vs H Q => ∃ (a : Addr) (xs : List V) (d : Nat) (B : Int), vs = [.ref a] ∧ SqL K H a xs ∧ (2 ≤ xs.length → 1 ≤ d) ∧ (∀ x ∈ xs, ∃ ns, L2.TupI K H x ns ∧ ns.length = d ∧ TS.Bd B ns) ∧
  ∀ (ys : List V) (p : Addr), ys.Perm xs → ys.Pairwise (fun x y => ∀ n m : List Int, L2.TupI K H x n → L2.TupI K H y m → TS.code B n ≤ TS.code B m) → H p = none → Q (.ref p) (upd H p (.lst ys))
theorem cr_sortTA {X : Cx} : CallR X (.builtin "sorted") (rSortA X.K) := by
  intro pins s σ H vs us Q I r h
  obtain ⟨a, xs, d, B, rfl, hs, hd, hx, q⟩ := h
  obtain ⟨its, rv, hl, hz⟩ := I.list hs
  rw [Vals.ref1 r]
  obtain ⟨e1, e2⟩ := bkV_refs rv fun x m => by
    obtain ⟨ns, ⟨t, e, _⟩, _⟩ := hx x m
    exact ⟨t, e⟩
  have lz : its.length ≤ sizeLine := by
    rw [← Vals.length rv]
    exact hz
  refine sorted_tupsA (d := d) (B := B) (PlainL.isList hl) lz (fun h2 => hd (by rw [Vals.length rv]; exact h2)) (fun v hv => ?_) fun out h1 h2 => ?_
  · obtain ⟨t, rfl⟩ := e2 v hv
    have hm : V.ref t ∈ xs := by
      rw [e1]
      exact List.mem_map.mpr ⟨.ref t, hv, rfl⟩
    obtain ⟨ns, ⟨t', e, ht⟩, hn, hb⟩ := hx (.ref t) hm
    cases e
    exact ⟨ns, tupI_raw I ht, hn, hb⟩
  · obtain ⟨ep, he'⟩ := sortedAll_at s.heap its out
    have h3 := fun u (hu : u ∈ out.toList) => e2 u (h1.mem_iff.mp hu)
    have hp : (out.toList.map bkV).Perm xs := by
      rw [e1]
      exact h1.map bkV
    have hlen : (out.toList.map bkV).length ≤ sizeLine := by
      rw [hp.length_eq]
      exact hz
    refine ⟨.ref (s.heap.objs.size + 1), upd H (s.heap.objs.size + 1) (.lst (out.toList.map bkV)), I.laid (t' := s.toks) (fun b o z => sortedAll_old z) (Nat.le_succ _) ⟨hlen, out.toList, ep, bkV_vals h3, he'⟩, rfl, q _ _ hp ?_ (I.hok.fresh (Nat.le_succ _))⟩
    rw [List.pairwise_map]
    refine h2.imp fun {u v} huv n m hn hm => ?_
    obtain ⟨t, et, ht⟩ := hn
    obtain ⟨t', et', ht'⟩ := hm
    have eu := bkV_ref et
    have ev := bkV_ref et'
    have i1 := TS.TupInts.ints (tupI_raw I ht)
    have i2 := TS.TupInts.ints (tupI_raw I ht')
    rw [← eu] at i1
    rw [← ev] at i2
    rw [i1, i2] at huv
    exact huv
theorem isKeys_of {H : Hp} : ∀ {kvs : List (List Key × V)} {xs : List (List Key × Addr × Value)}, KT H kvs xs → IsKeys H kvs (xs.map (·.2.1))
  | [], [], .nil => .nil
  | _ :: _, _ :: _, .cons h t => .cons h.2.1 (isKeys_of t)
theorem keys_eq {H : Hp} : ∀ {kvs : List (List Key × V)} {xs : List (List Key × Addr × Value)}, KT H kvs xs → kvs.map (·.1) = xs.map (·.1)
  | [], [], .nil => rfl
  | _ :: _, _ :: _, .cons h t => by rw [List.map_cons, List.map_cons, h.1, keys_eq t]
theorem key_of_mem {H : Hp} : ∀ {kvs : List (List Key × V)} {xs : List (List Key × Addr × Value)}, KT H kvs xs → ∀ x ∈ xs, ∃ p ∈ kvs, H x.2.1 = some (.tup (p.1.map kV))
  | [], [], .nil => fun x h => nomatch h
  | p :: _, y :: _, .cons h t => fun x hx => by
    rcases List.mem_cons.mp hx with rfl | hx
    · exact ⟨p, List.mem_cons_self, h.2.1⟩
    · obtain ⟨q, hq, e⟩ := key_of_mem t x hx
      exact ⟨q, List.mem_cons_of_mem _ hq, e⟩
/-- sorted(a dict) whose keys are tuples of so many whole numbers -/
theorem cr_sortedTD {X : Cx} (hc : X.calm = true) : CallR X (.builtin "sorted") (fun xs H Q => ∃ (a : Addr) (kvs : List (List Key × V)) (d : Nat) (B : Int), xs = [.ref a] ∧ H a = some (.dT kvs) ∧ ((kvs.map (·.1)).Nodup → 2 ≤ kvs.length → 1 ≤ d) ∧ (∀ p ∈ kvs, ∃ ns : List Int, p.1 = ns.map Sum.inl ∧ ns.length = d ∧ TS.Bd B ns) ∧
    ∀ ys : List V, (kvs.map (·.1)).Nodup → (∃ bs, IsKeys H kvs bs ∧ ys.Perm (bs.map V.ref)) → ys.Pairwise (fun x y => ∀ n m : List Int, L2.TupI X.K H x n → L2.TupI X.K H y m → TS.code B n ≤ TS.code B m) → Nw.New H (.lst ys) Q) := by
  intro pins s σ H xs us Q I r ask
  obtain ⟨a, kvs, d, B, rfl, ha, hd, hk, q⟩ := ask
  rw [Vals.ref1 r]
  have ok := I.hok a _ ha
  unfold ObjOk at ok
  obtain ⟨z, hs, xs', kt, o, es, ep, ho, hx, hdt, hes, ndk⟩ := ok
  have l1 := size_of_entries hes
  have l2 := Paired.length kt
  have lv : es.size ≤ sizeLine := by omega
  refine Calls.call_function_entry kind_sorted plain_sorted entry_sorted (args_sorted1 _) ?_
  unfold Builtin.«sorted»
  refine wpAny_bind (m := checkCount "sorted" 1 1 _) (wpAny_pure (wpAny_bind (PySem.W.kdu_collect (A := X.A.in1) (kdl_raw hs hx hdt) (I.ok.hd hc) ho lv fun h' tk acc hkp hacc => ?_)))
  have ea : acc.toList = xs'.map fun x => Value.ref x.2.1 := by
    refine List.ext_getElem (by rw [Array.length_toList, hacc.1, l1, List.length_map]) fun j h1 h2 => ?_
    obtain ⟨en, e1, e2⟩ := hacc.2 j acc.toList[j] (by rw [← Array.getElem?_toList, List.getElem?_eq_getElem h1])
    rw [← Array.getElem?_toList, hes, List.getElem?_map, List.getElem?_eq_getElem (by rw [List.length_map] at h2; exact h2)] at e1
    rw [e2, List.getElem_map, ← Option.some.inj e1]
    rfl
  have tk0 : TS.TupsOk s.heap d B acc.toList := fun v hv => by
    rw [ea] at hv
    obtain ⟨x, hx, rfl⟩ := List.mem_map.mp hv
    obtain ⟨p, hp, e⟩ := key_of_mem kt x hx
    obtain ⟨ns, e1, e2, e3⟩ := hk p hp
    rw [e1, List.map_map] at e
    exact ⟨ns, tupI_raw I (.of e), e2, e3⟩
  have lz : acc.toList.length ≤ sizeLine := by
    rw [Array.length_toList, hacc.1]
    exact lv
  have I1 : Inv X pins σ H { s with heap := h', toks := tk } := I.kept hkp
  refine wpAny_bind (wpAny_newList ?_ lz)
  have at1 : (h'.push (seqObj "list" acc.toList.toArray 0)).get? h'.objs.size = some (seqObj "list" acc.toList.toArray 0) := Heap.get?_push_size _ rfl
  show wpAny _ _ _ _ _ { s with heap := h'.push (seqObj "list" acc.toList.toArray 0), toks := tk }
  refine wpAny_bind (wpAny_holding (wpAny_call_entry slot_list_sort ⟨_, at1, rfl⟩ entry_list_sort (SrtO.list_sort_ord (s := { s with heap := h'.push (seqObj "list" acc.toList.toArray 0), toks := tk }) (swoT s.heap B) at1 lz (fun h2 => tups_sortable (hd (by rw [keys_eq kt]; exact ndk) (by rw [ea, List.length_map] at h2; omega)) h2 tk0 fun b u e => ?_) fun out c1 c2 => ⟨_, rfl, ?_⟩) (args_list_sort _)))
  · have e' := hkp b u e
    exact ⟨Nat.ne_of_lt (Heap.lt_size e'), Heap.get?_push_of_some _ e'⟩
  obtain ⟨c, hcc⟩ := sortedHeap_at (vs := acc.toList) (out := out.toArray) at1
  have h3 : ∀ u ∈ out, ∃ b, u = Value.ref b := fun u hu => by
    have := c2.perm.mem_iff.mp hu
    rw [ea] at this
    obtain ⟨x, _, e⟩ := List.mem_map.mp this
    exact ⟨_, e.symm⟩
  have hp : (out.map bkV).Perm ((xs'.map (·.2.1)).map V.ref) := by
    have := c2.perm.map bkV
    rw [ea, List.map_map] at this
    rw [List.map_map]
    exact this
  have hlen : (out.map bkV).length ≤ sizeLine := by
    rw [List.length_map, c2.perm.length_eq]
    exact lz
  refine wpAny_pure ⟨_, rfl, .ref h'.objs.size, upd H h'.objs.size (.lst (out.map bkV)), I1.laid (t' := tk) (fun b u e => ?_) (Nat.le_refl _) (show ObjOk X.prog X.w _ _ _ (.lst (out.map bkV)) from ⟨hlen, out, c, bkV_vals h3, hcc⟩), rfl, (q _ (by rw [keys_eq kt]; exact ndk) ⟨_, isKeys_of kt, hp⟩ ?_).to _ (I1.hok.fresh (Nat.le_refl _))⟩
  · have hlt : b < h'.objs.size := Heap.lt_size e
    rw [sortedHeap_old (Nat.ne_of_lt hlt) (by rw [size_push']; exact Nat.lt_succ_of_lt hlt)]
    exact Heap.get?_push_of_some _ e
  · rw [List.pairwise_map]
    refine c1.imp fun {u v} huv n m hn hm => ?_
    obtain ⟨t, et, ht⟩ := hn
    obtain ⟨t', et', ht'⟩ := hm
    have i1 := TS.TupInts.ints (tupI_raw I ht)
    have i2 := TS.TupInts.ints (tupI_raw I ht')
    rw [← bkV_ref et] at i1
    rw [← bkV_ref et'] at i2
    have huv := of_decide_eq_false huv
    rw [i1, i2] at huv
    omega
end Stu
namespace Itm
open PySem PySem.Spec PyProof.Rows L2
/-! ### for k, v in d.items(), of a dict whose keys are tuples -/
theorem paired_get {α β : Type} {F : α → β → Prop} : ∀ {l : List α} {m : List β} {i : Nat} {a : α}, Paired F l m → l[i]? = some a → ∃ b, m[i]? = some b ∧ F a b
  | _, _, _, _, .nil, h => by cases h
  | _, _, 0, _, .cons f _, h => by
    cases h
    exact ⟨_, rfl, f⟩
  | _, _, i + 1, _, .cons _ r, h => paired_get (i := i) r h
theorem frzI {X : Cx} {pins : List (Addr × Obj)} {σ : L2.St} {H : Hp} {s : Shared} {d : Addr} {o : Obj} {kvs : List (List Key × V)} (I : L2.Inv X pins σ H s) (hd : H d = some (.frz o (.dT kvs))) :
    (d == sysModules) = false ∧ s.heap.get? d = some o ∧ o.ExactDict ∧ ∃ es ep, o.data = .dict es ep ∧ es.size = kvs.length ∧ ∀ (i : Nat) (k : List Key) (v : V), kvs[i]? = some (k, v) → ∃ en q, es[i]? = some en ∧ en.key = .ref q ∧ H q = some (.tup (k.map kV)) ∧ RelV v en.val := by
  have ok := I.hok d _ hd
  unfold ObjOk at ok
  obtain ⟨hg, ok⟩ := ok
  unfold ObjOk at ok
  obtain ⟨_, hs, xs, kt, o', es, ep, hg', hx, hdt, hes, _⟩ := ok
  rw [hg] at hg'
  cases hg'
  refine ⟨hs, hg, hx, es, ep, hdt, ?_, fun i k v hk => ?_⟩
  · rw [← Array.length_toList, hes, List.length_map, Paired.length kt]
  · obtain ⟨p, hp, r1, r2, r3⟩ := paired_get kt hk
    refine ⟨entryOfKey (tupleKind (mixKind X.prog X.w)) p, p.2.1, ?_, rfl, ?_, r3⟩
    · rw [← Array.getElem?_toList, hes, List.getElem?_map, hp]
      rfl
    · exact r2
/-- the items as they stand at each turn -/
def ItT (d : Addr) (o : Obj) (kvs : List (List Key × V)) : It where
  go i H := H d = some (.frz o (.dT kvs)) ∧ i < kvs.length
  yld i H x H' := ∃ (T q : Addr) (k : List Key) (v : V), kvs[i]? = some (k, v) ∧ H q = some (.tup (k.map kV)) ∧ x = .ref T ∧ H T = none ∧ H' = upd H T (.tup [.ref q, v])
  stop i H := H d = some (.frz o (.dT kvs)) ∧ kvs.length ≤ i
theorem turn_itemsT {P : Program} {w : World} {K : PySem.W.Frag} {d : Addr} {o : Obj} {es : Array DictEntry} {ep : Nat} {kvs : List (List Key × V)} {elts : List Expr} {kk : Nat} {tpos : Pos} (it : Addr) (hod : o.data = .dict es ep) :
    Turn P w K (.Tuple elts kk tpos) (ItT d o kvs) [it] it (fun i h => ∃ ok ov, IsItemIter h it d i es.size ep ok ov) where
  mem := List.mem_cons_self
  obj := by
    rintro i h ⟨ok, ov, e⟩ b hb
    obtain rfl := List.mem_singleton.mp hb
    exact ⟨_, e, fun v z => nomatch z⟩
  keep := by
    rintro i h h' ⟨ok, ov, e⟩ k
    exact ⟨ok, ov, k it List.mem_cons_self _ e⟩
  item := by
    intro X hP hw hK hc i pins s σ H E I hf st hg
    subst hP hw hK
    obtain ⟨hd, hi⟩ := hg
    obtain ⟨ok, ov, he⟩ := st
    obtain ⟨hs, hgd, hx, es', ep', hdt, hsz, ent⟩ := frzI I hd
    rw [hod] at hdt
    cases hdt
    have hk := List.getElem?_eq_getElem hi
    generalize kvs[i] = kv at hk
    obtain ⟨k, v⟩ := kv
    obtain ⟨en, q, h1, h2, h3, h4⟩ := ent i k v hk
    have hi2 : i < es.size := by rw [hsz]; exact hi
    have een : es[i] = en := by
      rw [Array.getElem?_eq_getElem hi2] at h1
      exact Option.some.inj h1
    have itl : it < s.heap.objs.size := Heap.lt_size he
    refine DT.nextI he ⟨o, hgd, hx, hod⟩ hi2 fun h' ho hT hsz' hkeep => ?_
    refine ⟨_, rfl, wpAny_letOwnedTupleGo_items (s := { s with heap := h' }) ho fun h'' he' sb => ?_⟩
    have hT2 : h''.get? s.heap.objs.size = some { cls := .type "tuple", data := .seq #[es[i].key, es[i].val] } := (sb.2 _ (Nat.ne_of_gt itl)).trans hT
    have nw : ObjOk X.prog X.w (upd H s.heap.objs.size (.tup [.ref q, v])) h'' s.heap.objs.size (.tup [.ref q, v]) := ⟨by show 2 ≤ sizeLine; decide, [es[i].key, es[i].val], .cons (by rw [een, h2]; rfl) (.cons (by rw [een]; exact h4) .nil), ⟨_, hT2, rfl, _, rfl⟩⟩
    have kk2 : ∀ c o, c ∉ [it] → s.heap.get? c = some o → h''.get? c = some o := fun c o nc z => by
      have nc := List.ne_of_not_mem_cons nc
      exact (sb.2 c nc).trans (hkeep c o nc z)
    have I1 : Inv X pins σ (upd H s.heap.objs.size (.tup [.ref q, v])) { s with heap := h'' } := I.turnedNew (t' := s.toks) (ch := [it]) (fun c o hb z => kk2 c o hb z) hf (Nat.le_refl _) nw
    refine ⟨.ref s.heap.objs.size, _, I1, rfl, ⟨_, q, k, v, hk, h3, rfl, I.hok.fresh (Nat.le_refl _), rfl⟩, ⟨_, _, he'⟩, fun c hcm => ?_⟩
    obtain rfl := List.mem_singleton.mp hcm
    rw [upd_ne (Nat.ne_of_lt itl)]
    exact (hf c List.mem_cons_self).1
  done := by
    intro X hP hw hK hc i pins s σ H E I hf st hg
    subst hP hw hK
    obtain ⟨hd, hi⟩ := hg
    obtain ⟨ok, ov, he⟩ := st
    obtain ⟨hs, hgd, hx, es', ep', hdt, hsz, ent⟩ := frzI I hd
    rw [hod] at hdt
    cases hdt
    refine DT.endI (I.ok.hd hc) he ⟨o, hgd, hx, hod⟩ (by rw [hsz]; exact hi) fun h' ext => ⟨rfl, ?_⟩
    exact I.turnedL (t' := s.toks) (ch := [it]) (fun c ob nc z => ext c ob (List.ne_of_not_mem_cons nc) z) hf
  self := fun A i s Q E st h => by
    obtain ⟨ok, ov, e⟩ := st
    exact PySem.W.kcp_self e h
def iItemsT (td : TE) : TI := fun σ H R => td σ H fun x H1 => ∃ d o kvs, x = .ref d ∧ H1 d = some (.frz o (.dT kvs)) ∧ R (ItT d o kvs) H1
theorem pi_itemsT {X : Cx} {e : Expr} {td : TE} {apos cpos : Pos} {elts : List Expr} {kk : Nat} {tpos : Pos} (he : PE X e td)
    (hbase : attributeBase e "items" X.env (eval e X.env) = eval e X.env := by rfl) (hline : (apos.endLine == cpos.line) = true := by rfl) :
    PI X (.Tuple elts kk tpos) (.Call (.Attribute e "items" apos) [] [] cpos) (iItemsT td) := by
  refine ⟨fun pins s σ H R I h => ?_⟩
  refine wpAny_Call_method hbase rfl hline F.plainAttrs_dict F.slot_dict_items F.type_dict_items (thn (he.run pins s σ H _ I h) fun u s1 ⟨x, H1, I1, rx, d, o, kvs, ex, hd, q⟩ => ?_)
  subst ex
  obtain rfl : u = .ref d := rx
  obtain ⟨hs, hgd, hx, es, ep, hdt, hsz, ent⟩ := frzI I1 hd
  have raw : DT.Raw s1.heap d es ep := ⟨o, hgd, hx, hdt⟩
  refine ⟨?_, ?_, ?_⟩
  · exact ⟨o, hgd, hx.1⟩
  · rintro a ea
    cases ea
    exact ⟨o, hgd, hx.2.1⟩
  · have I2 : Inv X pins σ H1 { s1 with heap := s1.heap.push { cls := .type "dict_items", data := .fields #[.ref d] } } := I1.kept (t' := s1.toks) fun b ob z => Heap.get?_push_of_some _ z
    refine PySem.Calls.callWith_builtin rfl (PySem.evalArgs_none (DT.callItems hs raw ?_))
    refine DT.iterI (v := s1.heap.objs.size) ⟨_, Heap.get?_push_size s1.heap rfl, rfl, rfl⟩ ⟨o, Heap.get?_push_of_some _ hgd, hx, hdt⟩ ?_
    exact pi_one I2 _ (turn_itemsT _ hdt) ⟨_, _, Heap.get?_push_size _ rfl⟩ q
/-- a loop over the items -/
theorem for_itemsT {d : Addr} {o : Obj} {kvs : List (List Key × V)} {g : TG} {tb : TS} {D : Ends} {σ : L2.St} {H : Hp} (Pv : Nat → L2.St → Hp → Prop) (h0 : Pv 0 σ H) (hq : ∀ i σ H, Pv i σ H → H d = some (.frz o (.dT kvs)))
    (hs : ∀ (i : Nat) (k : List Key) (v : V) (q T : Addr) (σ : L2.St) (H : Hp), kvs[i]? = some (k, v) → H q = some (.tup (k.map kV)) → Pv i σ H → H T = none → g (.ref T) σ (upd H T (.tup [.ref q, v])) fun σ2 H2 => tb { D with nx := Pv (i + 1), ct := Pv (i + 1), bk := D.nx } σ2 H2) (hd : ∀ σ H, Pv kvs.length σ H → D.nx σ H) :
    ∃ W : Nat → Nat → L2.St → Hp → Prop, (∃ m, W 0 m σ H) ∧ ∀ i m σ H, W i m σ H →
      ((ItT d o kvs).stop i H ∧ D.nx σ H) ∨ ((ItT d o kvs).go i H ∧ ∃ N : L2.St → Hp → Prop, (∀ σ' H', N σ' H' → ∃ m', m' < m ∧ W (i + 1) m' σ' H') ∧ ∀ v H', (ItT d o kvs).yld i H v H' → g v σ H' fun σ2 H2 => tb { D with nx := N, ct := N, bk := D.nx } σ2 H2) := by
  refine ⟨fun i m σ H => m = kvs.length - i ∧ i ≤ kvs.length ∧ Pv i σ H, ⟨kvs.length, rfl, Nat.zero_le _, h0⟩, ?_⟩
  rintro i m σ H ⟨rfl, hi, p⟩
  have fz := hq i σ H p
  rcases Nat.lt_or_ge i kvs.length with lt | ge
  · refine .inr ⟨⟨fz, lt⟩, Pv (i + 1), fun σ' H' p' => ⟨kvs.length - (i + 1), by omega, rfl, lt, p'⟩, fun v H' y => ?_⟩
    obtain ⟨T, q, k, u, hk, hq', rfl, nT, rfl⟩ := y
    exact hs i k u q T σ H hk hq' p nT
  · obtain rfl : i = kvs.length := by omega
    exact .inl ⟨⟨fz, Nat.le_refl _⟩, hd σ H p⟩
end Itm
namespace Few
open PySem PySem.Spec PyProof.Rows L2 GxR Nw Dr Kp Se Co
/-! ### rising tuples of numbers -/
def TupN (H : Hp) (v : V) (ns : List Nat) : Prop := ∃ a, v = .ref a ∧ H a = some (.tup (ns.map nv))
theorem TupN.ke {F : Addr → Prop} {H H1 : Hp} {v : V} {ns : List Nat} (h : TupN H v ns) (k : Ke F H H1) : TupN H1 v ns := by
  obtain ⟨a, e, h⟩ := h
  exact ⟨a, e, k.tups _ _ h⟩
theorem TupN.numL {H : Hp} {v : V} {ns : List Nat} (h : TupN H v ns) : NumL H v ns := by
  obtain ⟨a, e, h⟩ := h
  exact ⟨a, e, .inr h⟩
theorem pi_listB {X : Cx} {K : PySem.W.Frag} (hk : X.K = K) {tg l : Expr} {tl : TE} (hl : PE X l tl) : PI X tg l (iList K tl) := by
  subst hk
  exact pi_list hl
/-- a walk within a comprehension, whatever a turn does -/
theorem lc_gen {J : It} {n : Nat} {G : Hp → Prop} {Y : Nat → Hp → V → Hp → Prop} (w : Walk J n G Y) {Body : V → Hp → (Hp → Prop) → Prop} {H0 : Hp} {Qd : Hp → Prop} (Pv : Nat → Hp → Prop) (h0 : Pv 0 H0) (hG : ∀ i H, i ≤ n → Pv i H → G H)
    (hs : ∀ i x H H', i < n → Pv i H → Y i H x H' → Body x H' (Pv (i + 1))) (hd : ∀ H, Pv n H → Qd H) :
    ∃ W : Nat → Nat → Hp → Prop, (∃ m, W 0 m H0) ∧ ∀ i m H, W i m H → (J.stop i H ∧ Qd H) ∨ (J.go i H ∧ ∃ Nx : Hp → Prop, (∀ H', Nx H' → ∃ m', m' < m ∧ W (i + 1) m' H') ∧ ∀ x H', J.yld i H x H' → Body x H' Nx) := by
  refine ⟨fun i m H => m = n - i ∧ i ≤ n ∧ Pv i H, ⟨n, rfl, Nat.zero_le _, h0⟩, ?_⟩
  rintro i m H ⟨rfl, hi, p⟩
  have g := hG i H hi p
  rcases Nat.lt_or_ge i n with lt | ge
  · exact .inr ⟨w.goes i H lt g, Pv (i + 1), fun H' p' => ⟨n - (i + 1), by omega, rfl, lt, p'⟩, fun x H' y => hs i x H H' lt p (w.yields i H x H' lt g y)⟩
  · obtain rfl : i = n := by omega
    exact .inl ⟨w.stops H g, hd H p⟩
/-- from where on numbers stand behind -/
def lo (t : List Nat) : Nat := match t.getLast? with
  | none => 0
  | some n => n + 1
def behind (m : Nat) (t : List Nat) : List Nat := (List.range (m - lo t)).map (lo t + ·)
def rise (m : Nat) : Nat → List (List Nat)
  | 0 => [[]]
  | l + 1 => (rise m l).flatMap fun t => (behind m t).map fun n => t ++ [n]
abbrev step (m : Nat) (t : List Nat) : List (List Nat) := (behind m t).map fun n => t ++ [n]
theorem step_take {m : Nat} {l : List (List Nat)} {u : Nat} {t : List Nat} (h : l[u]? = some t) : (l.take (u + 1)).flatMap (step m) = (l.take u).flatMap (step m) ++ step m t := by
  rw [List.take_add_one, h, List.flatMap_append]
  congr 1
  show [t].flatMap (step m) = step m t
  rw [List.flatMap_cons, List.flatMap_nil, List.append_nil]
theorem step_len {m : Nat} {l : List (List Nat)} {u : Nat} : ((l.take u).flatMap (step m)).length ≤ (l.flatMap (step m)).length := by
  conv => rhs; rw [← List.take_append_drop u l, List.flatMap_append, List.length_append]
  omega
theorem lo_snoc (t : List Nat) (n : Nat) : lo (t ++ [n]) = n + 1 := by
  unfold lo
  rw [List.getLast?_append]
  rfl
theorem lo_gt {t : List Nat} (h : t.Pairwise (· < ·)) {x : Nat} (hx : x ∈ t) : x < lo t := by
  rcases List.eq_nil_or_concat t with rfl | ⟨a, z, rfl⟩
  · cases hx
  · rw [List.concat_eq_append] at h hx ⊢
    rw [lo_snoc]
    rcases List.mem_append.mp hx with y | y
    · have := (List.pairwise_append.mp h).2.2 x y z (List.mem_singleton_self z)
      omega
    · rw [List.mem_singleton.mp y]
      omega
theorem lo_le {t : List Nat} {n : Nat} (h : ∀ x ∈ t, x < n) : lo t ≤ n := by
  rcases List.eq_nil_or_concat t with rfl | ⟨a, z, rfl⟩
  · exact Nat.zero_le _
  · rw [List.concat_eq_append] at h ⊢
    rw [lo_snoc]
    exact h z (List.mem_append_right _ (List.mem_singleton_self z))
theorem mem_behind {m : Nat} {t : List Nat} {n : Nat} : n ∈ behind m t ↔ lo t ≤ n ∧ n < m := by
  unfold behind
  rw [List.mem_map]
  constructor
  · rintro ⟨j, hj, rfl⟩
    have := List.mem_range.mp hj
    omega
  · rintro ⟨h1, h2⟩
    exact ⟨n - lo t, List.mem_range.mpr (by omega), by omega⟩
theorem mem_rise {m : Nat} : ∀ {l : Nat} {t : List Nat}, t ∈ rise m l ↔ t.length = l ∧ t.Pairwise (· < ·) ∧ ∀ n ∈ t, n < m
  | 0, t => by
    show t ∈ [[]] ↔ _
    rw [List.mem_singleton]
    constructor
    · rintro rfl
      exact ⟨rfl, .nil, fun n h => nomatch h⟩
    · rintro ⟨h, _⟩
      exact List.length_eq_zero_iff.mp h
  | l + 1, t => by
    show t ∈ (rise m l).flatMap _ ↔ _
    rw [List.mem_flatMap]
    constructor
    · rintro ⟨t', ht, hm⟩
      obtain ⟨n, hn, rfl⟩ := List.mem_map.mp hm
      obtain ⟨h1, h2, h3⟩ := mem_rise.mp ht
      obtain ⟨b1, b2⟩ := mem_behind.mp hn
      refine ⟨by rw [List.length_append, h1]; rfl, List.pairwise_append.mpr ⟨h2, List.pairwise_singleton _ _, fun x hx y hy => ?_⟩, fun x hx => ?_⟩
      · rw [List.mem_singleton.mp hy]
        have := lo_gt h2 hx
        omega
      · rcases List.mem_append.mp hx with z | z
        · exact h3 x z
        · rw [List.mem_singleton.mp z]
          exact b2
    · rintro ⟨h1, h2, h3⟩
      rcases List.eq_nil_or_concat t with rfl | ⟨a, z, rfl⟩
      · cases h1
      · rw [List.concat_eq_append] at h1 h2 h3 ⊢
        obtain ⟨p1, _, p2⟩ := List.pairwise_append.mp h2
        refine ⟨a, mem_rise.mpr ⟨by rw [List.length_append] at h1; exact Nat.succ.inj h1, p1, fun n hn => h3 n (List.mem_append_left _ hn)⟩, List.mem_map.mpr ⟨z, mem_behind.mpr ⟨lo_le fun x hx => p2 x hx z (List.mem_singleton_self z), h3 z (List.mem_append_right _ (List.mem_singleton_self z))⟩, rfl⟩⟩
theorem rise_len : ∀ m, m < 11 → ∀ l, l < 11 → (rise m l).length ≤ 252 := by decide +kernel
theorem behind_len {m : Nat} {t : List Nat} : (behind m t).length ≤ m := by
  unfold behind
  rw [List.length_map, List.length_range]
  omega
theorem behind_rg {m : Nat} {t : List Nat} : rgV (lo t : Nat) (m : Nat) = (behind m t).map nv := by
  unfold rgV behind
  rw [List.map_map, show (((m : Nat) : Int) - ((lo t : Nat) : Int)).toNat = m - lo t by omega]
  refine List.map_congr_left fun i _ => ?_
  show V.int (((lo t : Nat) : Int) + (i : Nat)) = V.int ((lo t + i : Nat) : Int)
  rw [Int.natCast_add]
theorem at_last {xs : List V} {x : V} (h : xs[xs.length - 1]? = some x) : atI xs (-1) = some x := by
  have lt := (List.getElem?_eq_some_iff.mp h).1
  unfold atI ixN
  rw [if_neg (by decide), if_pos (by omega)]
  show xs[(-1 + (xs.length : Int)).toNat]? = some x
  rw [show (-1 + (xs.length : Int)).toNat = xs.length - 1 by omega]
  exact h
/-- tuples told one by one -/
def TNs (H : Hp) (vs : List V) (ts : List (List Nat)) : Prop := vs.length = ts.length ∧ ∀ (i : Nat) (x : V) (t : List Nat), vs[i]? = some x → ts[i]? = some t → TupN H x t
theorem TNs.nil {H : Hp} : TNs H [] [] := ⟨rfl, fun i x cs h => by cases h⟩
theorem TNs.snoc {H : Hp} {vs : List V} {css : List (List Nat)} {v : V} {c : List Nat} (h : TNs H vs css) (r : TupN H v c) : TNs H (vs ++ [v]) (css ++ [c]) := by
  refine ⟨by rw [List.length_append, List.length_append, h.1]; rfl, fun i x' y' h1 h2 => ?_⟩
  by_cases hi : i < vs.length
  · rw [List.getElem?_append_left hi] at h1
    rw [List.getElem?_append_left (by rw [← h.1]; exact hi)] at h2
    exact h.2 i x' y' h1 h2
  · have e : i = vs.length := by
      have := (List.getElem?_eq_some_iff.mp h1).1
      rw [List.length_append, List.length_singleton] at this
      omega
    subst e
    rw [List.getElem?_append_right (Nat.le_refl _), Nat.sub_self] at h1
    rw [List.getElem?_append_right (by rw [h.1]; exact Nat.le_refl _), show vs.length - css.length = 0 by rw [h.1]; exact Nat.sub_self _] at h2
    cases h1
    cases h2
    exact r
theorem TNs.ke {F : Addr → Prop} {H H' : Hp} {vs : List V} {ts : List (List Nat)} (h : TNs H vs ts) (k : Ke F H H') : TNs H' vs ts := ⟨h.1, fun i x bs h1 h2 => (h.2 i x bs h1 h2).ke k⟩
theorem TNs.wr {H : Hp} {vs ws : List V} {ts : List (List Nat)} {D : Addr} {o : HO} (h : TNs H vs ts) (hD : H D = some (.lst ws)) : TNs (upd H D o) vs ts := ⟨h.1, fun i x t h1 h2 => by
  obtain ⟨a, e, ha⟩ := h.2 i x t h1 h2
  exact ⟨a, e, by rw [upd_ne (fun z => by rw [z, hD] at ha; cases ha)]; exact ha⟩⟩
theorem TNs.at {H : Hp} {vs : List V} {ts : List (List Nat)} (h : TNs H vs ts) {i : Nat} {x : V} (hx : vs[i]? = some x) : ∃ t, ts[i]? = some t ∧ TupN H x t := by
  have li := (List.getElem?_eq_some_iff.mp hx).1
  have e := List.getElem?_eq_getElem (show i < ts.length by rw [← h.1]; exact li)
  exact ⟨_, e, h.2 i x _ hx e⟩
structure Zf (mg : Str → Option Value) : Prop where
  z_len : mg "len" = none
  z_list : mg "list" = none
  z_tuple : mg "tuple" = none
  z_range : mg "range" = none
section
variable {P : Program} {w : World} {K : PySem.W.Frag} {mg : Str → Option Value} {base : Heap}
abbrev sCfc : Stmt := topS 22
theorem scCfc : FnScope ["book"] ["book"] (defScope sCfc) := ⟨rfl, rfl, rfl, by decide +kernel, rfl, by decide +kernel, by decide +kernel⟩
def spCfc : Sp := fun vs H Q _ => ∃ (v : V) (css : List (List Int)), vs = [v] ∧ Bk H v css ∧ css.length ≤ 10 ∧ Q .non H
theorem ok_cfc {f : Addr} {fd : FuncData} {k : Nat} {tk : Tok} (F : Fun K "check_few_claims" "check_few_claims" sCfc f fd) (T : Zf mg) (M10 : mg "MOST_LOOKED_THROUGH" = some (.int 10 tk)) : FnOk P w K mg base CX0 (k + 1) f fd ["book"] spCfc := by
  refine F.ok scCfc (fun vs H Q E h => ?_) (fun cdv A outer s H vs Q E hr h => ?_)
  · obtain ⟨v, css, rfl, _⟩ := h
    rfl
  · obtain ⟨v, css, rfl, ⟨a, vs, rfl, ha, lv, hv⟩, l10, q⟩ := h
    refine ⟨_, (pss_one (ps_if (pt_cmpR op_gt (pe_callB call_len_seq (by rfl) T.z_len (by decide +kernel) (pa_cons (pv 0) pa_nil)) (pe_glob (v := .int 10) rfl M10 ⟨_, rfl⟩) (nomark _)) pss_never pss_nil)), ?_⟩
    refine ⟨_, rfl, a, _, rfl, .inr (.of ha), _, _, rfl, rfl, false, congrArg V.bl (decide_eq_false (by omega)), q⟩
abbrev sNbh : Stmt := topS 23
theorem scNbh : FnScope ["numbers", "many"] ["numbers", "many"] (defScope sNbh) := ⟨rfl, rfl, rfl, by decide +kernel, rfl, by decide +kernel, by decide +kernel⟩
def spNbh : Sp := fun vs H Q _ => ∃ (u : V) (t : List Nat) (m : Nat), vs = [u, .int (m : Nat)] ∧ TupN H u t ∧ m ≤ 100 ∧ (∀ n ∈ t, n < m) ∧ ∀ p H', H p = none → Same H H' → H' p = some (.lst ((behind m t).map nv)) → Q (.ref p) H'
theorem ok_nbh {f : Addr} {fd : FuncData} {k : Nat} (F : Fun K "numbers_behind" "numbers_behind" sNbh f fd) (T : Zf mg) : FnOk P w K mg base CX0 (k + 1) f fd ["numbers", "many"] spNbh := by
  refine F.ok scNbh (fun vs H Q E h => ?_) (fun cdv A outer s H vs Q E hr h => ?_)
  · obtain ⟨u, t, m, rfl, _⟩ := h
    rfl
  · obtain ⟨u, t, m, rfl, ⟨a, rfl, ha⟩, l100, bd, q⟩ := h
    refine ⟨_, (pss_one (ps_ret (pe_listRgN rfl (by rfl) T.z_list (prg_2 (by rfl) T.z_range (pe_ifExp (pt_truth (pv 0) (fun _ => rfl)) (pe_op op_add (pe_ix ix_tup (pv 0) (pe_un un_neg pe_int) (fun _ _ => rfl)) pe_int) pe_int) (pv 1))))), ?_⟩
    have key : ∀ n : Nat, n = lo t → RgOk (n : Nat) (m : Nat) ∧ New H (.lst (rgV (n : Nat) (m : Nat))) Q := fun n e => by
      subst e
      have := lo_le bd
      refine ⟨.of_le (by omega) (by omega) (by omega) (by omega), fun L G nL s1 hL _ => ?_⟩
      rw [behind_rg] at hL
      exact q L G nL s1 hL
    refine ⟨_, rfl, !(t.map nv).isEmpty, .inr (.inl ⟨_, .of ha, rfl⟩), ?_⟩
    rcases List.eq_nil_or_concat t with rfl | ⟨b, z, rfl⟩
    · refine ite2 (fun e => (nomatch e)) (fun _ => ?_)
      exact ⟨_, rfl, 0, _, rfl, rfl, key 0 rfl⟩
    · rw [List.concat_eq_append] at ha key ⊢
      refine ite2 (fun _ => ?_) (fun e => absurd (by rw [List.map_append]; cases b <;> rfl) e)
      refine ⟨_, rfl, _, rfl, a, _, _, nv z, rfl, rfl, .of ha, at_last (by rw [List.map_append, List.length_append]; exact (List.getElem?_append_right (by simp)).trans (by simp)), _, _, rfl, rfl, ?_⟩
      have := key (z + 1) (lo_snoc b z).symm
      rw [Int.natCast_add] at this
      exact ⟨_, rfl, _, _, rfl, rfl, this⟩
abbrev sRis : Stmt := topS 24
abbrev nRis : List Str := ["many", "length", "told", "turn", "numbers", "number"]
theorem scRis : FnScope nRis ["many", "length"] (defScope sRis) := ⟨rfl, rfl, rfl, by decide +kernel, rfl, by decide +kernel, by decide +kernel⟩
def spRis : Sp := fun vs H Q _ => ∃ (m l : Nat) (z : Int), vs = [.int (m : Nat), .int z] ∧ z.toNat = l ∧ m ≤ 10 ∧ z ≤ 10 ∧ -1 ≤ z ∧ ∀ p vs H', H p = none → Same H H' → H' p = some (.lst vs) → TNs H' vs (rise m l) → Q (.ref p) H'
theorem snoc_len {α : Type} {l l' : List α} {x : α} (h : l ++ [x] <+: l') : l.length < l'.length := by
  have := h.length_le
  rw [List.length_append, List.length_singleton] at this
  omega
theorem ok_ris {f fN : Addr} {fd fdN : FuncData} {k : Nat} (F : Fun K "rising_tuples" "rising_tuples" sRis f fd) (T : Zf mg)
    (FN : Fun K "numbers_behind" "numbers_behind" sNbh fN fdN) (bN : Binds K fdN ["numbers", "many"] []) (gN : mg "numbers_behind" = some (.ref fN)) (GN : FnOk P w K mg base CX0 1 fN fdN ["numbers", "many"] spNbh) :
    FnOk P w K mg base CX0 (k + 2) f fd ["many", "length"] spRis := by
  refine F.ok scRis (fun vs H Q E h => ?_) (fun cdv A outer s H vs Q E hr h => ?_)
  · obtain ⟨m, l, z, rfl, _⟩ := h
    rfl
  · obtain ⟨m, l, z, rfl, ez, m10, z10, z1, q⟩ := h
    have hr1 : Room 1 _ := hr.mono (by omega)
    refine ⟨_, (Evl.pss_cut (ps_set (i := 2) scRis.nd rfl (.inl rfl) (pe_lstN (pa_cons (pe_tupN pa_nil) pa_nil)))
      (Evl.pss_cut (ps_for PassesOwn.never rfl (pi_range1 (by rfl) T.z_range (pa_cons (pv 1) pa_nil)) (pg_name (i := 3) scRis.nd rfl (.inl rfl)) (pss_one (ps_setLc2 (i := 2) (own := [("numbers", 4), ("number", 5)]) (vs1 := [5]) (g := gName 4) (g1 := gName 5) (tt := tYes) (tt1 := tYes) rfl scRis.nd rfl rfl (sw_true rfl rfl rfl (by decide +kernel)) (pi_list (pv 2)) (blkOk_by (N := nRis) (sc := defScope sRis) (by decide +kernel)) (by decide) (fun _ _ _ _ _ => (pg_name (i := 4) scRis.nd rfl (.inl rfl))) (fun _ _ _ _ _ => pts_nil) (fun _ _ _ _ _ => (pi_listB (K := K) rfl (pe_call GN hr1 (by rfl) gN FN.kp bN .nil pass0 (pa_cons (pv 4) (pa_cons (pv 0) pa_nil))))) (fun _ _ _ _ _ => (pg_name (i := 5) scRis.nd rfl (.inl rfl))) (fun _ _ _ _ _ => pts_nil) (fun _ _ _ _ _ => (pe_op op_catTN (pv 4) (pe_tupN (pa_cons (pv 5) pa_nil)))))))
      (pss_one (ps_ret (pv 2))))), ?_⟩
    refine Evl.q_cut (M := fun σ' G => ∃ (L : Addr) (ws : List V), σ' = [some (.int (m : Nat)), some (.int z), some (.ref L), none, none, none] ∧ H L = none ∧ Same H G ∧ G L = some (.lst ws) ∧ TNs G ws (rise m 0)) ?_ ?_
    · refine ⟨Nat.zero_le _, fun a H1 na s1 ha _ => ⟨by show 1 ≤ sizeLine; decide, fun L H2 nL s2 hL _ => ?_⟩⟩
      exact ⟨L, _, rfl, s1.free nL, s1.trans s2, hL, TNs.snoc (.nil) ⟨a, rfl, s2 _ _ ha⟩⟩
    rintro σ' H1 ⟨L, ws, rfl, nL, s1, hL, tn⟩
    refine Evl.q_cut (M := fun σ' G => ∃ (L : Addr) (ws : List V) (y3 : Option V), σ' = [some (.int (m : Nat)), some (.int z), some (.ref L), y3, none, none] ∧ H L = none ∧ Same H G ∧ G L = some (.lst ws) ∧ TNs G ws (rise m l)) ?_ ?_
    · refine ⟨_, rfl, z, rfl, by omega, by omega, for_range (n := z.toNat) (Pv := fun i σ G => ∃ (L : Addr) (ws : List V) (y3 : Option V), σ = [some (.int (m : Nat)), some (.int z), some (.ref L), y3, none, none] ∧ H L = none ∧ Same H G ∧ G L = some (.lst ws) ∧ TNs G ws (rise m i)) ?_ ?_ ?_⟩
      · exact ⟨L, ws, none, rfl, nL, s1, hL, tn⟩
      · clear hL tn s1 nL ws L H1
        rintro i σ H1 hi ⟨L, ws, y3, rfl, nL, s1, hL, tn⟩
        have rl := rise_len m (by omega) (i + 1) (by omega)
        refine ⟨_, rfl, L, rfl, ⟨_, .of hL⟩, fun D nD => ?_⟩
        have hL1 : (upd H1 D (.lst [])) L = some (.lst ws) := same_new nD _ _ hL
        refine lc_gen (walk_list (K := K) (a := L) (xs := ws)) (fun u G => Same H1 G ∧ ∃ acc, G D = some (.lst acc) ∧ TNs G acc (((rise m i).take u).flatMap (step m))) ⟨same_new nD, [], upd_same, .nil⟩ (fun u G _ p => .of (p.1 _ _ hL)) ?_ ?_
        · rintro u x G G' hu ⟨sG, acc, hD, ta⟩ ⟨rfl, hx⟩
          obtain ⟨t, ht, tt⟩ := tn.at hx
          have tt' := tt.ke (Ke.same (F := Nof) sG)
          have mt := mem_rise.mp (List.mem_of_getElem? ht)
          refine ⟨rfl, _, rfl, _, rfl, x, t, m, rfl, tt', by omega, mt.2.2, fun p G2 np s2 hp => ?_⟩
          refine ⟨p, rfl, ⟨_, .of hp⟩, ?_⟩
          have nDp : D ≠ p := ne_of_none hD np
          refine lc_gen (walk_list (K := K) (a := p) (xs := (behind m t).map nv)) (fun j G => Same H1 G ∧ G p = some (.lst ((behind m t).map nv)) ∧ ∃ acc, G D = some (.lst acc) ∧ TNs G acc (((rise m i).take u).flatMap (step m) ++ (step m t).take j)) ?_ (fun j G _ p => .of p.2.1) ?_ ?_
          · exact ⟨sG.trans s2, hp, acc, s2 _ _ hD, by rw [List.take_zero, List.append_nil]; exact ta.ke (Ke.same (F := Nof) s2)⟩
          · rintro j y G3 G3' hj ⟨s3, hp3, acc3, hD3, ta3⟩ ⟨rfl, hy⟩
            obtain ⟨n, hn, rfl⟩ := nat_at hy
            obtain ⟨ta', rfl, hta⟩ := tt.ke (Ke.same (F := Nof) s3)
            refine ⟨rfl, _, rfl, _, rfl, by show 1 ≤ sizeLine; decide, fun b G4 nb s4 hb _ => ?_⟩
            have lt : t.length ≤ 10 := by omega
            refine ⟨ta', b, _, _, rfl, rfl, s4 _ _ hta, hb, ?_, fun r G5 s5 hr' => ?_⟩
            · rw [List.length_map]
              exact Nat.le_of_lt (small1000 (show t.length + 1 ≤ 1000 by omega))
            have sn : (step m t)[j]? = some (t ++ [n]) := by
              rw [List.getElem?_map, hn]
              rfl
            have tk : (step m t).take (j + 1) = (step m t).take j ++ [t ++ [n]] := by
              rw [List.take_add_one, sn]
              rfl
            have hD5 := s5 _ _ (s4 _ _ hD3)
            refine ⟨acc3, hD5, small1000 ?_, ?_⟩
            · have h1 := ta3.1
              have h2 := step_len (m := m) (l := rise m i) (u := u + 1)
              have h3 : (rise m (i + 1)).length = ((rise m i).flatMap (step m)).length := rfl
              rw [step_take ht, List.length_append] at h2
              rw [List.length_append, List.length_take] at h1
              omega
            · have s35 := s4.trans s5
              refine ⟨same_wr (s3.trans s35) nD, by rw [upd_ne (Ne.symm nDp)]; exact s35 _ _ hp3, acc3 ++ [.ref r], upd_same, ?_⟩
              rw [tk, ← List.append_assoc]
              exact ((ta3.ke (Ke.same (F := Nof) s35)).snoc ⟨r, rfl, by rw [hr', List.map_append]; rfl⟩).wr hD5
          · rintro G3 ⟨s3, hp3, acc3, hD3, ta3⟩
            refine ⟨s3, acc3, hD3, ?_⟩
            rw [List.length_map, ← List.length_map (f := fun n => t ++ [n]) (as := behind m t), List.take_length] at ta3
            rw [step_take ht]
            exact ta3
        · rintro G ⟨sG, acc, hD, ta⟩
          rw [tn.1, List.take_length] at ta
          exact ⟨D, acc, _, rfl, s1.free nD, s1.trans sG, hD, ta⟩
      · rintro σ G ⟨L, ws, y3, rfl, nL, s1, hL, tn⟩
        rw [ez] at tn
        exact ⟨L, ws, y3, rfl, nL, s1, hL, tn⟩
    rintro σ' H2 ⟨L, ws, y3, rfl, nL, s2, hL, tn⟩
    exact ⟨_, rfl, q L ws H2 nL s2 hL tn⟩
end
end Few
namespace Few
open PySem PySem.Spec PyProof.Rows L2 GxR Nw Dr Kp Se Co Wd Un
/-! ### settings by what fails -/
theorem mem_putK {κ : Type} [DecidableEq κ] {kvs : List (κ × V)} {k : κ} {v : V} {p : κ × V} (h : p ∈ putK kvs k v) : p = (k, v) ∨ p ∈ kvs := by
  unfold putK at h
  split at h
  · obtain ⟨q, hq, e⟩ := List.mem_map.mp h
    split at e
    · next c =>
      left
      rw [← e, c]
    · rw [e] at hq
      exact .inr hq
  · rcases List.mem_append.mp h with z | z
    · exact .inr z
    · exact .inl (List.mem_singleton.mp z)
theorem putK_key {κ : Type} [DecidableEq κ] {kvs : List (κ × V)} {k : κ} {v : V} : (∃ u, (k, u) ∈ putK kvs k v) ∧ ∀ j, (∃ u, (j, u) ∈ kvs) → ∃ u, (j, u) ∈ putK kvs k v := by
  unfold putK
  split
  · next c =>
    have keep : ∀ j, (∃ u, (j, u) ∈ kvs) → ∃ u, (j, u) ∈ kvs.map fun kv => if kv.1 = k then (kv.1, v) else kv := fun j ⟨u, hu⟩ => by
      by_cases e : j = k
      · exact ⟨v, List.mem_map.mpr ⟨(j, u), hu, by rw [if_pos e]⟩⟩
      · exact ⟨u, List.mem_map.mpr ⟨(j, u), hu, by rw [if_neg e]⟩⟩
    refine ⟨?_, keep⟩
    obtain ⟨p, hp, e⟩ := List.any_eq_true.mp c
    have e : p.1 = k := of_decide_eq_true e
    obtain ⟨u, hu⟩ := keep p.1 ⟨p.2, hp⟩
    rw [e] at hu
    exact ⟨u, hu⟩
  · exact ⟨⟨v, List.mem_append_right _ (List.mem_singleton_self _)⟩, fun j ⟨u, hu⟩ => ⟨u, List.mem_append_left _ hu⟩⟩
abbrev kT (c : List Int) : List Key := To.kT c
abbrev flt (bs : List Bool) (css : List (List Int)) : List Int := fails bs css css.length
/-- the settings in which the claim does not hold, by what fails in them -/
structure Byf (css : List (List Int)) (cs : List Int) (H : Hp) (kvs : List (List Key × V)) (S : List Bool → Prop) : Prop where
  ok : ∀ k v, (k, v) ∈ kvs → ∃ bs, bs.length = 8 ∧ cs.any (sh bs) = false ∧ k = kT (flt bs css) ∧ TupB H v bs
  al : ∀ bs, S bs → cs.any (sh bs) = false → ∃ v, (kT (flt bs css), v) ∈ kvs
theorem Byf.ke {css : List (List Int)} {cs : List Int} {H H' : Hp} {kvs : List (List Key × V)} {S : List Bool → Prop} {F : Addr → Prop} (b : Byf css cs H kvs S) (k : Ke F H H') : Byf css cs H' kvs S := ⟨fun j v h => by
  obtain ⟨bs, h1, h2, h3, h4⟩ := b.ok j v h
  exact ⟨bs, h1, h2, h3, h4.ke k⟩, b.al⟩
theorem Byf.put {css : List (List Int)} {cs : List Int} {H : Hp} {kvs : List (List Key × V)} {S S' : List Bool → Prop} {bs : List Bool} {v : V} (b : Byf css cs H kvs S) (l8 : bs.length = 8) (no : cs.any (sh bs) = false) (tb : TupB H v bs) (s : ∀ x, S' x → S x ∨ x = bs) : Byf css cs H (putK kvs (kT (flt bs css)) v) S' := by
  refine ⟨fun j u h => ?_, fun x hx nx => ?_⟩
  · rcases mem_putK h with e | h
    · cases e
      exact ⟨bs, l8, no, rfl, tb⟩
    · exact b.ok j u h
  · rcases s x hx with hx | rfl
    · exact putK_key.2 _ (b.al x hx nx)
    · exact putK_key.1
theorem Byf.wr {css : List (List Int)} {cs : List Int} {H : Hp} {kvs ks : List (List Key × V)} {S : List Bool → Prop} {D : Addr} {o : HO} (b : Byf css cs H kvs S) (hD : H D = some (.dT ks)) : Byf css cs (upd H D o) kvs S := ⟨fun j v h => by
  obtain ⟨bs, h1, h2, h3, a, e, h4⟩ := b.ok j v h
  exact ⟨bs, h1, h2, h3, a, e, by rw [upd_ne (fun z => by rw [z, hD] at h4; cases h4)]; exact h4⟩, b.al⟩
/-- what a lock leaves -/
theorem unlocked {F : Addr → Prop} {H G : Hp} {D : Addr} {u : HO} {od : Obj} (hD : H D = some u) (nt : ∀ ps, u ≠ .tbl ps) (nx : ∀ xs, u ≠ .tup xs) (k : Ke F (upd H D (.frz od u)) G) : Ke F H (upd G D u) := by
  refine ⟨fun b o e t m => ?_, fun Q hQ => ?_, fun b xs e => ?_⟩
  · by_cases z : b = D
    · rw [z] at e ⊢
      rw [upd_same, ← hD, e]
    · rw [upd_ne z]
      exact k.keep b o (by rw [upd_ne z]; exact e) t m
  · obtain ⟨ps, e, t⟩ := hQ
    have n : Q ≠ D := fun z => by
      rw [z, hD] at e
      exact nt ps (Option.some.inj e)
    obtain ⟨qs, e2, t2⟩ := k.tabs Q ⟨ps, by rw [upd_ne n]; exact e, t⟩
    exact ⟨qs, by rw [upd_ne n]; exact e2, t2⟩
  · have n : b ≠ D := fun z => by
      rw [z, hD] at e
      exact nx xs (Option.some.inj e)
    rw [upd_ne n]
    exact k.tups b xs (by rw [upd_ne n]; exact e)
theorem tab_lock {H : Hp} {D P : Addr} {u : HO} {od : Obj} (hD : H D = some u) (nt : ∀ ps, u ≠ .tbl ps) (t : TabG H P) : TabG (upd H D (.frz od u)) P := by
  obtain ⟨ps, e, t⟩ := t
  exact ⟨ps, by rw [upd_ne (fun z => by rw [z, hD] at e; exact nt ps (Option.some.inj e))]; exact e, t⟩
theorem tup_lock {H : Hp} {D b : Addr} {u : HO} {od : Obj} {xs : List V} (hD : H D = some u) (nx : ∀ xs, u ≠ .tup xs) (e : H b = some (.tup xs)) : (upd H D (.frz od u)) b = some (.tup xs) := by
  rw [upd_ne (fun z => by rw [z, hD] at e; exact nx xs (Option.some.inj e))]
  exact e
structure Zg (mg : Str → Option Value) : Prop where
  z_any : mg "any" = none
  z_tuple : mg "tuple" = none
  z_range : mg "range" = none
section
variable {P : Program} {w : World} {K : PySem.W.Frag} {mg : Str → Option Value} {base : Heap}
end
end Few
namespace Few
open PySem PySem.Spec PyProof.Rows L2 GxR Nw Dr Kp Se Co Wd Un Od
/-! ### the fewest numbers -/
theorem pe_tupRgN {X : Cx} {e : Expr} {te : L2.St → Hp → (Int → Int → Hp → Prop) → Prop} {p pos : Pos} (hc : X.calm = true) (hg : Gl X "tuple") (hm : X.mg "tuple" = none) (he : PRg X e te) (na : starEach [e] X.env = (false, eval e X.env) :: starEach [] X.env := by rfl) :
    PE X (.Call (.Name "tuple" p) [e] [] pos) (fun σ H Q => te σ H fun a b H1 => RgOk a b ∧ New H1 (.tup (rgV a b)) Q) :=
  pe_weak (pe_tupRg hc hg hm (prg_cl he) na) fun _ _ _ q => ⟨_, fun _ _ _ z => ⟨z.1, z.2.to⟩, q⟩
theorem rg_nat (n : Nat) : rgV 0 ((n : Nat) : Int) = (List.range n).map nv := by
  unfold rgV
  rw [show (((n : Nat) : Int) - 0).toNat = n by omega]
  refine List.map_congr_left fun i _ => ?_
  show V.int (0 + (i : Nat)) = V.int (i : Nat)
  rw [Int.zero_add]
def kN (t : List Nat) : List Key := kT (t.map fun n : Nat => (n : Int))
theorem kN_v (t : List Nat) : (kN t).map kV = t.map nv := by
  unfold kN
  rw [To.kT_v, List.map_map]
  rfl
theorem cast_inj : ∀ {a b : List Nat}, (a.map fun n : Nat => (n : Int)) = b.map (fun n : Nat => (n : Int)) → a = b
  | [], [], _ => rfl
  | [], _ :: _, h => (nomatch h)
  | _ :: _, [], h => (nomatch h)
  | x :: a, y :: b, h => by
    obtain ⟨h1, h2⟩ := List.cons.inj h
    rw [show x = y by have h1 : ((x : Nat) : Int) = ((y : Nat) : Int) := h1; omega, cast_inj h2]
theorem kN_inj {a b : List Nat} (h : kN a = kN b) : a = b := cast_inj (To.kT_inj h)
theorem mem_fails {bs : List Bool} {css : List (List Int)} {i n : Nat} : ((n : Nat) : Int) ∈ fails bs css i ↔ n < i ∧ (css.getD n []).any (sh bs) = false := by
  unfold fails
  rw [List.mem_map]
  constructor
  · rintro ⟨j, hj, e⟩
    obtain ⟨h1, h2⟩ := List.mem_filter.mp hj
    have e : ((j : Nat) : Int) = ((n : Nat) : Int) := e
    obtain rfl : j = n := by omega
    exact ⟨List.mem_range.mp h1, by cases h : (css.getD j []).any (sh bs) <;> rw [h] at h2 <;> first | rfl | cases h2⟩
  · rintro ⟨h1, h2⟩
    exact ⟨n, List.mem_filter.mpr ⟨List.mem_range.mpr h1, by rw [h2]; rfl⟩, rfl⟩
theorem ah_pick {bs : List Bool} {css : List (List Int)} {t : List Nat} : ah bs (pick css t) = true ↔ ∀ n ∈ t, (css.getD n []).any (sh bs) = true := by
  unfold ah pick
  rw [List.all_map, List.all_eq_true]
  rfl
theorem mem_valV {kvs : List (List Key × V)} {k : List Key} {v : V} (h : valV kvs k = some v) : (k, v) ∈ kvs := by
  unfold valV at h
  obtain ⟨p, hp, rfl⟩ := Option.map_eq_some_iff.mp h
  have h1 := List.mem_of_find?_eq_some hp
  have h2 : p.1 = k := of_decide_eq_true (p := p.1 = k) (by have := List.find?_some hp; exact this)
  rw [← h2]
  exact h1
/-- a claim does not follow from nothing -/
theorem none_flw {cs : List Int} (h : IsCl cs) : ¬ Flw [] cs := fun f => by
  refine f ((List.range 8).map fun p => decide ((-((p : Nat) + 1 : Int)) ∈ cs)) ⟨by rw [List.length_map, List.length_range], ?_, rfl⟩
  rw [List.any_eq_false]
  intro k hk
  obtain ⟨k0, k1, k2⟩ := h.says k hk
  have op := h.opp k hk
  unfold sh
  rw [List.getD_eq_getElem?_getD, List.getElem?_map, List.getElem?_range (by omega)]
  show ¬ (decide ((-(((k.natAbs - 1 : Nat) : Nat) + 1 : Int)) ∈ cs) == decide (0 < k)) = true
  by_cases z : 0 < k
  · rw [show (-(((k.natAbs - 1 : Nat) : Nat) + 1 : Int)) = -k by omega, decide_eq_false op, decide_eq_true z]
    decide
  · rw [show (-(((k.natAbs - 1 : Nat) : Nat) + 1 : Int)) = k by omega, decide_eq_true hk, decide_eq_false z]
    decide
/-- what stands in the table for t -/
def Ent (css : List (List Int)) (cs : List Int) (H : Hp) (t : List Nat) (v : V) : Prop := (∃ bs, TupB H v bs ∧ Ctr (pick css t) cs bs) ∨ (v = .non ∧ Flw (pick css t) cs)
theorem Ent.ke {css : List (List Int)} {cs : List Int} {H H' : Hp} {t : List Nat} {v : V} {F : Addr → Prop} (e : Ent css cs H t v) (k : Ke F H H') : Ent css cs H' t v := e.imp (fun ⟨bs, h, c⟩ => ⟨bs, h.ke k, c⟩) id
theorem Byf.yes {css : List (List Int)} {cs : List Int} {H : Hp} {kvs : List (List Key × V)} {S : List Bool → Prop} (b : Byf css cs H kvs S) {c : List Int} {v : V} {t : List Nat} (h : (kT c, v) ∈ kvs) (bd : ∀ n ∈ t, n < css.length) (no : ∀ n ∈ t, ((n : Nat) : Int) ∉ c) : ∃ bs, TupB H v bs ∧ Ctr (pick css t) cs bs := by
  obtain ⟨bs, l8, nx, e, tb⟩ := b.ok _ _ h
  rw [To.kT_inj e] at no
  refine ⟨bs, tb, l8, nx, ah_pick.mpr fun n hn => ?_⟩
  cases z : (css.getD n []).any (sh bs) with
  | true => rfl
  | false => exact absurd (mem_fails.mpr ⟨bd n hn, z⟩) (no n hn)
theorem Byf.no {css : List (List Int)} {cs : List Int} {H : Hp} {kvs : List (List Key × V)} {t : List Nat} (b : Byf css cs H kvs fun bs => bs.length = 8) (al : ∀ c v, (kT c, v) ∈ kvs → ∃ n ∈ t, ((n : Nat) : Int) ∈ c) : Flw (pick css t) cs := fun bs ⟨l8, nx, h⟩ => by
  obtain ⟨v, hv⟩ := b.al bs l8 nx
  obtain ⟨n, hn, hm⟩ := al _ _ hv
  have := ah_pick.mp h n hn
  rw [(mem_fails.mp hm).2] at this
  cases this
/-- a table of settings, from each of the tuples -/
structure Tb (css : List (List Int)) (cs : List Int) (H : Hp) (L : List (List Nat)) (l : Nat) (kvs : List (List Key × V)) : Prop where
  ky : ∀ k v, (k, v) ∈ kvs → ∃ t ∈ rise css.length l, k = kN t
  vl : ∀ t ∈ L, ∃ v, valV kvs (kN t) = some v ∧ Ent css cs H t v
theorem Tb.ke {css : List (List Int)} {cs : List Int} {H H' : Hp} {L : List (List Nat)} {l : Nat} {kvs : List (List Key × V)} {F : Addr → Prop} (b : Tb css cs H L l kvs) (k : Ke F H H') : Tb css cs H' L l kvs := ⟨b.ky, fun t h => by
  obtain ⟨v, h1, h2⟩ := b.vl t h
  exact ⟨v, h1, h2.ke k⟩⟩
theorem Tb.wr {css : List (List Int)} {cs : List Int} {H : Hp} {L : List (List Nat)} {l : Nat} {kvs ks : List (List Key × V)} {D : Addr} {o : HO} (b : Tb css cs H L l kvs) (hD : H D = some (.dT ks)) : Tb css cs (upd H D o) L l kvs := ⟨b.ky, fun t h => by
  obtain ⟨v, h1, h2⟩ := b.vl t h
  refine ⟨v, h1, h2.imp (fun ⟨bs, ⟨a, e, h4⟩, c⟩ => ⟨bs, ⟨a, e, by rw [upd_ne (fun z => by rw [z, hD] at h4; cases h4)]; exact h4⟩, c⟩) id⟩⟩
theorem Tb.put {css : List (List Int)} {cs : List Int} {H : Hp} {L : List (List Nat)} {l : Nat} {kvs : List (List Key × V)} {t : List Nat} {v : V} (b : Tb css cs H L l kvs) (m : t ∈ rise css.length l) (e : Ent css cs H t v) : Tb css cs H (L ++ [t]) l (putK kvs (kN t) v) := by
  refine ⟨fun k u h => ?_, fun x hx => ?_⟩
  · rcases mem_putK h with z | h
    · cases z
      exact ⟨t, m, rfl⟩
    · exact b.ky k u h
  · rw [valV_put]
    by_cases z : kN x = kN t
    · rw [if_pos z]
      rw [← kN_inj z] at e
      exact ⟨v, rfl, e⟩
    · rw [if_neg z]
      rcases List.mem_append.mp hx with hx | hx
      · exact b.vl x hx
      · exact absurd (congrArg kN (List.mem_singleton.mp hx)) z
/-- the fewest numbers of claims from which it follows -/
structure Fwt (css : List (List Int)) (cs : List Int) (ns : List Nat) : Prop where
  mem : ns ∈ rise css.length ns.length
  fl : Flw (pick css ns) cs
  mn : ∀ l t, t ∈ rise css.length l → Flw (pick css t) cs → ns.length ≤ l
  pos : 0 < ns.length
/-- a table that shows it -/
structure Shw (css : List (List Int)) (cs : List Int) (H : Hp) (l : Nat) (kvs : List (List Key × V)) : Prop where
  ky : ∀ k v, (k, v) ∈ kvs → ∃ t ∈ rise css.length l, k = kN t
  sw : ∀ t ∈ rise css.length l, ∃ v bs, valV kvs (kN t) = some v ∧ TupB H v bs ∧ Ctr (pick css t) cs bs
theorem Shw.ke {css : List (List Int)} {cs : List Int} {H H' : Hp} {l : Nat} {kvs : List (List Key × V)} {F : Addr → Prop} (b : Shw css cs H l kvs) (k : Ke F H H') : Shw css cs H' l kvs := ⟨b.ky, fun t h => by
  obtain ⟨v, bs, h1, h2, h3⟩ := b.sw t h
  exact ⟨v, bs, h1, h2.ke k, h3⟩⟩
theorem pick_all {css : List (List Int)} : pick css (List.range css.length) = css := by
  unfold pick
  refine List.ext_getElem (by rw [List.length_map, List.length_range]) fun i h1 h2 => ?_
  rw [List.getElem_map, List.getElem_range, List.getD_eq_getElem?_getD, List.getElem?_eq_getElem h2]
  rfl
theorem range_rise (m : Nat) : List.range m ∈ rise m (List.range m).length := mem_rise.mpr ⟨rfl, List.pairwise_lt_range, fun n hn => List.mem_range.mp hn⟩
theorem ctr_no {css : List (List Int)} {cs : List Int} {bs : List Bool} (c : Ctr css cs bs) : ¬ Flw css cs := fun f => f bs c
section
variable {P : Program} {w : World} {K : PySem.W.Frag} {mg : Str → Option Value} {base : Heap}
abbrev sShn : Stmt := topS 25
theorem scShn : FnScope ["book", "claim", "many", "table", "numbers"] ["book", "claim", "many", "table"] (defScope sShn) := ⟨rfl, rfl, rfl, by decide +kernel, rfl, by decide +kernel, by decide +kernel⟩
theorem od_bl {f : Addr → Prop} {H : Hp} : ∀ bs : List Bool, OdAll f H (bs.map V.bl) (bs.map PyData.bool)
  | [] => .nil
  | n :: r => .cons (.bl _) (od_bl r)
def spShn (Pi Ph Pa : Addr) : Sp := fun vs H Q _ => ∃ (v u : V) (D : Addr) (l : Nat) (kvs : List (List Key × V)) (css : List (List Int)) (cs : List Int), vs = [v, u, .int (l : Nat), .ref D] ∧ Bk H v css ∧ TupI H u cs ∧ IsCl cs ∧ (∀ c ∈ css, Says c) ∧ css.length ≤ 10 ∧ 0 < l ∧ l ≤ 10 ∧ H D = some (.dT kvs) ∧ Shw css cs H (l - 1) kvs ∧ TabG H Pi ∧ TabG H Ph ∧ TabG H Pa ∧ ∀ H', Ke Nof H H' → Q (.bl true) H'
theorem ok_shn {f fC fR fN Pi Ph Pa : Addr} {fd fdC fdR fdN : FuncData} {k : Nat} (F : Fun K "shows_needed" "shows_needed" sShn f fd) (T : Zf mg)
    (FC : Fun K "check_few_claims" "check_few_claims" sCfc fC fdC) (bC : Binds K fdC ["book"] []) (gC : mg "check_few_claims" = some (.ref fC)) (GC : FnOk P w K mg base CX0 1 fC fdC ["book"] spCfc)
    (FR : Fun K "rising_tuples" "rising_tuples" sRis fR fdR) (bR : Binds K fdR ["many", "length"] []) (gR : mg "rising_tuples" = some (.ref fR)) (GR : FnOk P w K mg base CX0 2 fR fdR ["many", "length"] spRis)
    (FN : Fun K "shows_need" "shows_need" Sn.sSnd fN fdN) (bN : Binds K fdN ["book", "claim", "numbers", "thing"] []) (gN : mg "shows_need" = some (.ref fN)) (GN : FnOk P w K mg base CX0 6 fN fdN ["book", "claim", "numbers", "thing"] (Sn.spSnd Pi Ph Pa)) :
    FnOk P w K mg base CX0 (k + 7) f fd ["book", "claim", "many", "table"] (spShn Pi Ph Pa) := by
  refine F.ok scShn (fun vs H Q E h => ?_) (fun cdv A outer s H vs Q E hr h => ?_)
  · obtain ⟨v, u, D, l, kvs, css, cs, rfl, _⟩ := h
    rfl
  · obtain ⟨v, u, D, l, kvs, css, cs, rfl, hb, tw, ic, sb, l10, l0, ll, hD, sw, ti, th, ta, q⟩ := h
    have hr1 : Room 1 _ := hr.mono (by omega)
    have hr2 : Room 2 _ := hr.mono (by omega)
    have hr6 : Room 6 _ := hr.mono (by omega)
    refine ⟨_, (Evl.pss_cut (ps_expr (pe_call GC hr1 (by rfl) gC FC.kp bC .nil pass0 (pa_cons (pv 0) pa_nil)))
      (Evl.pss_cut (ps_for PassesOwn.never rfl (pi_list (pe_call GR hr2 (by rfl) gR FR.kp bR .nil pass0 (pa_cons (pe_callB call_len_seq (by rfl) T.z_len (by decide +kernel) (pa_cons (pv 0) pa_nil)) (pa_cons (pe_op op_sub (pv 2) pe_int) pa_nil)))) (pg_name (i := 4) scShn.nd rfl (.inl rfl)) (pss_one (ps_if (pt_not (pt_val (pe_call GN hr6 (by rfl) gN FN.kp bN .nil pass0 (pa_cons (pv 0) (pa_cons (pv 1) (pa_cons (pv 4) (pa_cons (pe_dget1 (lt1 hr.units) (pv 3) (pv 4) ⟨rfl, rfl, rfl, rfl⟩) pa_nil))))))) (pss_one (ps_ret pe_bl)) pss_nil)))
      (pss_one (ps_ret pe_bl)))), ?_⟩
    obtain ⟨ba, bvs, rfl, hBk, lB, aB⟩ := id hb
    refine Evl.q_cut (M := fun σ' G => σ' = [some (.ref ba), some u, some (.int (l : Nat)), some (.ref D), none] ∧ G = H) ?_ ?_
    · exact ⟨_, rfl, .ref ba, css, rfl, hb, l10, rfl, rfl⟩
    rintro σ' H0 ⟨rfl, rfl⟩
    refine Evl.q_cut (M := fun σ' G => ∃ y4, σ' = [some (.ref ba), some u, some (.int (l : Nat)), some (.ref D), y4] ∧ Ke Nof H0 G) ?_ ?_
    · refine ⟨_, rfl, ba, _, rfl, .inr (.of hBk), _, rfl, _, _, rfl, rfl, css.length, l - 1, ((l : Nat) : Int) - 1, by rw [lB]; rfl, by omega, l10, by omega, by omega, fun L ws G1 nL s1 hL tn => ?_⟩
      refine ⟨L, rfl, ⟨_, .of hL⟩, for_list (xs := ws) (Pv := fun i σ G => ∃ y4, σ = [some (.ref ba), some u, some (.int (l : Nat)), some (.ref D), y4] ∧ Ke Nof G1 G) ⟨none, rfl, .refl _ _⟩ (fun i σ G _ z => .of (z.choose_spec.2.lst hL fun z => z)) ?_ ?_⟩
      · rintro i x σ G hx ⟨y4, rfl, kG⟩
        obtain ⟨t, ht, ta', rfl, hta⟩ := tn.at hx
        have mt := List.mem_of_getElem? ht
        have mr := mem_rise.mp mt
        have k0 : Ke Nof H0 G := (Ke.same s1).trans kG
        obtain ⟨z, bs, hv, ⟨b, rfl, hbb⟩, ct⟩ := sw.sw t mt
        have hD2 : G D = some (.dT kvs) := k0.keep D _ hD (fun ps z => by cases z) fun z => z
        have ht2 := kG.tups _ _ hta
        have g := DGet.t (k := kN t) hD2 (by rw [kN_v]; exact ht2)
        rw [hv] at g
        refine ⟨_, rfl, _, rfl, _, rfl, _, rfl, D, rfl, .inr ⟨kvs, .inl hD2⟩, _, rfl, _, g, ?_⟩
        refine ⟨Nof, .ref ba, u, .ref ta', .ref b, css, cs, t, .tuple (bs.map PyData.bool), rfl, hb.ke k0, tw.ke k0, ⟨ta', rfl, .inr ht2⟩, mr.2.2, by omega, .tup (k0.tups _ _ hbb) (od_bl bs), fun ds e => ?_, ic.says, sb, k0.tabs _ ti, k0.tabs _ th, k0.tabs _ ta, fun tr H2 htr k2 => ?_⟩
        · have := ct.1
          cases e
          rw [List.length_map]
          omega
        · obtain rfl : tr = true := htr.mpr ⟨bs, rfl, ct⟩
          exact ⟨_, rfl, _, rfl, kG.trans k2⟩
      · rintro σ G ⟨y4, rfl, kG⟩
        exact ⟨y4, rfl, (Ke.same s1).trans kG⟩
    rintro σ' G ⟨y4, rfl, k1⟩
    exact q G k1
end
end Few
namespace Tab42
open PySem PySem.Spec PyProof.Rows L2 GxR Nw Dr Kp Se Co Few Un
/-! ### all tuples of so many numbers, sorted (k42) -/
abbrev cst (t : List Nat) : List Int := t.map fun n : Nat => (n : Int)
def tps (m : Nat) : Nat → List (List Nat)
  | 0 => [[]]
  | c + 1 => tps m c ++ ((tps m c).filter fun t => decide (t.length < m)).map (· ++ [c])
theorem mem_tps {m : Nat} : ∀ {c : Nat} {t : List Nat}, t ∈ tps m c ↔ t.length ≤ m ∧ t.Pairwise (· < ·) ∧ ∀ n ∈ t, n < c
  | 0, t => by
    show t ∈ [[]] ↔ _
    rw [List.mem_singleton]
    constructor
    · rintro rfl
      exact ⟨Nat.zero_le _, .nil, fun n h => nomatch h⟩
    · rintro ⟨_, _, h⟩
      cases t with
      | nil => rfl
      | cons a r => exact absurd (h a List.mem_cons_self) (Nat.not_lt_zero _)
  | c + 1, t => by
    show t ∈ tps m c ++ _ ↔ _
    rw [List.mem_append, List.mem_map]
    constructor
    · rintro (h | ⟨u, hu, rfl⟩)
      · obtain ⟨h1, h2, h3⟩ := mem_tps.mp h
        exact ⟨h1, h2, fun n hn => Nat.lt_succ_of_lt (h3 n hn)⟩
      · obtain ⟨hu, lt⟩ := List.mem_filter.mp hu
        have lt := of_decide_eq_true lt
        obtain ⟨h1, h2, h3⟩ := mem_tps.mp hu
        refine ⟨by rw [List.length_append]; exact lt, List.pairwise_append.mpr ⟨h2, List.pairwise_singleton _ _, fun x hx y hy => ?_⟩, fun n hn => ?_⟩
        · rw [List.mem_singleton.mp hy]
          exact h3 x hx
        · rcases List.mem_append.mp hn with z | z
          · exact Nat.lt_succ_of_lt (h3 n z)
          · rw [List.mem_singleton.mp z]
            exact Nat.lt_succ_self c
    · rintro ⟨h1, h2, h3⟩
      rcases List.eq_nil_or_concat t with rfl | ⟨u, z, rfl⟩
      · exact .inl (mem_tps.mpr ⟨Nat.zero_le _, .nil, fun n h => nomatch h⟩)
      · rw [List.concat_eq_append] at h1 h2 h3 ⊢
        obtain ⟨p1, _, p2⟩ := List.pairwise_append.mp h2
        have pz : ∀ x ∈ u, x < z := fun x hx => p2 x hx z (List.mem_singleton_self z)
        have lz := h3 z (List.mem_append_right _ (List.mem_singleton_self z))
        rw [List.length_append, List.length_singleton] at h1
        by_cases e : z = c
        · refine .inr ⟨u, List.mem_filter.mpr ⟨mem_tps.mpr ⟨by omega, p1, fun n hn => by rw [← e]; exact pz n hn⟩, decide_eq_true (by omega)⟩, by rw [e]⟩
        · refine .inl (mem_tps.mpr ⟨by rw [List.length_append]; exact h1, h2, fun n hn => ?_⟩)
          rcases List.mem_append.mp hn with y | y
          · have := pz n y
            omega
          · rw [List.mem_singleton.mp y]
            omega
theorem nd_tps (m : Nat) : ∀ c, (tps m c).Nodup
  | 0 => by
    show [[]].Nodup
    simp
  | c + 1 => by
    show (tps m c ++ _).Nodup
    refine List.nodup_append.mpr ⟨nd_tps m c, ?_, fun a ha b hb e => ?_⟩
    · refine List.Pairwise.map _ (fun x y z e => z ?_) ((nd_tps m c).filter _)
      exact List.append_cancel_right e
    · obtain ⟨u, _, rfl⟩ := List.mem_map.mp hb
      have := (mem_tps.mp ha).2.2 c (by rw [e]; exact List.mem_append_right _ (List.mem_singleton_self c))
      omega
theorem len_tps (m : Nat) : ∀ c, (tps m c).length ≤ 2 ^ c
  | 0 => Nat.le_refl _
  | c + 1 => by
    show (tps m c ++ _).length ≤ _
    rw [List.length_append, List.length_map, Nat.pow_succ]
    have h1 := len_tps m c
    have h2 := List.length_filter_le (fun t => decide (t.length < m)) (tps m c)
    omega
theorem perm_paired {α β : Type} {F : α → β → Prop} {ys xs : List α} (p : ys.Perm xs) : ∀ {ts : List β}, Paired F xs ts → ∃ us, us.Perm ts ∧ Paired F ys us := by
  induction p with
  | nil => exact fun {ts} h => ⟨ts, .refl _, h⟩
  | cons x _ ih =>
    rintro ts (_ | ⟨h, t⟩)
    obtain ⟨us, p, q⟩ := ih t
    exact ⟨_ :: us, p.cons _, .cons h q⟩
  | swap x y l =>
    rintro ts (_ | ⟨h, _ | ⟨h', t⟩⟩)
    exact ⟨_, .swap _ _ _, .cons h' (.cons h t)⟩
  | trans _ _ ih1 ih2 =>
    intro ts h
    obtain ⟨us, p, q⟩ := ih2 h
    obtain ⟨ws, p', q'⟩ := ih1 q
    exact ⟨ws, p'.trans p, q'⟩
theorem code_inj {B : Int} : ∀ {r q : List Int}, r.length = q.length → TS.Bd B r → TS.Bd B q → TS.code B r = TS.code B q → r = q
  | [], [], _, _, _, _ => rfl
  | [], _ :: _, h, _, _, _ => by cases h
  | _ :: _, [], h, _, _, _ => by cases h
  | d :: r, e :: q, h, b1, b2, c => by
    have l : r.length = q.length := Nat.succ.inj h
    have b1' : TS.Bd B r := fun m hm => b1 m (List.mem_cons_of_mem _ hm)
    have b2' : TS.Bd B q := fun m hm => b2 m (List.mem_cons_of_mem _ hm)
    have de : d = e := by
      rcases Int.lt_trichotomy d e with z | z | z
      · have := TS.code_lt l b1' b2' z
        omega
      · exact z
      · have := TS.code_lt l.symm b2' b1' z
        omega
    subst de
    have n1 : ¬ TS.code B r < TS.code B q := fun z => by
      have := (TS.code_same (d := d) l).mpr z
      omega
    have n2 : ¬ TS.code B q < TS.code B r := fun z => by
      have := (TS.code_same (d := d) l.symm).mpr z
      omega
    rw [code_inj l b1' b2' (by omega)]
theorem paired_of {H : Hp} : ∀ {vs : List V} {ts : List (List Nat)}, TNs H vs ts → Paired (TupN H) vs ts
  | [], [], _ => .nil
  | [], _ :: _, h => by cases h.1
  | _ :: _, [], h => by cases h.1
  | _ :: _, _ :: _, h => .cons (h.2 0 _ _ rfl rfl) (paired_of ⟨by have := h.1; simpa using this, fun i x t h1 h2 => h.2 (i + 1) x t h1 h2⟩)
theorem of_paired {H : Hp} : ∀ {vs : List V} {ts : List (List Nat)}, Paired (TupN H) vs ts → TNs H vs ts
  | [], [], .nil => .nil
  | x :: vs, t :: ts, .cons h r => by
    have ih := of_paired r
    refine ⟨by rw [List.length_cons, List.length_cons, ih.1], fun i y u h1 h2 => ?_⟩
    cases i with
    | zero =>
      cases h1
      cases h2
      exact h
    | succ i => exact ih.2 i y u h1 h2
theorem app_paired {α β : Type} {F : α → β → Prop} : ∀ {xs ys : List α} {ts us : List β}, Paired F xs ts → Paired F ys us → Paired F (xs ++ ys) (ts ++ us)
  | [], _, [], _, .nil, h => h
  | _ :: _, _, _ :: _, _, .cons h r, h' => .cons h (app_paired r h')
theorem len_from {c : Nat} : ∀ {t : List Nat} {a : Nat}, t.Pairwise (· < ·) → (∀ n ∈ t, a ≤ n ∧ n < c) → t.length ≤ c - a
  | [], _, _, _ => Nat.zero_le _
  | x :: r, a, p, h => by
    obtain ⟨p1, p2⟩ := List.pairwise_cons.mp p
    have hx := h x List.mem_cons_self
    have ih := len_from (a := x + 1) p2 fun n hn => ⟨p1 n hn, (h n (List.mem_cons_of_mem _ hn)).2⟩
    rw [List.length_cons]
    omega
theorem len_lt {t : List Nat} {c : Nat} (p : t.Pairwise (· < ·)) (h : ∀ n ∈ t, n < c) : t.length ≤ c := len_from (a := 0) p fun n hn => ⟨Nat.zero_le _, h n hn⟩
theorem cst_v (t : List Nat) : (cst t).map V.int = t.map nv := by
  rw [List.map_map]
  rfl
theorem tupN_I {K : PySem.W.Frag} {H : Hp} {x : V} {t : List Nat} (h : TupN H x t) : L2.TupI K H x (cst t) := by
  obtain ⟨a, e, ha⟩ := h
  exact ⟨a, e, .of (by rw [cst_v]; exact ha)⟩
theorem pw_code {K : PySem.W.Frag} {H : Hp} {B : Int} : ∀ {ys : List V} {us : List (List Nat)}, Paired (TupN H) ys us → ys.Pairwise (fun x y => ∀ n m : List Int, L2.TupI K H x n → L2.TupI K H y m → TS.code B n ≤ TS.code B m) → us.Pairwise (fun t u => TS.code B (cst t) ≤ TS.code B (cst u))
  | [], [], .nil, _ => .nil
  | x :: ys, t :: us, .cons h r, p => by
    obtain ⟨p1, p2⟩ := List.pairwise_cons.mp p
    refine List.pairwise_cons.mpr ⟨fun u hu => ?_, pw_code r p2⟩
    obtain ⟨i, hi⟩ := List.getElem?_of_mem hu
    have tn := of_paired r
    have li := (List.getElem?_eq_some_iff.mp hi).1
    have ey := List.getElem?_eq_getElem (show i < ys.length by rw [tn.1]; exact li)
    exact p1 _ (List.mem_of_getElem? ey) _ _ (tupN_I h) (tupN_I (tn.2 i _ u ey hi))
theorem bd_cst {B : Nat} {t : List Nat} (h : ∀ n ∈ t, n < B) : TS.Bd (B : Nat) (cst t) := fun m hm => by
  obtain ⟨n, hn, rfl⟩ := List.mem_map.mp hm
  have := h n hn
  exact ⟨by omega, by omega⟩
/-- sorted lists of the same unlike tuples of one length are one list -/
theorem uniq_code {B : Int} {d : Nat} : ∀ {us ws : List (List Nat)}, us.Nodup → ws.Nodup → (∀ t, t ∈ us ↔ t ∈ ws) → (∀ t ∈ us, t.length = d ∧ TS.Bd B (cst t)) → us.Pairwise (fun t u => TS.code B (cst t) ≤ TS.code B (cst u)) → ws.Pairwise (fun t u => TS.code B (cst t) ≤ TS.code B (cst u)) → us = ws
  | [], [], _, _, _, _, _, _ => rfl
  | [], w :: _, _, _, m, _, _, _ => absurd ((m w).mpr List.mem_cons_self) (by simp)
  | u :: _, [], _, _, m, _, _, _ => absurd ((m u).mp List.mem_cons_self) (by simp)
  | u :: us, w :: ws, nu, nw, m, k, su, sw => by
    obtain ⟨a1, a2⟩ := List.pairwise_cons.mp su
    obtain ⟨b1, b2⟩ := List.pairwise_cons.mp sw
    obtain ⟨c1, c2⟩ := List.nodup_cons.mp nu
    obtain ⟨e1, e2⟩ := List.nodup_cons.mp nw
    have ku := k u List.mem_cons_self
    have kw := k w ((m w).mpr List.mem_cons_self)
    have e : u = w := by
      have h1 : TS.code B (cst u) ≤ TS.code B (cst w) := by
        rcases List.mem_cons.mp ((m w).mpr List.mem_cons_self) with z | z
        · rw [z]
          exact Int.le_refl _
        · exact a1 w z
      have h2 : TS.code B (cst w) ≤ TS.code B (cst u) := by
        rcases List.mem_cons.mp ((m u).mp List.mem_cons_self) with z | z
        · rw [z]
          exact Int.le_refl _
        · exact b1 u z
      exact cast_inj (code_inj (by rw [List.length_map, List.length_map, ku.1, kw.1]) ku.2 kw.2 (Int.le_antisymm h1 h2))
    subst e
    congr 1
    refine uniq_code c2 e2 (fun t => ?_) (fun t h => k t (List.mem_cons_of_mem _ h)) a2 b2
    constructor
    · intro h
      rcases List.mem_cons.mp ((m t).mp (List.mem_cons_of_mem _ h)) with z | z
      · rw [z] at h
        exact absurd h c1
      · exact z
    · intro h
      rcases List.mem_cons.mp ((m t).mpr (List.mem_cons_of_mem _ h)) with z | z
      · rw [z] at h
        exact absurd h e1
      · exact z
structure Zt (mg : Str → Option Value) : Prop where
  z_isinstance : mg "isinstance" = none
  z_dict : mg "dict" = none
  z_len : mg "len" = none
  z_range : mg "range" = none
  z_sorted : mg "sorted" = none
section
variable {P : Program} {w : World} {K : PySem.W.Frag} {mg : Str → Option Value} {base : Heap}
abbrev sTup : Stmt := topS 42
abbrev nTup : List Str := ["count", "many", "found", "number", "some"]
theorem scTup : FnScope nTup ["count", "many"] (defScope sTup) := ⟨rfl, rfl, rfl, by decide +kernel, rfl, by decide +kernel, by decide +kernel⟩
/-- all tuples of m numbers below c, sorted -/
structure Tsd (c m : Nat) (ts : List (List Nat)) : Prop where
  me : ∀ t, t ∈ ts ↔ t ∈ rise c m
  nd : ts.Nodup
  sd : ts.Pairwise (fun t u => TS.code 16 (cst t) ≤ TS.code 16 (cst u))
def spTup : Sp := fun vs H Q _ => ∃ c m : Nat, vs = [.int (c : Nat), .int (m : Nat)] ∧ c ≤ 10 ∧ ∀ p vs ts H', Same H H' → H' p = some (.lst vs) → TNs H' vs ts → Tsd c m ts → Q (.ref p) H'
theorem big {n c : Nat} (hc : c ≤ 10) (h : n ≤ 2 ^ c) : n < sizeLine := by
  have : 2 ^ c ≤ 2 ^ 10 := Nat.pow_le_pow_right (by decide) hc
  rw [sizeLine_eq]
  omega
theorem ok_tup {f : Addr} {fd : FuncData} {k : Nat} (F : Fun K "_law_s_tuples" "_law_s_tuples" sTup f fd) (T : Zt mg) : FnOk P w K mg base CX0 (k + 1) f fd ["count", "many"] spTup := by
  refine F.ok scTup (fun vs H Q E h => ?_) (fun cdv A outer s H vs Q E hr h => ?_)
  · obtain ⟨c, m, rfl, _⟩ := h
    rfl
  · obtain ⟨c, m, rfl, c10, q⟩ := h
    refine ⟨_, (Evl.pss_cut (ps_set (i := 2) scTup.nd rfl (.inl rfl) (pe_lstN (pa_cons (pe_tupN pa_nil) pa_nil)))
      (Evl.pss_cut (ps_for PassesOwn.never rfl (pi_range1 (by rfl) T.z_range (pa_cons (pv 0) pa_nil)) (pg_name (i := 3) scTup.nd rfl (.inr rfl)) (pss_one (ps_set (i := 2) scTup.nd rfl (.inl rfl) (pe_op op_catN (pv 2) (pe_lc (own := [("some", 4)]) (g := (gName 4))  rfl scTup.nd (pi_list (pv 2)) (blkOk_by (N := nTup) (sc := defScope sTup) (by decide +kernel)) (fun _ _ _ _ _ => (pg_name (i := 4) scTup.nd rfl (.inl rfl))) (fun _ _ _ _ _ => (pts_one (pt_cmpR op_lt (pe_callB (call_len_seqB (K := K) rfl) (by rfl) T.z_len (by decide +kernel) (pa_cons (pv 4) pa_nil)) (pv 1) (nomark _)))) (fun _ _ _ _ _ => (pe_op op_catTN (pv 4) (pe_tupN (pa_cons (pv 3) pa_nil)))))))))
      (pss_one (ps_ret (pe_callB Stu.cr_sortTA (by rfl) T.z_sorted (by decide +kernel) (pa_cons (pe_lc (own := [("some", 4)]) (g := (gName 4))  rfl scTup.nd (pi_list (pv 2)) (blkOk_by (N := nTup) (sc := defScope sTup) (by decide +kernel)) (fun _ _ _ _ _ => (pg_name (i := 4) scTup.nd rfl (.inl rfl))) (fun _ _ _ _ _ => (pts_one (pt_cmpR op_eq (pe_callB (call_len_seqB (K := K) rfl) (by rfl) T.z_len (by decide +kernel) (pa_cons (pv 4) pa_nil)) (pv 1) (nomark _)))) (fun _ _ _ _ _ => (pv 4))) pa_nil)))))), ?_⟩
    refine Evl.q_cut (M := fun σ' G => ∃ (L : Addr) (ws : List V), σ' = [some (.int (c : Nat)), some (.int (m : Nat)), some (.ref L), none, none] ∧ Same H G ∧ G L = some (.lst ws) ∧ TNs G ws (tps m 0)) ?_ ?_
    · refine ⟨Nat.zero_le _, fun a H1 na s1 ha _ => ⟨by show 1 ≤ sizeLine; decide, fun L H2 nL s2 hL _ => ?_⟩⟩
      exact ⟨L, _, rfl, s1.trans s2, hL, TNs.snoc (.nil) ⟨a, rfl, s2 _ _ ha⟩⟩
    rintro σ' H1 ⟨L, ws, rfl, s1, hL, tn⟩
    refine Evl.q_cut (M := fun σ' G => ∃ (L : Addr) (ws : List V) (y3 : Option V), σ' = [some (.int (c : Nat)), some (.int (m : Nat)), some (.ref L), y3, none] ∧ Same H G ∧ G L = some (.lst ws) ∧ TNs G ws (tps m c)) ?_ ?_
    · refine ⟨_, rfl, (c : Nat), rfl, by omega, by omega, for_range (n := ((c : Nat) : Int).toNat) (Pv := fun i σ G => ∃ (L : Addr) (ws : List V) (y3 : Option V), σ = [some (.int (c : Nat)), some (.int (m : Nat)), some (.ref L), y3, none] ∧ Same H G ∧ G L = some (.lst ws) ∧ TNs G ws (tps m i)) ?_ ?_ ?_⟩
      · exact ⟨L, ws, none, rfl, s1, hL, tn⟩
      · clear hL tn s1 ws L H1
        rintro i σ H1 hi ⟨L, ws, y3, rfl, s1, hL, tn⟩
        have hi : i < c := by omega
        rw [show (0 : Int) + (i : Int) = (i : Int) from Int.zero_add _]
        have lt0 := len_tps m i
        refine ⟨_, rfl, _, rfl, L, rfl, ⟨_, .of hL⟩, fun D nD => ?_⟩
        have hLD : D ≠ L := Ne.symm (ne_of_none hL nD)
        refine lc_list (xs := ws) (Pv := fun u G => Same H1 G ∧ ∃ acc, G D = some (.lst acc) ∧ TNs G acc ((((tps m i).take u).filter fun t => decide (t.length < m)).map (· ++ [i]))) ⟨same_new nD, [], upd_same, .nil⟩ (fun u G _ p => .of (p.1 _ _ hL)) ?_ ?_
        · rintro u x G hx ⟨sG, acc, hD, ta⟩
          obtain ⟨t, ht, a, rfl, ha⟩ := tn.at hx
          have haG := sG _ _ ha
          have tk : (tps m i).take (u + 1) = (tps m i).take u ++ [t] := by
            rw [List.take_add_one, ht]
            rfl
          have lt := (List.getElem?_eq_some_iff.mp ht).1
          have lacc : acc.length ≤ u := by
            have h1 := ta.1
            have h2 := List.length_filter_le (fun t : List Nat => decide (t.length < m)) ((tps m i).take u)
            rw [List.length_map] at h1
            rw [List.length_take] at h2
            omega
          refine ⟨rfl, _, rfl, a, _, rfl, .inr (.of haG), _, rfl, _, _, rfl, rfl, _, rfl, ite2 (fun y1 => ?_) (fun y1 => ?_)⟩
          · have y1 : t.length < m := by
              have := of_decide_eq_true y1
              rw [List.length_map] at this
              omega
            refine ⟨_, rfl, _, rfl, by show 1 ≤ sizeLine; decide, fun b G4 nb s4 hb _ => ?_⟩
            have lt2 : t.length ≤ 10 := by
              have mt := mem_tps.mp (List.mem_of_getElem? ht)
              have := len_lt mt.2.1 mt.2.2
              omega
            refine ⟨a, b, _, _, rfl, rfl, s4 _ _ haG, hb, ?_, fun r G5 s5 hr' => ?_⟩
            · rw [List.length_map]
              exact Nat.le_of_lt (small1000 (show t.length + 1 ≤ 1000 by omega))
            have s45 := s4.trans s5
            have hD5 := s45 _ _ hD
            refine ⟨acc, hD5, big c10 (Nat.le_trans lacc (Nat.le_trans (Nat.le_of_lt lt) (Nat.le_trans lt0 (Nat.pow_le_pow_right (by decide) (by omega))))), same_wr (sG.trans s45) nD, _, upd_same, ?_⟩
            rw [tk, List.filter_append, List.map_append, List.filter_cons_of_pos (by exact decide_eq_true y1)]
            exact ((ta.ke (Ke.same (F := Nof) s45)).snoc ⟨r, rfl, by rw [hr', List.map_append]; rfl⟩).wr hD5
          · refine ⟨sG, acc, hD, ?_⟩
            have y1 : ¬ t.length < m := fun z => y1 (decide_eq_true (by rw [List.length_map]; omega))
            rw [tk, List.filter_append, List.filter_cons_of_neg (by rw [decide_eq_false y1]; decide), List.filter_nil, List.append_nil]
            exact ta
        · rintro G ⟨sG, acc, hD, ta⟩
          rw [tn.1, List.take_length] at ta
          have hLG := sG _ _ hL
          have tot : (tps m (i + 1)).length = ws.length + acc.length := by
            show (tps m i ++ _).length = _
            rw [List.length_append, ← tn.1, ← ta.1]
          have lt1 := len_tps m (i + 1)
          refine ⟨L, D, _, _, rfl, rfl, hLG, hD, ?_, fun R G2 nR s2 hR _ => ?_⟩
          · rw [← tot]
            exact Nat.le_of_lt (big c10 (Nat.le_trans lt1 (Nat.pow_le_pow_right (by decide) (by omega))))
          · refine ⟨R, _, _, rfl, s1.trans (sG.trans s2), hR, of_paired ?_⟩
            exact app_paired (paired_of (tn.ke (Ke.same (F := Nof) (sG.trans s2)))) (paired_of (ta.ke (Ke.same (F := Nof) s2)))
      · rintro σ G ⟨L, ws, y3, rfl, s1, hL, tn⟩
        exact ⟨L, ws, y3, rfl, s1, hL, tn⟩
    rintro σ' H2 ⟨L, ws, y3, rfl, s2, hL, tn⟩
    have lt0 := len_tps m c
    refine ⟨_, rfl, L, rfl, ⟨_, .of hL⟩, fun D nD => ?_⟩
    refine lc_list (xs := ws) (Pv := fun u G => Same H2 G ∧ ∃ acc, G D = some (.lst acc) ∧ TNs G acc (((tps m c).take u).filter fun t => decide (t.length = m))) ⟨same_new nD, [], upd_same, .nil⟩ (fun u G _ p => .of (p.1 _ _ hL)) ?_ ?_
    · rintro u x G hx ⟨sG, acc, hD, ta⟩
      obtain ⟨t, ht, a, rfl, ha⟩ := tn.at hx
      have haG := sG _ _ ha
      have tk : (tps m c).take (u + 1) = (tps m c).take u ++ [t] := by
        rw [List.take_add_one, ht]
        rfl
      have lt := (List.getElem?_eq_some_iff.mp ht).1
      have lacc : acc.length ≤ u := by
        have h1 := ta.1
        have h2 := List.length_filter_le (fun t : List Nat => decide (t.length = m)) ((tps m c).take u)
        rw [List.length_take] at h2
        omega
      refine ⟨rfl, _, rfl, a, _, rfl, .inr (.of haG), _, rfl, rfl, _, rfl, ite2 (fun y1 => ?_) (fun y1 => ?_)⟩
      · have y1 : t.length = m := by
          have := V.int.inj (of_decide_eq_true y1)
          rw [List.length_map] at this
          omega
        refine ⟨_, rfl, acc, hD, big c10 (Nat.le_trans lacc (Nat.le_trans (Nat.le_of_lt lt) lt0)), same_wr sG nD, _, upd_same, ?_⟩
        rw [tk, List.filter_append, List.filter_cons_of_pos (by exact decide_eq_true y1)]
        exact (ta.snoc ⟨a, rfl, haG⟩).wr hD
      · refine ⟨sG, acc, hD, ?_⟩
        have y1 : ¬ t.length = m := fun z => y1 (decide_eq_true (by rw [List.length_map, z]))
        rw [tk, List.filter_append, List.filter_cons_of_neg (by rw [decide_eq_false y1]; decide), List.filter_nil, List.append_nil]
        exact ta
    · rintro G ⟨sG, acc, hD, ta⟩
      rw [tn.1, List.take_length] at ta
      have me : ∀ t, t ∈ (tps m c).filter (fun t => decide (t.length = m)) ↔ t ∈ rise c m := fun t => by
        rw [List.mem_filter, mem_tps, mem_rise]
        constructor
        · rintro ⟨⟨_, h2, h3⟩, h4⟩
          exact ⟨of_decide_eq_true h4, h2, h3⟩
        · rintro ⟨h1, h2, h3⟩
          exact ⟨⟨Nat.le_of_eq h1, h2, h3⟩, decide_eq_true h1⟩
      have nd := (nd_tps m c).filter fun t => decide (t.length = m)
      generalize (tps m c).filter (fun t => decide (t.length = m)) = T0 at me nd ta
      refine ⟨D, acc, m, 16, rfl, .of hD, fun h2 => ?_, fun x hx => ?_, fun ys p pm pw np => ?_⟩
      · refine Nat.pos_of_ne_zero fun z => ?_
        have l := ta.1
        match T0, nd, me, l with
        | [], _, _, l => rw [l] at h2; exact absurd h2 (by decide)
        | [_], _, _, l => rw [l] at h2; exact absurd h2 (by simp)
        | a :: b :: r, nd, me, _ =>
          have e1 := (mem_rise.mp ((me a).mp List.mem_cons_self)).1
          have e2 := (mem_rise.mp ((me b).mp (List.mem_cons_of_mem _ List.mem_cons_self))).1
          rw [z] at e1 e2
          rw [List.length_eq_zero_iff.mp e1, List.length_eq_zero_iff.mp e2] at nd
          simp at nd
      · obtain ⟨i, hi⟩ := List.getElem?_of_mem hx
        obtain ⟨t, ht, tt⟩ := ta.at hi
        have mr := mem_rise.mp ((me t).mp (List.mem_of_getElem? ht))
        exact ⟨cst t, tupN_I tt, by rw [List.length_map, mr.1], bd_cst (B := 16) fun n hn => by
          have := mr.2.2 n hn
          omega⟩
      · obtain ⟨us, pu, py⟩ := perm_paired pm (paired_of ta)
        have sp : Same G (upd G p (.lst ys)) := same_new np
        exact q p ys us _ (s2.trans (sG.trans sp)) upd_same ((of_paired py).ke (Ke.same (F := Nof) sp)) ⟨fun t => (pu.mem_iff).trans (me t), pu.nodup_iff.mpr nd, pw_code py pw⟩
theorem keys_list {R : List (List Nat)} : ∀ {kvs : List (List Key × V)}, (∀ k v, (k, v) ∈ kvs → ∃ t ∈ R, k = kN t) → ∃ K0 : List (List Nat), kvs.map (·.1) = K0.map kN ∧ ∀ t ∈ K0, t ∈ R
  | [], _ => ⟨[], rfl, fun t h => nomatch h⟩
  | (k, v) :: r, h => by
    obtain ⟨t, mt, e⟩ := h k v List.mem_cons_self
    obtain ⟨K0, e0, m0⟩ := keys_list (kvs := r) fun k v hk => h k v (List.mem_cons_of_mem _ hk)
    refine ⟨t :: K0, by rw [List.map_cons, List.map_cons, e0, e], fun x hx => ?_⟩
    rcases List.mem_cons.mp hx with z | z
    · rw [z]
      exact mt
    · exact m0 x z
theorem keys_paired {H : Hp} : ∀ {kvs : List (List Key × V)} {bs : List Addr} {K0 : List (List Nat)}, IsKeys H kvs bs → kvs.map (·.1) = K0.map kN → Paired (TupN H) (bs.map V.ref) K0
  | [], [], [], .nil, _ => .nil
  | [], [], _ :: _, .nil, e => by cases e
  | _ :: _, _ :: _, [], .cons _ _, e => by cases e
  | p :: _, b :: _, t :: _, .cons h r, e => by
    obtain ⟨e1, e2⟩ := List.cons.inj e
    exact .cons ⟨b, rfl, by rw [h, show p.1 = kN t from e1, kN_v]⟩ (keys_paired r e2)
end
end Tab42
namespace Dtx
open PySem PySem.Spec PyProof.Rows L2
/-! ### dicts with tuples as keys: dict(d), dict(pairs), pop, unlike (k43) -/
section
variable {prog : Program} {w : World} {K : Type} [DecidableEq K] {knd : HeapKind prog w K} {A : Around} {E : Value → Shared → Prop} {s : Shared}
abbrev fresh0 (h : Heap) : Heap := h.push { cls := .type "dict", data := .dict #[] }
/-- a copy: no two keys of equal hash -/
theorem copyT {a : Addr} {xs : List (K × Addr × Value)} {Q : Value → Shared → Prop} (hu : knd.room A.in1.in1) (na : (a == sysModules) = false) (dd : s.heap.DictOfH knd a xs) (z : xs.length ≤ sizeLine)
    (ty : ∀ x ∈ xs, ∃ o, s.heap.get? x.2.1 = some o ∧ o.cls = .type "tuple") (ap : (xs.map fun x => knd.hash x.1).Nodup) (kp : ∀ x ∈ xs, ∀ h', (∀ b o, s.heap.get? b = some o → h'.get? b = some o) → knd.is h' x.1 x.2.1)
    (q : ∀ h', h'.DictOfH knd s.heap.objs.size xs → (∀ b o, s.heap.get? b = some o → h'.get? b = some o) → Q (.ref s.heap.objs.size) { s with heap := h' }) :
    wpAny (model prog w) A (call (.type "dict") [.ref a]) Q E s := by
  have up : ∀ b o, s.heap.get? b = some o → (fresh0 s.heap).get? b = some o := fun b o e => Heap.get?_push_of_some _ e
  have nw : (fresh0 s.heap).DictOfH knd s.heap.objs.size [] := Heap.DictOfH.new s.heap
  obtain ⟨o, es, ep, g1, g2, g3, g4, g5, g6⟩ := id dd
  have la := Heap.lt_size g1
  have dd1 : (fresh0 s.heap).DictOfH knd a xs := ⟨o, es, ep, up _ _ g1, g2, g3, g4, fun x hx => kp x hx _ up, g6⟩
  refine callType_codes
    (Q₁ := fun b t => b = .ref s.heap.objs.size ∧ t = { s with heap := fresh0 s.heap })
    PySem.F.kt_called_dict (PySem.F.kt_typeCall_dict_1 _)
    PySem.F.entry_dict_init (kt_code_dict_new _ ⟨rfl, rfl⟩) ?_
  rintro b t ⟨rfl, rfl⟩
  refine ⟨nw.typeIs, PySem.F.args_dict_init_2 _ _, ?_⟩
  unfold Builtin.«dict.__init__» Builtin.Dict.selfAndRest
  refine wpAny_bind (wpAny_bind (wpAny_notOrdered_dict nw.typeIs ?_))
  refine wpAny_pure (updateFrom_dictH (A := A.in1) .none hu (Nat.ne_of_gt la) na nw dd1 (.inr ⟨fun x hx => ?_, ap⟩) ?_ fun h' d1 _ sb => ?_)
  · obtain ⟨o, e, c⟩ := ty x hx
    exact ⟨o, up _ _ e, c⟩
  · rw [List.length_nil, Nat.zero_add]
    exact z
  · rw [storedAllH_nil_of_nodup _ g6] at d1
    exact ⟨rfl, q h' d1 fun b o e => (sb.2 b (Nat.ne_of_lt (Heap.lt_size e))).trans (up b o e)⟩
/-- two dicts with the same entries, their values things that are the same object -/
theorem alikeT {nm : String} {a b : Addr} {xs ys : List (K × Addr × Value)} {Q : Bool → Shared → Prop} (hu : knd.room A) (na : (a == sysModules) = false) (nb : (b == sysModules) = false) (da : s.heap.DictOfH knd a xs) (db : s.heap.DictOfH knd b ys)
    (hm : (xs.map fun x => (x.1, x.2.2)) = ys.map fun x => (x.1, x.2.2)) (rf : ∀ x ∈ xs, ∃ c, x.2.2 = Value.ref c) (q : Q true s) : wpAny (model prog w) A (Builtin.Dict.samePairs nm a b) Q E s := by
  obtain ⟨o, es, ep, g1, g2, g3, g4, g5, g6⟩ := da
  obtain ⟨o', es', ep', f1, f2, f3, f4, f5, f6⟩ := db
  have l1 := size_of_entries g4
  have l2 := size_of_entries f4
  have l3 := congrArg List.length hm
  rw [List.length_map, List.length_map] at l3
  unfold Builtin.Dict.samePairs Builtin.Dict.showsAll
  rw [if_neg (by rw [na]; decide), if_neg (by rw [nb]; decide)]
  refine wpAny_bind (wpAny_pure (wpAny_bind (wpAny_pure (wpAny_bind (wpAny_dictEntries g1 g3 ?_)))))
  dsimp only
  refine wpAny_bind (wpAny_dictEntries f1 f3 ?_)
  rw [if_neg (by rw [l1, l2, l3]; simp)]
  refine wpAny_bind (wpAny_dictEpoch g1 g3 (wpAny_bind ?_))
  rw [Std.Legacy.Range.forIn_eq_forIn_range']
  simp only [Std.Legacy.Range.size, Nat.sub_zero, Nat.add_sub_cancel, Nat.div_one]
  refine wpAny_forIn_list _ (fun rest r u => u = s ∧ r = (none, ()) ∧ ∀ i ∈ rest, i < xs.length) _ ?_ ?_ _ _ ⟨rfl, rfl, fun i hi => ?_⟩
  · rintro i rest r u ⟨rfl, rfl, al⟩
    have li := al i List.mem_cons_self
    obtain ⟨⟨k, c, v⟩, hx⟩ : ∃ x, xs[i]? = some x := ⟨xs[i], List.getElem?_eq_getElem li⟩
    have mx := List.mem_of_getElem? hx
    obtain ⟨d, rfl⟩ : ∃ d, v = Value.ref d := rf _ mx
    have li' : i < ys.length := by omega
    have hy : ∃ c', ys[i]? = some (k, c', Value.ref d) := by
      have e : ((xs.map fun x => (x.1, x.2.2))[i]?) = ((ys.map fun x => (x.1, x.2.2))[i]?) := by rw [hm]
      rw [List.getElem?_map, List.getElem?_map, hx, List.getElem?_eq_getElem li'] at e
      have e := Option.some.inj e
      refine ⟨ys[i].2.1, ?_⟩
      rw [List.getElem?_eq_getElem li']
      rcases ey : ys[i] with ⟨k', c', v'⟩
      rw [ey] at e
      cases e
      rfl
    obtain ⟨c', hy⟩ := hy
    refine wpAny_bind (wpAny_dictEntries g1 g3 ?_)
    rw [entry_at g4, hx]
    show wpAny _ _ (holding [.ref c, .ref d] _ >>= _) _ _ _
    refine wpAny_bind (wpAny_holding (wpAny_bind (wpAny_dictFind_heap hu (g5 _ mx) f1 f3 f4 f5 f6 (fun no => absurd hy (no i _)) fun j p hj => ?_)))
    refine wpAny_bind (wpAny_dictEntries f1 f3 ?_)
    rw [entry_at f4, hj]
    obtain rfl : p = (c', Value.ref d) := by
      have e1 := atKey_of_get f6 hj
      rw [atKey_of_get f6 hy] at e1
      exact (Option.some.inj e1).symm
    dsimp only
    refine wpAny_holding ?_
    unfold eqBool
    refine wpAny_holding ?_
    rw [if_pos (by simp [entryOfKey])]
    refine wpAny_bind (wpAny_rule (wpAny_pure ?_))
    rw [if_neg (by decide)]
    refine wpAny_bind (wpAny_dictEpoch g1 g3 ?_)
    rw [if_neg (by simp)]
    exact wpAny_pure ⟨rfl, rfl, fun j hj => al j (List.mem_cons_of_mem _ hj)⟩
  · rintro r u ⟨rfl, rfl, _⟩
    exact wpAny_pure q
  · rw [List.mem_range'_1] at hi
    omega
theorem unlikeT {a b : Addr} {xs ys : List (K × Addr × Value)} {Q : Value → Shared → Prop} (hu : knd.room A.in1) (ru : A.units < cLine) (na : (a == sysModules) = false) (nb : (b == sysModules) = false) (da : s.heap.DictOfH knd a xs) (db : s.heap.DictOfH knd b ys)
    (hm : (xs.map fun x => (x.1, x.2.2)) = ys.map fun x => (x.1, x.2.2)) (rf : ∀ x ∈ xs, ∃ c, x.2.2 = Value.ref c) (q : Q (.bool false) s) : wpAny (model prog w) A (compareOp .NotEq (.ref a) (.ref b)) Q E s := by
  refine wpAny_richCompare_same_room (op := .NotEq) da.typeIs db.typeIs PySem.F.slot_dict_ne
    (wpAny_call_entry PySem.F.slot_dict_ne da.typeIs PySem.F.entry_dict_ne ?_
      (PySem.F.args_dict_ne_2 _ _)) ru
  refine wpAny_bind ?_
  unfold Builtin.Dict.dictSlotArgs
  refine wpAny_bind (wpAny_notOrdered_dict da.typeIs (wpAny_pure (wpAny_bind (wpAny_isInstance (T := "dict") db.typeIs PySem.F.sub_dict_dict ?_))))
  simp only [Bool.not_true, Bool.false_eq_true, if_false]
  refine wpAny_bind (wpAny_pure (wpAny_bind (wpAny_pure (wpAny_bind (alikeT hu na nb da db hm rf ?_)))))
  exact wpAny_pure ⟨_, rfl, (fun x => nomatch x), by simpa using q⟩
end
section
variable {X : Cx}
theorem keys_tup {pins : List (Addr × Obj)} {σ : L2.St} {H : Hp} {s : Shared} (I : L2.Inv X pins σ H s) {kvs : List (List Key × V)} {xs : List (List Key × Addr × Value)} (r : KT H kvs xs) : ∀ x ∈ xs, H x.2.1 = some (.tup (x.1.map kV)) := fun x hx => by
  obtain ⟨p, hp, hH, e⟩ : ∃ p ∈ kvs, H x.2.1 = some (.tup (p.1.map kV)) ∧ p.1 = x.1 := by
    clear I
    induction r with
    | nil => exact nomatch hx
    | @cons p y ps ys h _ ih =>
      rcases List.mem_cons.mp hx with e | hx
      · subst e
        exact ⟨p, List.mem_cons_self, h.2.1, h.1⟩
      · obtain ⟨p', m, z⟩ := ih hx
        exact ⟨p', List.mem_cons_of_mem _ m, z⟩
  rw [← e]
  exact hH
/-- dict(d) -/
theorem cr_copyT (hu : X.A.units + 4 < cLine) : CallR X (.type "dict") (fun xs H Q => ∃ (a : Addr) (kvs : List (List Key × V)), xs = [.ref a] ∧ H a = some (.dT kvs) ∧ ((kvs.map (·.1)).Nodup → (kvs.map fun p => tupleKeyHash (mixKind X.prog X.w) p.1).Nodup) ∧ ((kvs.map (·.1)).Nodup → ∀ p, H p = none → Q (.ref p) (upd H p (.dT kvs)))) := by
  intro pins s σ H xs us Q I r h
  obtain ⟨a, kvs, rfl, ha, ap, q⟩ := h
  obtain ⟨u, rfl, rx⟩ := vals1 r
  cases rx
  obtain ⟨z, hd, xs, rel, dd⟩ := dt_of I.hok ha
  have kt := keys_tup I rel
  have lx : xs.length ≤ sizeLine := Paired.length rel ▸ z
  have ek : kvs.map (·.1) = xs.map (·.1) := Stu.keys_eq rel
  have nk : (kvs.map (·.1)).Nodup := by
    obtain ⟨_, _, _, _, _, _, _, _, g⟩ := id dd
    rw [ek]
    exact g
  have ap := ap nk
  refine copyT (knd := tupleKind (mixKind X.prog X.w)) (show _ < cLine from ?_) hd dd lx (fun x hx => ?_) ?_ (fun x hx h' up => ?_) fun h' d1 up => ?_
  · show X.A.units + 1 + 1 < cLine
    omega
  · obtain ⟨o, its, n, h1, h2, _⟩ := key_of I.hok (kt x hx)
    exact ⟨o, h1, h2⟩
  · have e1 : (kvs.map fun p => tupleKeyHash (mixKind X.prog X.w) p.1) = (kvs.map (·.1)).map (tupleKeyHash (mixKind X.prog X.w)) := by
      rw [List.map_map]
      rfl
    rw [e1, ek, List.map_map] at ap
    exact ap
  · obtain ⟨o, its, n, h1, h2⟩ := key_of I.hok (kt x hx)
    exact ⟨o, its, n, up _ _ h1, h2⟩
  · obtain ⟨o, es, ep, g1, g2, g3, g4, _, g6⟩ := d1
    have fr : H s.heap.objs.size = none := I.hok.fresh (Nat.le_refl _)
    have nm : (s.heap.objs.size == sysModules) = false := beq_eq_false_iff_ne.mpr (Nat.ne_of_gt I.big)
    refine ⟨.ref s.heap.objs.size, upd H s.heap.objs.size (.dT kvs), I.laid (t' := s.toks) up (Nat.le_refl _) ?_, rfl, q nk _ fr⟩
    exact ⟨z, nm, xs, rel.keeps fun b ys e => by rw [upd_ne (fun y => by rw [y, fr] at e; cases e)]; exact e, o, es, ep, g1, g2, g3, g4, g6⟩
/-- a != b of two dicts with the same entries -/
theorem op_neT (hu : X.A.units + 2 < cLine) : OpR X (compareOp .NotEq) (fun x y H Q => ∃ (a b : Addr) (kvs : List (List Key × V)), x = .ref a ∧ y = .ref b ∧ H a = some (.dT kvs) ∧ H b = some (.dT kvs) ∧ (∀ p ∈ kvs, ∃ c, p.2 = .ref c) ∧ Q (.bl false) H) := by
  intro pins s σ H x y v u Q I rx ry h
  obtain ⟨a, b, kvs, rfl, rfl, ha, hb, rf, q⟩ := h
  obtain rfl : v = Value.ref a := rx
  obtain rfl : u = Value.ref b := ry
  obtain ⟨za, na, xs, ra, da⟩ := dt_of I.hok ha
  obtain ⟨zb, nb, ys, rb, db⟩ := dt_of I.hok hb
  have same : ((xs.map fun x => (x.1, x.2.2)) = ys.map fun x => (x.1, x.2.2)) ∧ ∀ x ∈ xs, ∃ c, x.2.2 = Value.ref c := by
    clear da db ha hb q na nb I za zb
    induction ra generalizing ys with
    | nil =>
      cases rb
      exact ⟨rfl, fun _ m => nomatch m⟩
    | @cons p x ps xs h _ ih =>
      cases rb with
      | @cons _ y _ ys h' t' =>
        obtain ⟨i1, i2⟩ := ih (fun p m => rf p (List.mem_cons_of_mem _ m)) _ t'
        obtain ⟨c, ec⟩ := rf p List.mem_cons_self
        have e1 := h.2.2
        have e2 := h'.2.2
        rw [ec] at e1 e2
        have e1 : x.2.2 = Value.ref c := e1
        have e2 : y.2.2 = Value.ref c := e2
        refine ⟨?_, fun z m => ?_⟩
        · rw [List.map_cons, List.map_cons, i1, e1, e2, ← h.1, ← h'.1]
        · rcases List.mem_cons.mp m with e | m
          · exact ⟨c, e ▸ e1⟩
          · exact i2 z m
  refine unlikeT (knd := tupleKind (mixKind X.prog X.w)) (show X.A.units + 1 < cLine by omega) (by omega) na nb da db same.1 same.2 ?_
  exact ⟨.bl false, H, I, rfl, q⟩
/-- d.pop(k), k there -/
theorem mt_pop1T (hu : X.A.units + 1 < cLine) : MtR X "dict.pop" (fun x xs H Q => ∃ (a b : Addr) (kvs : List (List Key × V)) (k : List Key) (v : V), x = .ref a ∧ xs = [.ref b] ∧ H a = some (.dT kvs) ∧ H b = some (.tup (k.map kV)) ∧ valV kvs k = some v ∧ Q v (upd H a (.dT (dropK kvs k)))) := by
  intro pins s σ H x xs v us Q I rx rxs h
  obtain ⟨a, b, kvs, k, y, rfl, rfl, ha, hb, hv, q⟩ := h
  cases rx
  obtain ⟨u, rfl, r1⟩ := vals1 rxs
  cases r1
  obtain ⟨z, hd, ys, rel, dd⟩ := dt_of I.hok ha
  have lz : ys.length ≤ sizeLine := Paired.length rel ▸ z
  have rv := rel.val k
  rw [hv] at rv
  obtain ⟨p, hp, rp⟩ : ∃ p, atKey ys k = some p ∧ RelV y p.2 := by
    cases e : atKey ys k with
    | none =>
      rw [e] at rv
      exact (show False from rv).elim
    | some p =>
      rw [e] at rv
      exact ⟨p, rfl, rv⟩
  refine call_pop_heap (knd := tupleKind (mixKind X.prog X.w)) (more := []) (hsz := lz) (.inl rfl) (PySem.F.args_dict_pop_2 _ _) (tupleKind_room_in1 hu) (key_of I.hok hb) hd dd hp fun h' d1 sb => ?_
  obtain ⟨o, es, ep, g1, g2, g3, g4, _, g6⟩ := d1
  have wx : withoutH ys k = DT.dropH ys k := rfl
  rw [wx] at g4 g6
  refine ⟨y, upd H a (.dT (dropK kvs k)), d_write I (by rw [ha]; exact True.intro) sb ⟨o, g1⟩ ⟨Nat.le_trans (dropK_le kvs k) z, hd, _, ?_, o, es, ep, g1, g2, g3, g4, g6⟩, rp, q⟩
  exact (L2.DX.KT_drop k rel).keeps fun c zs ec => by
    rw [upd_ne (ne_of ec ha fun z => nomatch z)]
    exact ec
/-- {k: v}, k a tuple -/
def tDisT (trs : List (TE × TE)) : TE := fun σ H Q => ∀ p, H p = none → tPairs trs σ (upd H p (.dT [])) fun ps G => G p = some (.dT []) ∧ ∃ (b : Addr) (k : List Key) (y : V), ps = [(.ref b, y)] ∧ G b = some (.tup (k.map kV)) ∧ Q (.ref p) (upd G p (.dT [(k, y)]))
theorem pe_disT {pos : Pos} {keys : List (Option Expr)} {values : List Expr} {trs : List (TE × TE)} (hu : X.A.units < cLine) (h : PPs X pos keys values trs) (hall : keys.all (·.isSome) = true) (hl : keys.length = values.length) (h0 : keys ≠ []) (h15 : keys.length ≤ 15) :
    PE X (.Dict keys values pos) (tDisT trs) := by
  refine ⟨fun pins s σ H Q I q => ?_⟩
  have fr := I.hok.fresh (Nat.le_refl s.heap.objs.size)
  have I1 := I.laid (a := s.heap.objs.size) (o := .dT []) (h' := fresh0 s.heap) (t' := s.toks) (fun _ _ q => Heap.get?_push_of_some _ q) (Nat.le_refl _) (dt_empty s.heap I.big)
  have n := pairTrees_length keys values X.env pos hall hl
  have l0 : 0 < keys.length := List.length_pos_iff.mpr h0
  rw [arm_eval_Dict, zip_pairTrees keys values X.env pos hall hl, dictDisplay_pairs _ (fun z => by rw [z] at n; simp at n; omega) (by omega)]
  refine wpAny_bind (wpAny_standAt (wpAny_bind (wpAny_subDictH (knd := tupleKind (mixKind X.prog X.w)) hu (by rw [n]; exact h15) ?_)))
  refine thn (h.run pins _ σ _ _ I1 (q _ fr)) fun ws s2 ⟨ps, G, I2, rel, e, b, k, y, ep, hb, q2⟩ => ?_
  subst ep
  cases rel with
  | @cons _ wv _ r1 h1 t1 =>
    cases t1
    obtain ⟨u1, u2⟩ := wv
    obtain ⟨e1, e2⟩ := h1
    have e1 : u1 = Value.ref b := e1
    subst e1
    obtain ⟨z, hd, xs, r0, dd⟩ := dt_of I2.hok e
    cases r0
    refine ⟨[(k, b, u2)], ⟨rfl, rfl, key_of I2.hok hb, trivial⟩, dd, fun h' tk d1 sb => wpAny_pure ?_⟩
    obtain ⟨o, es, ep, g1, g2, g3, g4, _, g6⟩ := d1
    refine ⟨.ref s.heap.objs.size, upd G s.heap.objs.size (.dT [(k, y)]), d_write I2 (by rw [e]; exact True.intro) sb ⟨o, g1⟩ ⟨by show 1 ≤ sizeLine; decide, hd, [(k, b, u2)], .cons ⟨rfl, ?_, e2⟩ .nil, o, es, ep, g1, g2, g3, g4, g6⟩, rfl, q2⟩
    rw [upd_ne (fun w => by have w : b = s.heap.objs.size := w; rw [w, e] at hb; cases hb)]
    exact hb
/-- dict(l) of a list of pairs with unlike tuples first -/
theorem cr_pairsT (hc : X.calm = true) (hu : X.A.units + 4 < cLine) : CallR X (.type "dict") (fun xs H Q => ∃ (a : Addr) (ps : List Addr) (kvs : List (List Key × V)), xs = [.ref a] ∧ SqL X.K H a (ps.map V.ref) ∧
    Paired (fun p kv => ∃ b, SqT X.K H p [.ref b, kv.2] ∧ H b = some (.tup (kv.1.map kV))) ps kvs ∧ (kvs.map (·.1)).Nodup ∧ ∀ p, H p = none → Q (.ref p) (upd H p (.dT kvs))) := by
  intro pins s σ H xs us Q I r h
  obtain ⟨a, ps, kvs, rfl, hq, hp, nd, q⟩ := h
  obtain ⟨u, rfl, rx⟩ := vals1 r
  cases rx
  obtain ⟨its, rv, pl, hz⟩ := I.list hq
  have ei := refs_at rv
  subst ei
  rw [List.length_map] at hz
  have lp := hp.length
  obtain ⟨ys, rel, hy⟩ : ∃ ys : List (List Key × Addr × Value), KT H kvs ys ∧ ∀ (j : Nat) (y : List Key × Addr × Value), ys[j]? = some y → ∃ c, ps[j]? = some c ∧ IsTup s.heap c #[.ref y.2.1, y.2.2] := by
    clear nd q hq rv pl hz lp
    induction hp with
    | nil => exact ⟨[], .nil, fun j y e => by simp at e⟩
    | @cons c kv ps kvs h _ ih =>
      obtain ⟨ys, r, h2⟩ := ih
      obtain ⟨b, hc, hb⟩ := h
      obtain ⟨its, rv, ht, _⟩ := I.tuple hc
      obtain ⟨u1, u2, e, r1, r2⟩ := vals2 rv
      subst e
      have r1 : u1 = Value.ref b := r1
      subst r1
      refine ⟨(kv.1, b, u2) :: ys, .cons ⟨rfl, hb, r2⟩ r, fun j y e => ?_⟩
      cases j with
      | zero =>
        cases e
        exact ⟨c, rfl, ht⟩
      | succ j => exact h2 j y (by simpa using e)
  have ly : ys.length = ps.length := by rw [← rel.length, lp]
  obtain ⟨o, n, ho, hcl, hdi, hdat⟩ := pl
  have kt := keys_tup I rel
  have ek : kvs.map (·.1) = ys.map (·.1) := Stu.keys_eq rel
  have keep : ∀ x ∈ ys, ∀ h', (∀ b o, b ≠ s.heap.objs.size → b ∉ ([] : List Addr) → s.heap.get? b = some o → h'.get? b = some o) → (tupleKind (mixKind X.prog X.w)).is h' x.1 x.2.1 := fun x hx h' up => by
    obtain ⟨o, its, n, h1, h2⟩ := key_of I.hok (kt x hx)
    exact ⟨o, its, n, up _ _ (Nat.ne_of_lt (Heap.lt_size h1)) (fun m => nomatch m) h1, h2⟩
  have fr : H s.heap.objs.size = none := I.hok.fresh (Nat.le_refl _)
  have nm : (s.heap.objs.size == sysModules) = false := beq_eq_false_iff_ne.mpr (Nat.ne_of_gt I.big)
  let prs : List (Value × Value) := ys.map fun y => (Value.ref y.2.1, y.2.2)
  have lpr : prs.length = ps.length := by
    show (ys.map _).length = _
    rw [List.length_map, ly]
  refine call_dict_pairsH (knd := tupleKind (mixKind X.prog X.w)) (ps := ys) (PairArg.list a ((ps.map Value.ref).toArray) (fun j => ps.getD j 0) prs) (I.ok.hd hc) (show X.A.units + 1 + 1 < cLine by omega) ⟨⟨o, n, ho, hcl, hdi, hdat⟩, ?_, fun j k v e => ?_⟩ ⟨?_, fun i k v e => ?_⟩ (fun h' up x hx => keep x hx h' up) (by rw [lpr]; exact hz) fun h' tk d1 up => ?_
  · simp [lpr]
  · have e : (ys.map fun y => (Value.ref y.2.1, y.2.2))[j]? = some (k, v) := e
    rw [List.getElem?_map] at e
    obtain ⟨y, hy1, e⟩ := Option.map_eq_some_iff.mp e
    obtain ⟨c, hc1, ht⟩ := hy j y hy1
    cases e
    refine ⟨?_, .inl ?_⟩
    · simp [hc1]
    · have e : ps.getD j 0 = c := by simp [hc1]
      show s.heap.IsTuple (ps.getD j 0) _
      rw [e]
      exact ht
  · rw [ly, lpr]
  · have e : (ys.map fun y => (Value.ref y.2.1, y.2.2))[i]? = some (k, v) := e
    rw [List.getElem?_map] at e
    obtain ⟨y, hy1, e⟩ := Option.map_eq_some_iff.mp e
    cases e
    exact ⟨y.1, y.2.1, hy1, rfl⟩
  · rw [storedAllH_nil_of_nodup _ (by rw [← ek]; exact nd)] at d1
    obtain ⟨o, es, ep, g1, g2, g3, g4, _, g6⟩ := d1
    refine ⟨.ref s.heap.objs.size, upd H s.heap.objs.size (.dT kvs), I.laid (t' := tk) (fun b o e => up b o (fun m => nomatch m) e) (Nat.le_refl _) ?_, rfl, q _ fr⟩
    exact ⟨by rw [← lp]; exact hz, nm, ys, rel.keeps fun b zs e => by rw [upd_ne (fun y => by rw [y, fr] at e; cases e)]; exact e, o, es, ep, g1, g2, g3, g4, g6⟩
end
end Dtx
namespace Dtr
open PySem PySem.Spec PyProof.Rows L2 Kp Od Co Few Tab42
/-! ### tables of settings: their keys' hashes are unlike, they are shown (k43) -/
def hT (c : List Int) : Int := PySem.reduceHash (Builtin.Tuple.tupleHashOf (c.map PySem.hashInt))
theorem hash_kT {P : Program} {w : World} (c : List Int) : tupleKeyHash (mixKind P w) (kT c) = hT c := by
  have e : (kT c).map (mixKind P w).hash = c.map PySem.hashInt := by
    show (c.map _).map _ = _
    rw [List.map_map]
    rfl
  unfold tupleKeyHash hT
  rw [e]
def hN (c : List Int) : Nat := (hT c % 18446744073709551616).toNat
/-- all rising tuples of numbers below n -/
def subs : Nat → List (List Int)
  | 0 => [[]]
  | n + 1 => subs n ++ (subs n).map (· ++ [(n : Int)])
/-- the keys that a table may have -/
def uni : List (List Int) := subs 10 ++ (((subs 10).filter fun t => t != []).map fun t => t ++ t) ++ (((subs 10).filter fun t => decide (2 ≤ t.length)).map List.reverse) ++ [[-1]]
def sep : Nat → List Nat → Bool
  | 0, L => decide (L.length ≤ 1)
  | n + 1, L => decide (L.length ≤ 1) || (sep n (L.filter fun x => x.testBit n) && sep n (L.filter fun x => !x.testBit n))
theorem nodup_parts (p : Nat → Bool) : ∀ L : List Nat, (L.filter p).Nodup → (L.filter fun x => !p x).Nodup → L.Nodup
  | [], _, _ => .nil
  | a :: L, h1, h2 => by
    refine List.nodup_cons.mpr ⟨fun m => ?_, ?_⟩
    · cases e : p a with
      | true =>
        rw [List.filter_cons_of_pos e] at h1
        exact (List.nodup_cons.mp h1).1 (List.mem_filter.mpr ⟨m, e⟩)
      | false =>
        rw [List.filter_cons_of_pos (by rw [e]; rfl)] at h2
        exact (List.nodup_cons.mp h2).1 (List.mem_filter.mpr ⟨m, by rw [e]; rfl⟩)
    · refine nodup_parts p L ?_ ?_
      · cases e : p a with
        | true =>
          rw [List.filter_cons_of_pos e] at h1
          exact (List.nodup_cons.mp h1).2
        | false =>
          rw [List.filter_cons_of_neg (by rw [e]; decide)] at h1
          exact h1
      · cases e : p a with
        | true =>
          rw [List.filter_cons_of_neg (by rw [e]; decide)] at h2
          exact h2
        | false =>
          rw [List.filter_cons_of_pos (by rw [e]; rfl)] at h2
          exact (List.nodup_cons.mp h2).2
theorem few_nodup {L : List Nat} (h : L.length ≤ 1) : L.Nodup := by
  match L, h with
  | [], _ => exact .nil
  | [a], _ => exact List.nodup_cons.mpr ⟨fun m => (nomatch m), .nil⟩
  | _ :: _ :: _, h => simp at h
theorem sep_nodup : ∀ (n : Nat) (L : List Nat), sep n L = true → L.Nodup
  | 0, L, h => few_nodup (of_decide_eq_true h)
  | n + 1, L, h => by
    rcases Bool.or_eq_true_iff.mp h with h | h
    · exact few_nodup (of_decide_eq_true h)
    · obtain ⟨h1, h2⟩ := Bool.and_eq_true_iff.mp h
      exact nodup_parts _ L (sep_nodup n _ h1) (sep_nodup n _ h2)
theorem inj_of {α β : Type} {f : α → β} : ∀ {L : List α}, (L.map f).Nodup → ∀ x ∈ L, ∀ y ∈ L, f x = f y → x = y
  | [], _, _, hx, _, _, _ => nomatch hx
  | a :: L, h, x, hx, y, hy, e => by
    rw [List.map_cons, List.nodup_cons] at h
    rcases List.mem_cons.mp hx with e1 | m1
    · rcases List.mem_cons.mp hy with e2 | m2
      · rw [e1, e2]
      · rw [e1] at e
        exact absurd (List.mem_map.mpr ⟨y, m2, e.symm⟩) h.1
    · rcases List.mem_cons.mp hy with e2 | m2
      · rw [e2] at e
        exact absurd (List.mem_map.mpr ⟨x, m1, e⟩) h.1
      · exact inj_of h.2 x m1 y m2 e
theorem uni_sep : sep 64 (uni.map hN) = true := by decide +kernel
theorem uni_inj {c d : List Int} (hc : c ∈ uni) (hd : d ∈ uni) (e : hT c = hT d) : c = d := inj_of (sep_nodup 64 _ uni_sep) c hc d hd (by unfold hN; rw [e])
theorem nodup_hash {P : Program} {w : World} : ∀ {kvs : List (List Key × V)}, (∀ p ∈ kvs, ∃ c ∈ uni, p.1 = kT c) → (kvs.map (·.1)).Nodup → (kvs.map fun p => tupleKeyHash (mixKind P w) p.1).Nodup
  | [], _, _ => .nil
  | p :: kvs, h, nd => by
    rw [List.map_cons, List.nodup_cons] at nd ⊢
    refine ⟨fun m => nd.1 ?_, nodup_hash (fun q hq => h q (List.mem_cons_of_mem _ hq)) nd.2⟩
    obtain ⟨q, hq, e⟩ := List.mem_map.mp m
    obtain ⟨c, hc, ec⟩ := h p List.mem_cons_self
    obtain ⟨d, hd, ed⟩ := h q (List.mem_cons_of_mem _ hq)
    rw [ec, ed, hash_kT, hash_kT] at e
    refine List.mem_map.mpr ⟨q, hq, ?_⟩
    rw [ec, ed, uni_inj hd hc e]
theorem mem_subs : ∀ (n : Nat) (t : List Nat), t.Pairwise (· < ·) → (∀ x ∈ t, x < n) → cst t ∈ subs n
  | 0, t, _, h => by
    match t, h with
    | [], _ => exact List.mem_cons_self
    | a :: _, h => exact absurd (h a List.mem_cons_self) (Nat.not_lt_zero _)
  | n + 1, t, pw, h => by
    refine List.mem_append.mpr ?_
    rcases List.eq_nil_or_concat t with rfl | ⟨u, a, rfl⟩
    · exact .inl (mem_subs n [] .nil fun _ m => nomatch m)
    · rw [List.concat_eq_append] at pw h ⊢
      rw [List.pairwise_append] at pw
      obtain ⟨p1, _, p3⟩ := pw
      have ua : ∀ x ∈ u, x < a := fun x hx => p3 x hx a List.mem_cons_self
      have an := h a (List.mem_append.mpr (.inr List.mem_cons_self))
      by_cases z : a = n
      · subst z
        refine .inr (List.mem_map.mpr ⟨cst u, mem_subs a u p1 ua, ?_⟩)
        show _ = List.map _ _
        rw [List.map_append]
        rfl
      · refine .inl (mem_subs n _ (List.pairwise_append.mpr ⟨p1, List.pairwise_singleton _ _, p3⟩) fun x hx => ?_)
        rcases List.mem_append.mp hx with hx | hx
        · have := ua x hx
          omega
        · rw [List.mem_singleton.mp hx]
          omega
theorem subs_up {n m : Nat} (h : n ≤ m) : ∀ c ∈ subs n, c ∈ subs m := by
  induction h with
  | refl => exact fun c hc => hc
  | step _ ih => exact fun c hc => List.mem_append.mpr (.inl (ih c hc))
theorem uni_rise {m l : Nat} (hm : m ≤ 10) {t : List Nat} (h : t ∈ rise m l) : cst t ∈ uni ∧ (t ≠ [] → cst t ++ cst t ∈ uni) ∧ (cst t).reverse ∈ uni := by
  obtain ⟨_, pw, lt⟩ := mem_rise.mp h
  have ms : cst t ∈ subs 10 := mem_subs 10 t pw fun x hx => Nat.lt_of_lt_of_le (lt x hx) hm
  unfold uni
  refine ⟨?_, fun ne => ?_, ?_⟩
  · exact List.mem_append.mpr (.inl (List.mem_append.mpr (.inl (List.mem_append.mpr (.inl ms)))))
  · refine List.mem_append.mpr (.inl (List.mem_append.mpr (.inl (List.mem_append.mpr (.inr (List.mem_map.mpr ⟨cst t, List.mem_filter.mpr ⟨ms, ?_⟩, rfl⟩))))))
    rw [bne_iff_ne]
    intro e
    exact ne (List.map_eq_nil_iff.mp e)
  · by_cases l2 : 2 ≤ (cst t).length
    · exact List.mem_append.mpr (.inl (List.mem_append.mpr (.inr (List.mem_map.mpr ⟨cst t, List.mem_filter.mpr ⟨ms, decide_eq_true l2⟩, rfl⟩))))
    · have e : (cst t).reverse = cst t := by
        match cst t, l2 with
        | [], _ => rfl
        | [a], _ => rfl
        | _ :: _ :: _, h => simp at h
      rw [e]
      exact List.mem_append.mpr (.inl (List.mem_append.mpr (.inl (List.mem_append.mpr (.inl ms)))))
theorem uni_neg : [-1] ∈ uni := List.mem_append.mpr (.inr List.mem_cons_self)
/-! ### shown -/
def datT (D : List (List Int × List Bool)) : PyData := .dict (D.map fun d => (.tuple (d.1.map PyData.int), .tuple (d.2.map PyData.bool)))
abbrev DtR (H : Hp) : List (List Key × V) → List (List Int × List Bool) → Prop := Paired fun p d => p.1 = kT d.1 ∧ TupB H p.2 d.2
theorem showKv : ∀ {ps : List (PyData × PyData)}, (∀ p ∈ ps, p.1.showable = true ∧ p.2.showable = true) → PyData.showableKv ps = true
  | [], _ => rfl
  | p :: ps, h => by
    have e := h p List.mem_cons_self
    show (PyData.showable p.1 && PyData.showable p.2 && PyData.showableKv ps) = true
    rw [e.1, e.2, showKv fun q hq => h q (List.mem_cons_of_mem _ hq)]
    rfl
theorem shownKv_sz {B : Nat} : ∀ {ps : List (PyData × PyData)}, (∀ p ∈ ps, p.1.shown.length + p.2.shown.length ≤ B) → ∀ t ∈ PyData.shownKv ps, t.length ≤ B + 2
  | [], _, t, ht => nomatch ht
  | p :: ps, h, t, ht => by
    rcases List.mem_cons.mp ht with e | ht
    · have := h p List.mem_cons_self
      rw [e, strLen_append, strLen_append]
      show _ + 2 + _ ≤ _
      omega
    · exact shownKv_sz (fun q hq => h q (List.mem_cons_of_mem _ hq)) t ht
theorem shownKv_len : ∀ ps : List (PyData × PyData), (PyData.shownKv ps).length = ps.length
  | [] => rfl
  | _ :: r => congrArg (· + 1) (shownKv_len r)
theorem piled_le {B : Nat} : ∀ {ts : List Str}, (∀ t ∈ ts, t.length ≤ B) → piled ts ≤ (B + 2) * ts.length
  | [], _ => Nat.zero_le _
  | t :: ts, h => by
    have h1 := h t List.mem_cons_self
    have h2 := piled_le (ts := ts) fun y hy => h y (List.mem_cons_of_mem _ hy)
    rw [List.length_cons, Nat.mul_add]
    show t.length + 2 + piled ts ≤ _
    omega
theorem dict_len {B : Nat} {ts : List Str} (h : ∀ t ∈ ts, t.length ≤ B) : (dictText ts).length ≤ (B + 2) * ts.length + 2 := by
  unfold dictText
  rw [strLen_append, strLen_append]
  by_cases z : ts = []
  · subst z
    have e0 : (Str.ofString "{").length + ((Str.ofString ", ").join []).length + (Str.ofString "}").length ≤ 2 := by decide +kernel
    exact Nat.le_trans e0 (Nat.le_add_left _ _)
  · have e := join_length_add ts z
    have p := piled_le h
    show 1 + _ + 1 ≤ _
    omega
theorem small_key : ∀ n : Fin 130, PyData.showable (.int ((n.val : Int) - 60)) = true ∧ (PyData.shown (.int ((n.val : Int) - 60))).length ≤ 3 := Od.small_ints
theorem key_sm {c : List Int} (h : ∀ n ∈ c, -60 ≤ n ∧ n < 70) (l : c.length ≤ 20) : Sm 120 (.tuple (c.map PyData.int)) := by
  refine SmAll.tuple (B := 3) (n := 20) (SmAll.of fun d hd => ?_) (by rw [List.length_map]; exact l) (by decide)
  obtain ⟨n, hn, rfl⟩ := List.mem_map.mp hd
  obtain ⟨h1, h2⟩ := h n hn
  have := Od.small_ints ⟨(n + 60).toNat, by omega⟩
  rw [show (((n + 60).toNat : Nat) : Int) - 60 = n by omega] at this
  exact ⟨⟨this.1, rfl, by show 0 ≤ 6; decide, this.2⟩, by show 0 ≤ 5; decide⟩
theorem val_sm {bs : List Bool} (l : bs.length = 8) : Sm 80 (.tuple (bs.map PyData.bool)) := by
  refine SmAll.tuple (B := 5) (n := 8) (SmAll.of fun d hd => ?_) (by rw [List.length_map]; omega) (by decide)
  obtain ⟨b, _, rfl⟩ := List.mem_map.mp hd
  exact ⟨⟨rfl, rfl, by show 0 ≤ 6; decide, by cases b <;> decide +kernel⟩, by show 0 ≤ 5; decide⟩
theorem reads_ints {h : Heap} : ∀ {c : List Int} {us : List Value}, Vals (c.map V.int) us → ∃ as, ReadsAll h us (c.map PyData.int) as ∧ as = []
  | [], _, r => by
    cases r
    exact ⟨[], .nil, rfl⟩
  | n :: c, _, r => by
    rw [List.map_cons] at r
    cases r with
    | cons h1 t =>
      obtain ⟨u, rfl⟩ := h1
      obtain ⟨as, q, rfl⟩ := reads_ints (h := h) t
      exact ⟨[] ++ [], .cons (.int n u) q, rfl⟩
theorem reads_bools {h : Heap} : ∀ {c : List Bool} {us : List Value}, Vals (c.map V.bl) us → ∃ as, ReadsAll h us (c.map PyData.bool) as ∧ as = []
  | [], _, r => by
    cases r
    exact ⟨[], .nil, rfl⟩
  | n :: c, _, r => by
    rw [List.map_cons] at r
    cases r with
    | cons h1 t =>
      obtain rfl := h1
      obtain ⟨as, q, rfl⟩ := reads_bools (h := h) t
      exact ⟨[] ++ [], .cons (.bool n) q, rfl⟩
section
variable {X : Cx}
/-- repr of a table, where nothing is being shown -/
theorem cr_reprT (hg : X.A.guards = some []) (hu : X.A.units + 70 < cLine) : CallR X (.builtin "repr") (fun xs H Q => ∃ (a : Addr) (kvs : List (List Key × V)) (D : List (List Int × List Bool)), xs = [.ref a] ∧ H a = some (.dT kvs) ∧ DtR H kvs D ∧ D.length ≤ 40 ∧ (∀ d ∈ D, (∀ n ∈ d.1, -60 ≤ n ∧ n < 70) ∧ d.1.length ≤ 20 ∧ d.2.length = 8) ∧ Q (.str (datT D).shown) H) := by
  intro pins s σ H xs us Q I r h
  obtain ⟨a, kvs, D, rfl, ha, rel, l40, sm, q⟩ := h
  obtain ⟨u, rfl, rx⟩ := vals1 r
  obtain rfl : u = .ref a := rx
  obtain ⟨z, na, ys, ry, dd⟩ := dt_of I.hok ha
  obtain ⟨o, es, ep, g1, g2, g3, g4, g5, g6⟩ := dd
  have rd : ∃ as bs, ReadsAll s.heap (ys.map fun y => Value.ref y.2.1) (D.map fun d => PyData.tuple (d.1.map PyData.int)) as ∧ ReadsAll s.heap (ys.map fun y => y.2.2) (D.map fun d => PyData.tuple (d.2.map PyData.bool)) bs ∧ as = [] ∧ bs = [] := by
    clear g4 g5 g6 l40 sm q z ha
    induction rel generalizing ys with
    | nil =>
      cases ry
      exact ⟨_, _, .nil, .nil, rfl, rfl⟩
    | @cons p d kvs D h _ ih =>
      cases ry with
      | @cons _ y _ ys h' t =>
        obtain ⟨as, bs, i1, i2, rfl, rfl⟩ := ih _ t
        have e1 := h'.2.1
        rw [h.1] at e1
        have e1 : H y.2.1 = some (.tup (d.1.map V.int)) := by
          rw [e1]
          unfold kT To.kT
          rw [List.map_map]
          rfl
        obtain ⟨_, its, rv, o1, f1, f2, n1, f3⟩ := (show ObjOk X.prog X.w H s.heap y.2.1 (.tup (d.1.map V.int)) from I.hok _ _ e1)
        obtain ⟨b, eb, hb⟩ := h.2
        have e2 := h'.2.2
        rw [eb] at e2
        have e2 : y.2.2 = Value.ref b := e2
        obtain ⟨_, its2, rv2, o2, k1, k2, n2, k3⟩ := (show ObjOk X.prog X.w H s.heap b (.tup (d.2.map V.bl)) from I.hok _ _ hb)
        obtain ⟨as1, w1, rfl⟩ := reads_ints (h := s.heap) rv
        obtain ⟨as2, w2, rfl⟩ := reads_bools (h := s.heap) rv2
        refine ⟨[] ++ [], [] ++ [], .cons (.tuple f1 f2 f3 (by simpa using w1)) i1, ?_, rfl, rfl⟩
        rw [List.map_cons, e2]
        exact .cons (.tuple k1 k2 k3 (by simpa using w2)) i2
  obtain ⟨as, bs, r1, r2, rfl, rfl⟩ := rd
  have rr : Reads s.heap (.ref a) (datT D) (a :: [] ++ []) := by
    refine .dict g1 g2.1 g3 ?_ ?_
    · rw [g4, List.map_map, List.map_map]
      exact r1
    · rw [g4, List.map_map, List.map_map]
      exact r2
  have ks : ∀ p ∈ D.map (fun d => ((PyData.tuple (d.1.map PyData.int), PyData.tuple (d.2.map PyData.bool)) : PyData × PyData)), Sm 120 p.1 ∧ Sm 80 p.2 := fun p hp => by
    obtain ⟨d, hd, rfl⟩ := List.mem_map.mp hp
    obtain ⟨s1, s2, s3⟩ := sm d hd
    exact ⟨key_sm s1 s2, val_sm s3⟩
  have sz : (datT D).shown.length ≤ sizeLine := by
    have e := dict_len (shownKv_sz (B := 200) fun p hp => by
      have := (ks p hp).1.sz
      have := (ks p hp).2.sz
      omega)
    rw [shownKv_len, List.length_map] at e
    show (dictText (PyData.shownKv _)).length ≤ _
    rw [sizeLine_eq]
    omega
  refine repr_of_reads' rr (showKv fun p hp => ⟨(ks p hp).1.sh, (ks p hp).2.sh⟩) (fun _ m => ?_) hg ?_ (fun _ _ e => e) (fun h' u tk k => ⟨.str _, H, I.turnedL (ch := []) (fun b o _ e => k b o e) (fun b hb => absurd hb (by simp)), ⟨_, rfl⟩, q⟩) sz
  · have m : sysModules = a := by simpa using m
    rw [← m] at na
    exact absurd na (by decide)
  · have dk : ∀ ps : List (PyData × PyData), (∀ p ∈ ps, p.1.depth ≤ 6 ∧ p.2.depth ≤ 6) → PyData.depthKv ps ≤ 6 := fun ps => by
      induction ps with
      | nil => exact fun _ => Nat.zero_le _
      | cons p ps ih =>
        intro h
        have h1 := h p List.mem_cons_self
        exact Nat.max_le.mpr ⟨Nat.max_le.mpr h1, ih fun q hq => h q (List.mem_cons_of_mem _ hq)⟩
    have := dk _ fun p hp => ⟨(ks p hp).1.dp, (ks p hp).2.dp⟩
    show X.A.units + (PyData.depthKv _ + 1 + 1) < cLine
    omega
end
end Dtr
namespace Sh43
open PySem PySem.Spec PyProof.Rows L2 GxR Nw Dr Kp Se Cl Co Sl Sn Sic Few Od Dtr Tab42 Un
/-! ### whether a table shows how many are needed (k43) -/
theorem bl_inj : ∀ {bs cs : List Bool}, bs.map PyData.bool = cs.map PyData.bool → bs = cs
  | [], [], _ => rfl
  | [], _ :: _, h => nomatch h
  | _ :: _, [], h => nomatch h
  | b :: bs, c :: cs, h => by
    rw [List.map_cons, List.map_cons, List.cons.injEq] at h
    rw [PyData.bool.inj h.1, bl_inj h.2]
theorem up_le {m : Nat} : ∀ (t : List Nat) (k : Nat), t.Pairwise (· < ·) → (∀ n ∈ t, k ≤ n ∧ n < m) → t = [] ∨ t.length + k ≤ m
  | [], _, _, _ => .inl rfl
  | a :: t, k, pw, h => by
    rw [List.pairwise_cons] at pw
    have ha := h a List.mem_cons_self
    rcases up_le t (a + 1) pw.2 fun n hn => ⟨pw.1 n hn, (h n (List.mem_cons_of_mem _ hn)).2⟩ with rfl | r
    · exact .inr (by show 1 + k ≤ m; omega)
    · exact .inr (by rw [List.length_cons]; omega)
theorem mem_pick {css : List (List Int)} {ns : List Nat} {c : List Int} (h : c ∈ pick css ns) (b : ∀ n ∈ ns, n < css.length) : c ∈ css := by
  obtain ⟨n, hn, rfl⟩ := List.mem_map.mp h
  have := b n hn
  rw [List.getD_eq_getElem?_getD, List.getElem?_eq_getElem this]
  exact List.getElem_mem this
def look (D : List (List Int × List Bool)) (c : List Int) : Option (List Bool) := (D.find? fun d => decide (d.1 = c)).map (·.2)
theorem look_at {H : Hp} {c : List Int} : ∀ {kvs : List (List Key × V)} {D : List (List Int × List Bool)}, DtR H kvs D → (valV kvs (kT c) = none ∧ look D c = none) ∨ ∃ v bs, valV kvs (kT c) = some v ∧ look D c = some bs ∧ TupB H v bs
  | [], _, r => by
    cases r
    exact .inl ⟨rfl, rfl⟩
  | p :: kvs, _, r => by
    cases r with
    | @cons _ d _ D h t =>
      by_cases z : d.1 = c
      · refine .inr ⟨p.2, d.2, ?_, ?_, h.2⟩
        · unfold valV
          rw [List.find?_cons_of_pos (by rw [h.1, z]; exact decide_eq_true rfl)]
          rfl
        · unfold look
          rw [List.find?_cons_of_pos (by rw [z]; exact decide_eq_true rfl)]
          rfl
      · have z2 : ¬ p.1 = kT c := fun e => z (To.kT_inj (h.1.symm.trans e))
        have e1 : valV (p :: kvs) (kT c) = valV kvs (kT c) := by
          unfold valV
          rw [List.find?_cons_of_neg (by simpa using z2)]
        have e2 : look (d :: D) c = look D c := by
          unfold look
          rw [List.find?_cons_of_neg (by simpa using z)]
        rw [e1, e2]
        exact look_at t
theorem dtr_ke {F : Addr → Prop} {H H' : Hp} (k : Ke F H H') : ∀ {kvs : List (List Key × V)} {D : List (List Int × List Bool)}, DtR H kvs D → DtR H' kvs D
  | _, _, .nil => .nil
  | _, _, .cons h t => .cons ⟨h.1, h.2.ke k⟩ (dtr_ke k t)
/-- settings for all tuples of so many numbers -/
def Good (css : List (List Int)) (cs : List Int) (D : List (List Int × List Bool)) (t : List Nat) : Prop := ∃ bs, look D (cst t) = some bs ∧ Ctr (pick css t) cs bs
def Due (css : List (List Int)) (cs : List Int) (D : List (List Int × List Bool)) (l : Nat) : Prop := ∀ t ∈ rise css.length l, Good css cs D t
section
variable {P : Program} {w : World} {K : PySem.W.Frag} {mg : Str → Option Value} {base : Heap}
def spShG (Pi Ph Pa : Addr) : Sp := fun vs H Q _ => ∃ (v u : V) (T : Addr) (l : Nat) (kvs : List (List Key × V)) (D : List (List Int × List Bool)) (css : List (List Int)) (cs : List Int), vs = [v, u, .int (l : Nat), .ref T] ∧ Bk H v css ∧ TupI H u cs ∧ Says cs ∧ (∀ c ∈ css, Says c) ∧ css.length ≤ 10 ∧ 0 < l ∧ l ≤ 10 ∧ H T = some (.dT kvs) ∧ DtR H kvs D ∧ (∀ d ∈ D, d.2.length = 8) ∧ TabG H Pi ∧ TabG H Ph ∧ TabG H Pa ∧ ∀ b H', Ke Nof H H' → (b = true ↔ Due css cs D (l - 1)) → Q (.bl b) H'
theorem ok_shg {f fC fR fN Pi Ph Pa : Addr} {fd fdC fdR fdN : FuncData} {k : Nat} (F : Fun K "shows_needed" "shows_needed" sShn f fd) (T : Zf mg)
    (FC : Fun K "check_few_claims" "check_few_claims" sCfc fC fdC) (bC : Binds K fdC ["book"] []) (gC : mg "check_few_claims" = some (.ref fC)) (GC : FnOk P w K mg base CX0 1 fC fdC ["book"] spCfc)
    (FR : Fun K "rising_tuples" "rising_tuples" sRis fR fdR) (bR : Binds K fdR ["many", "length"] []) (gR : mg "rising_tuples" = some (.ref fR)) (GR : FnOk P w K mg base CX0 2 fR fdR ["many", "length"] spRis)
    (FN : Fun K "shows_need" "shows_need" Sn.sSnd fN fdN) (bN : Binds K fdN ["book", "claim", "numbers", "thing"] []) (gN : mg "shows_need" = some (.ref fN)) (GN : FnOk P w K mg base CX0 6 fN fdN ["book", "claim", "numbers", "thing"] (Sn.spSnd Pi Ph Pa)) :
    FnOk P w K mg base CX0 (k + 7) f fd ["book", "claim", "many", "table"] (spShG Pi Ph Pa) := by
  refine F.ok scShn (fun vs H Q E h => ?_) (fun cdv A outer s H vs Q E hr h => ?_)
  · obtain ⟨v, u, D, l, kvs, D, css, cs, rfl, _⟩ := h
    rfl
  · obtain ⟨v, u, T', l, kvs, D, css, cs, rfl, hb, tw, ic, sb, l10, l0, ll, hD, dr, d8, ti, th, ta, q⟩ := h
    have hr1 : Room 1 _ := hr.mono (by omega)
    have hr2 : Room 2 _ := hr.mono (by omega)
    have hr6 : Room 6 _ := hr.mono (by omega)
    refine ⟨_, (Evl.pss_cut (ps_expr (pe_call GC hr1 (by rfl) gC FC.kp bC .nil pass0 (pa_cons (pv 0) pa_nil)))
      (Evl.pss_cut (ps_for PassesOwn.never rfl (pi_list (pe_call GR hr2 (by rfl) gR FR.kp bR .nil pass0 (pa_cons (pe_callB call_len_seq (by rfl) T.z_len (by decide +kernel) (pa_cons (pv 0) pa_nil)) (pa_cons (pe_op op_sub (pv 2) pe_int) pa_nil)))) (pg_name (i := 4) scShn.nd rfl (.inl rfl)) (pss_one (ps_if (pt_not (pt_val (pe_call GN hr6 (by rfl) gN FN.kp bN .nil pass0 (pa_cons (pv 0) (pa_cons (pv 1) (pa_cons (pv 4) (pa_cons (pe_dget1 (lt1 hr.units) (pv 3) (pv 4) ⟨rfl, rfl, rfl, rfl⟩) pa_nil))))))) (pss_one (ps_ret pe_bl)) pss_nil)))
      (pss_one (ps_ret pe_bl)))), ?_⟩
    obtain ⟨ba, bvs, rfl, hBk, lB, aB⟩ := id hb
    refine Evl.q_cut (M := fun σ' G => σ' = [some (.ref ba), some u, some (.int (l : Nat)), some (.ref T'), none] ∧ G = H) ?_ ?_
    · exact ⟨_, rfl, .ref ba, css, rfl, hb, l10, rfl, rfl⟩
    rintro σ' H0 ⟨rfl, rfl⟩
    refine Evl.q_cut (M := fun σ' G => ∃ y4, σ' = [some (.ref ba), some u, some (.int (l : Nat)), some (.ref T'), y4] ∧ Ke Nof H0 G ∧ Due css cs D (l - 1)) ?_ ?_
    · refine ⟨_, rfl, ba, _, rfl, .inr (.of hBk), _, rfl, _, _, rfl, rfl, css.length, l - 1, ((l : Nat) : Int) - 1, by rw [lB]; rfl, by omega, l10, by omega, by omega, fun L ws G1 nL s1 hL tn => ?_⟩
      refine ⟨L, rfl, ⟨_, .of hL⟩, for_list (xs := ws) (Pv := fun i σ G => ∃ y4, σ = [some (.ref ba), some u, some (.int (l : Nat)), some (.ref T'), y4] ∧ Ke Nof G1 G ∧ ∀ j t, j < i → (rise css.length (l - 1))[j]? = some t → Good css cs D t) ⟨none, rfl, .refl _ _, fun j t h => absurd h (Nat.not_lt_zero _)⟩ (fun i σ G _ z => .of (z.choose_spec.2.1.lst hL fun z => z)) ?_ ?_⟩
      · rintro i x σ G hx ⟨y4, rfl, kG, al⟩
        obtain ⟨t, ht, ta', rfl, hta⟩ := tn.at hx
        have mt := List.mem_of_getElem? ht
        have mr := mem_rise.mp mt
        have k0 : Ke Nof H0 G := (Ke.same s1).trans kG
        have hD2 : G T' = some (.dT kvs) := k0.keep T' _ hD (fun ps z => by cases z) fun z => z
        have ht2 := kG.tups _ _ hta
        have g := DGet.t (k := kN t) hD2 (by rw [kN_v]; exact ht2)
        rcases look_at (c := cst t) dr with ⟨e1, e2⟩ | ⟨z, bs, e1, e2, tb⟩
        · rw [show kN t = kT (cst t) from rfl, e1] at g
          refine ⟨_, rfl, _, rfl, _, rfl, _, rfl, T', rfl, .inr ⟨kvs, .inl hD2⟩, _, rfl, _, g, ?_⟩
          refine ⟨Nof, .ref ba, u, .ref ta', .non, css, cs, t, .none, rfl, hb.ke k0, tw.ke k0, ⟨ta', rfl, .inr ht2⟩, mr.2.2, by omega, .non, (fun ds e => by cases e), ic, sb, k0.tabs _ ti, k0.tabs _ th, k0.tabs _ ta, fun tr H2 htr k2 => ?_⟩
          cases tr with
          | true =>
            obtain ⟨bs, e, _⟩ := htr.mp rfl
            cases e
          | false =>
            refine ⟨_, rfl, q false _ (k0.trans k2) ⟨fun z => (nomatch z), fun du => ?_⟩⟩
            obtain ⟨bs, e, _⟩ := du t mt
            rw [e2] at e
            cases e
        · rw [show kN t = kT (cst t) from rfl, e1] at g
          obtain ⟨b, rfl, hbb⟩ := tb.ke k0
          refine ⟨_, rfl, _, rfl, _, rfl, _, rfl, T', rfl, .inr ⟨kvs, .inl hD2⟩, _, rfl, _, g, ?_⟩
          refine ⟨Nof, .ref ba, u, .ref ta', .ref b, css, cs, t, .tuple (bs.map PyData.bool), rfl, hb.ke k0, tw.ke k0, ⟨ta', rfl, .inr ht2⟩, mr.2.2, by omega, .tup hbb (od_bl bs), fun ds e => ?_, ic, sb, k0.tabs _ ti, k0.tabs _ th, k0.tabs _ ta, fun tr H2 htr k2 => ?_⟩
          · cases e
            have : bs.length = 8 := by
              obtain ⟨d, hd, e⟩ := Option.map_eq_some_iff.mp e2
              rw [← e]
              exact d8 d (List.mem_of_find?_eq_some hd)
            rw [List.length_map]
            omega
          · cases tr with
            | true =>
              obtain ⟨bs', e, ct⟩ := htr.mp rfl
              have eb : bs = bs' := by
                injection e with e
                exact bl_inj e
              subst eb
              refine ⟨_, rfl, _, rfl, kG.trans k2, fun j t' hj ht' => ?_⟩
              by_cases z : j = i
              · subst z
                rw [ht] at ht'
                cases ht'
                exact ⟨bs, e2, ct⟩
              · exact al j t' (by omega) ht'
            | false =>
              refine ⟨_, rfl, q false _ (k0.trans k2) ⟨fun z => (nomatch z), fun du => ?_⟩⟩
              obtain ⟨bs', e, ct⟩ := du t mt
              rw [e2] at e
              cases e
              exact absurd (htr.mpr ⟨bs, rfl, ct⟩) Bool.false_ne_true
      · rintro σ G ⟨y4, rfl, kG, al⟩
        refine ⟨y4, rfl, (Ke.same s1).trans kG, fun t ht => ?_⟩
        obtain ⟨j, hj⟩ := List.getElem?_of_mem ht
        have := (List.getElem?_eq_some_iff.mp hj).1
        exact al j t (by rw [tn.1]; exact this) hj
    rintro σ' G ⟨y4, rfl, k1, du⟩
    exact q true G k1 ⟨fun _ => du, fun _ => rfl⟩
abbrev sDue : Stmt := topS 43
theorem scDue : FnScope ["book", "claim", "many", "table", "numbers"] ["book", "claim", "many", "table"] (defScope sDue) := ⟨rfl, rfl, rfl, by decide +kernel, rfl, by decide +kernel, by decide +kernel⟩
def spDue : Sp := fun vs H Q _ => ∃ (v u : V) (T : Addr) (l : Nat) (kvs : List (List Key × V)) (D : List (List Int × List Bool)) (css : List (List Int)) (cs : List Int), vs = [v, u, .int (l : Nat), .ref T] ∧ Bk H v css ∧ TupI H u cs ∧ IsCl cs ∧ (∀ c ∈ css, IsCl c) ∧ css.length ≤ 10 ∧ 0 < l ∧ H T = some (.dT kvs) ∧ DtR H kvs D ∧ (∀ d ∈ D, d.2.length = 8) ∧ ∀ b H', Ke Nof H H' → (b = true ↔ Due css cs D (l - 1)) → Q (.bl b) H'
theorem ok_due {f fP fA fY : Addr} {fd fdP fdA fdY : FuncData} {k : Nat} (F : Fun K "_law_s_due" "_law_s_due" sDue f fd) (T : Tab42.Zt mg)
    (FP : Fun K "_law_s_tuples" "_law_s_tuples" sTup fP fdP) (bP : Binds K fdP ["count", "many"] []) (gP : mg "_law_s_tuples" = some (.ref fP)) (GP : FnOk P w K mg base CX0 1 fP fdP ["count", "many"] spTup)
    (FA : Fun K "_law_sis_against" "_law_sis_against" Sic.sSia fA fdA) (bA : Binds K fdA ["claims", "claim", "setting"] []) (gA : mg "_law_sis_against" = some (.ref fA)) (GA : FnOk P w K mg base CX0 3 fA fdA ["claims", "claim", "setting"] Sic.spSia)
    (FY : Fun K "_law_sthose" "_law_sthose" Sic.sSth fY fdY) (bY : Binds K fdY ["book", "numbers"] []) (gY : mg "_law_sthose" = some (.ref fY)) (GY : FnOk P w K mg base CX0 1 fY fdY ["book", "numbers"] Sic.spSth) :
    FnOk P w K mg base CX0 (k + 4) f fd ["book", "claim", "many", "table"] spDue := by
  refine F.ok scDue (fun vs H Q E h => ?_) (fun cdv A outer s H vs Q E hr h => ?_)
  · obtain ⟨v, u, T', l, kvs, D, css, cs, rfl, _⟩ := h
    rfl
  · obtain ⟨v, u, T', l, kvs, D, css, cs, rfl, hb, tw, ic, ib, l10, l0, hD, dr, d8, q⟩ := h
    have hr1 : Room 1 _ := hr.mono (by omega)
    have hr3 : Room 3 _ := hr.mono (by omega)
    refine ⟨_, (Evl.pss_cut (ps_for PassesOwn.never rfl (pi_list (pe_call GP hr1 (by rfl) gP FP.kp bP .nil pass0 (pa_cons (pe_callB call_len_seq (by rfl) T.z_len (by decide +kernel) (pa_cons (pv 0) pa_nil)) (pa_cons (pe_op op_sub (pv 2) pe_int) pa_nil)))) (pg_name (i := 4) scDue.nd rfl (.inl rfl)) (pss_cons (ps_if (pt_cmp (pc_dnotin (lt1 hr.units) (pv 4) (pv 3))) (pss_one (ps_ret pe_bl)) pss_nil)
      (pss_one (ps_if (pt_not (pt_val (pe_call GA hr3 (by rfl) gA FA.kp bA .nil pass0 (pa_cons (pe_call GY hr1 (by rfl) gY FY.kp bY .nil pass0 (pa_cons (pv 0) (pa_cons (pv 4) pa_nil))) (pa_cons (pv 1) (pa_cons (pe_dget (lt1 hr.units) (pv 3) (pv 4) (fun _ _ => rfl)) pa_nil)))))) (pss_one (ps_ret pe_bl)) pss_nil))))
      (pss_one (ps_ret pe_bl))), ?_⟩
    obtain ⟨ba, bvs, rfl, hBk, lB, aB⟩ := id hb
    refine Evl.q_cut (M := fun σ' G => ∃ y4, σ' = [some (.ref ba), some u, some (.int (l : Nat)), some (.ref T'), y4] ∧ Ke Nof H G ∧ Due css cs D (l - 1)) ?_ ?_
    · refine ⟨_, rfl, ba, _, rfl, .inr (.of hBk), _, rfl, _, _, rfl, rfl, css.length, l - 1, ?_, l10, fun L ws ts G1 s1 hL tn td => ?_⟩
      · rw [lB]
        exact congrArg (fun z => [V.int ((css.length : Nat) : Int), V.int z]) (show ((l : Nat) : Int) - 1 = ((l - 1 : Nat) : Int) by omega)
      refine ⟨L, rfl, ⟨_, .of hL⟩, for_list (xs := ws) (Pv := fun i σ G => ∃ y4, σ = [some (.ref ba), some u, some (.int (l : Nat)), some (.ref T'), y4] ∧ Ke Nof G1 G ∧ ∀ j t, j < i → ts[j]? = some t → Good css cs D t) ⟨none, rfl, .refl _ _, fun j t h => absurd h (Nat.not_lt_zero _)⟩ (fun i σ G _ z => .of (z.choose_spec.2.1.lst hL fun z => z)) ?_ ?_⟩
      · rintro i x σ G hx ⟨y4, rfl, kG, al⟩
        obtain ⟨t, ht, ta', rfl, hta⟩ := tn.at hx
        have mt := (td.me t).mp (List.mem_of_getElem? ht)
        have mr := mem_rise.mp mt
        have k0 : Ke Nof H G := (Ke.same s1).trans kG
        have hD2 : G T' = some (.dT kvs) := k0.keep T' _ hD (fun ps z => by cases z) fun z => z
        have ht2 := kG.tups _ _ hta
        have g := DGet.t (k := kN t) hD2 (by rw [kN_v]; exact ht2)
        have ln : t.length ≤ 10 := by
          rcases up_le t 0 mr.2.1 (fun n hn => ⟨Nat.zero_le _, mr.2.2 n hn⟩) with rfl | r
          · exact Nat.zero_le _
          · omega
        rcases look_at (c := cst t) dr with ⟨e1, e2⟩ | ⟨z, bs, e1, e2, tb⟩
        · rw [show kN t = kT (cst t) from rfl, e1] at g
          refine ⟨_, rfl, _, rfl, T', _, rfl, g, true, rfl, q false _ k0 ⟨fun z => (nomatch z), fun du => ?_⟩⟩
          obtain ⟨bs, e, _⟩ := du t mt
          rw [e2] at e
          cases e
        · rw [show kN t = kT (cst t) from rfl, e1] at g
          obtain ⟨b, rfl, hbb⟩ := tb.ke k0
          have b8 : bs.length = 8 := by
            obtain ⟨d, hd, e⟩ := Option.map_eq_some_iff.mp e2
            rw [← e]
            exact d8 d (List.mem_of_find?_eq_some hd)
          refine ⟨_, rfl, _, rfl, T', _, rfl, g, false, rfl, ?_⟩
          refine ⟨_, rfl, _, rfl, .ref ba, .ref ta', css, t, rfl, hb.ke k0, ⟨ta', rfl, .inr ht2⟩, mr.2.2, by omega, fun p2 G2 s2 hc => ?_⟩
          have k2 : Ke Nof H G2 := k0.trans (.same s2)
          have g2 := DGet.t (k := kN t) (s2 _ _ hD2) (by rw [kN_v]; exact s2 _ _ ht2)
          rw [show kN t = kT (cst t) from rfl, e1] at g2
          have lc20 : cs.length ≤ 20 := Nat.le_trans ic.len (by decide)
          refine ⟨_, rfl, _, rfl, _, rfl, T', .ref b, rfl, g2, Nof, .ref p2, u, .ref b, pick css t, cs, .tuple (bs.map PyData.bool), rfl, hc, tw.ke k2, ic.says, lc20, fun c hc => ?_, by rw [show (pick css t).length = t.length from List.length_map _]; omega, .tup (s2 _ _ hbb) (od_bl bs), fun ds e => ?_, fun tr G3 htr s3 => ?_⟩
          · have := ib c (mem_pick hc mr.2.2)
            exact ⟨this.says, Nat.le_trans this.len (by decide)⟩
          · cases e
            rw [List.length_map]
            omega
          · cases tr with
            | true =>
              obtain ⟨bs', e, ct⟩ := htr.mp rfl
              have eb : bs = bs' := by
                injection e with e
                exact bl_inj e
              subst eb
              refine ⟨true, rfl, ?_⟩
              refine ⟨_, rfl, kG.trans ((Ke.same s2).trans (.same s3)), fun j t' hj ht' => ?_⟩
              by_cases z : j = i
              · subst z
                rw [ht] at ht'
                cases ht'
                exact ⟨bs, e2, ct⟩
              · exact al j t' (by omega) ht'
            | false =>
              refine ⟨false, rfl, q false _ (k2.trans (.same s3)) ⟨fun z => (nomatch z), fun du => ?_⟩⟩
              obtain ⟨bs', e, ct⟩ := du t mt
              rw [e2] at e
              cases e
              exact absurd (htr.mpr ⟨bs, rfl, ct⟩) Bool.false_ne_true
      · rintro σ G ⟨y4, rfl, kG, al⟩
        refine ⟨y4, rfl, (Ke.same s1).trans kG, fun t ht => ?_⟩
        obtain ⟨j, hj⟩ := List.getElem?_of_mem ((td.me t).mpr ht)
        have := (List.getElem?_eq_some_iff.mp hj).1
        exact al j t (by rw [tn.1]; exact this) hj
    rintro σ' G ⟨y4, rfl, k1, du⟩
    exact q true G k1 ⟨fun _ => du, fun _ => rfl⟩
end
end Sh43
namespace Rvt
open PySem PySem.Spec PyProof.Rows L2
/-! ### t[::-1], t a tuple -/
theorem pick_part (xs : Array Value) : ∀ k, k ≤ xs.size → ((List.range k).filterMap fun (m : Nat) => xs[(((xs.size : Int) - 1) + (m : Int) * (-1)).toNat]?) = xs.toList.reverse.take k
  | 0, _ => rfl
  | k + 1, h => by
    rw [List.range_succ, List.filterMap_append, pick_part xs k (by omega), List.take_add_one]
    have e : (((xs.size : Int) - 1) + (k : Int) * (-1)).toNat = xs.size - 1 - k := by omega
    have e2 : xs.toList.reverse[k]? = xs[xs.size - 1 - k]? := by
      rw [List.getElem?_reverse (by rw [Array.length_toList]; omega), Array.length_toList, Array.getElem?_toList]
    rw [e2]
    cases z : xs[xs.size - 1 - k]? with
    | none =>
      rw [List.filterMap_cons]
      simp only [e, z]
      rfl
    | some v =>
      rw [List.filterMap_cons]
      simp only [e, z]
      rfl
theorem pick_rev (xs : Array Value) : ((List.range xs.size).filterMap fun (m : Nat) => xs[(((xs.size : Int) - 1) + (m : Int) * (-1)).toNat]?) = xs.toList.reverse := by
  rw [pick_part xs xs.size (Nat.le_refl _)]
  exact List.take_of_length_le (by rw [List.length_reverse, Array.length_toList]; exact Nat.le_refl _)
section
variable {prog : Program} {w : World} {A : Around} {E : Value → Shared → Prop} {s : Shared}
theorem adjust_rev (n : Nat) : Builtin.Slice.sliceAdjust none none (-1) (n : Int) = ((n : Int) - 1, -1) := by
  unfold Builtin.Slice.sliceAdjust
  simp
theorem places_rev (n : Nat) : Builtin.Slice.slicePlaces ((n : Int) - 1) (-1) (-1) = n := by
  unfold Builtin.Slice.slicePlaces
  simp
  omega
theorem sliceApplied_rev {sl : Addr} {vs : Value} {n : Nat} {Q : Int × Int × Nat → Shared → Prop} (hs : s.heap.IsSliceOf sl .none .none vs) (ps : IsPart vs (some (-1)))
    (h : Q ((n : Int) - 1, -1, n) s) : wpAny (model prog w) A (Builtin.Slice.sliceApplied (.ref sl) (pure (n : Int))) Q E s := by
  obtain ⟨os, hos, hcs, hds⟩ := id hs
  unfold Builtin.Slice.sliceApplied Builtin.Slice.sliceFields
  refine wpAny_bind (wpAny_bind (wpAny_field hos hds (x := .none) rfl (wpAny_bind (wpAny_field hos hds (x := .none) rfl (wpAny_bind (wpAny_field hos hds (x := vs) rfl (wpAny_pure ?_)))))))
  refine wpAny_bind (HT.slicePart_ ps ?_)
  show wpAny _ _ (if ((-1 : Int) == 0) = true then _ else _) _ _ s
  rw [if_neg (by decide)]
  refine wpAny_bind (HT.slicePart_ .none (wpAny_bind (HT.slicePart_ .none (wpAny_bind (wpAny_pure ?_)))))
  show wpAny _ _ (match Builtin.Slice.sliceAdjust none none (-1) (n : Int) with | (lo, hi) => pure (lo, (-1 : Int), Builtin.Slice.slicePlaces lo hi (-1))) _ _ s
  rw [adjust_rev n]
  show wpAny _ _ (pure ((n : Int) - 1, (-1 : Int), Builtin.Slice.slicePlaces ((n : Int) - 1) (-1) (-1))) _ _ s
  rw [places_rev]
  exact wpAny_pure h
theorem getItem_tuple_rev {t sl : Addr} {items : Array Value} {vs : Value} {Q : Value → Shared → Prop} (ht : IsTup s.heap t items) (hs : s.heap.IsSliceOf sl .none .none vs) (ps : IsPart vs (some (-1)))
    (h : Q (.ref s.heap.objs.size) { s with heap := s.heap.push { cls := .type "tuple", data := .seq items.toList.reverse.toArray } })
    (hsz : items.size ≤ sizeLine) : wpAny (model prog w) A (getItem (.ref t) (.ref sl)) Q E s := by
  have htake : sizeOk (.seq items.toList.reverse.toArray) := by
    show items.toList.reverse.toArray.size ≤ sizeLine
    rw [List.size_toArray, List.length_reverse, Array.length_toList]
    exact hsz
  obtain ⟨os, hos, hcs, hds⟩ := id hs
  have hTs : s.TypeIs (.ref sl) "slice" := ⟨os, hos, hcs⟩
  unfold getItem
  try with_reducible refine wpAny_holding ?_
  first | refine wpAny_bind (wpAny_pure ?_) | skip
  refine wpAny_bind (wpAny_sequenceKey ht.typeIs (by decide) ?_)
  refine wpAny_bind (wpAny_callSpecial?_slot (name := Str.ofString "__getitem__") ht.typeIs PyProof.Rows.slot_tuple_getitem
    (wpAny_call_entry PyProof.Rows.slot_tuple_getitem ht.typeIs PyProof.Rows.entry_tuple_getitem ?_ (PyProof.Rows.args_tuple_getitem _ _)))
  show wpAny _ _ (Builtin.Tuple.tupleItemsOf (.ref t) >>= _) _ _ s
  refine wpAny_bind (PyProof.Rows.tupleItemsOf_ ht ?_)
  refine wpAny_bind (wpAny_typeOf hTs ?_)
  rw [if_pos (by decide)]
  refine wpAny_bind (sliceApplied_rev hs ps ?_)
  have hno : ¬ ((((items.size : Int) - 1) == 0 && (-1 : Int) == 1 && items.size == items.size) = true) := by
    intro q
    rw [Bool.and_eq_true, Bool.and_eq_true] at q
    exact absurd q.1.2 (by decide)
  show wpAny _ _ (if (((items.size : Int) - 1) == 0 && (-1 : Int) == 1 && items.size == items.size) = true then _ else _) _ _ s
  rw [if_neg hno, pick_rev]
  first
    | exact wpAny_bind (m := Builtin.Tuple.tupleExact _) (wpAny_newObj_type (wpAny_pure ⟨_, rfl, wpAny_pure h⟩) htake)
    | exact wpAny_bind (m := Builtin.Tuple.tupleExact _) (wpAny_newObj_type (wpAny_bind (wpAny_pure (wpAny_pure ⟨_, rfl, wpAny_pure h⟩))) htake)
    | exact wpAny_bind (wpAny_bind (m := Builtin.Tuple.tupleExact _) (wpAny_newObj_type (wpAny_pure (wpAny_pure ⟨_, rfl, wpAny_pure h⟩)) htake))
    | exact wpAny_bind (wpAny_bind (m := Builtin.Tuple.tupleExact _) (wpAny_newObj_type (wpAny_pure ⟨_, rfl, wpAny_pure h⟩) htake))
end
section
variable {X : Cx}
def tRevT (K : PySem.W.Frag) (te : TE) : TE := fun σ H Q => te σ H fun x H1 => ∃ a xs, x = .ref a ∧ SqT K H1 a xs ∧ Nw.New H1 (.tup xs.reverse) Q
theorem pe_revT {e : Expr} {te : TE} {k : Nat} {p1 p2 p3 pos : Pos} (he : PE X e te) : PE X (.Subscript e (.Slice none none (some (.UnaryOp .USub (.Constant (.int 1) k p1) p2)) p3) pos) (tRevT X.K te) := by
  refine ⟨fun pins s σ H Q I h => ?_⟩
  refine Subscript_ (thn (he.run pins s σ H _ I h) fun v s1 ⟨x, H1, I1, r1, q1⟩ => ?_)
  obtain ⟨a, xs, ex, hx, q⟩ := q1
  subst ex
  cases r1
  have hst : PO X (some (.UnaryOp .USub (.Constant (.int 1) k p1) p2)) (tPart (tUn (rU fun i => .int (-i)) (tC (.int 1)))) := po_some (pe_un un_neg pe_int)
  refine wpAny_Slice (thn (po_none.run pins s1 σ H1 (fun o H2 => o = none ∧ H2 = H1) I1 ⟨rfl, rfl⟩) fun vl s2 ⟨l, H2, I2, pl, el, e2⟩ => ?_)
  subst el e2
  refine thn (po_none.run pins s2 σ H2 (fun o H3 => o = none ∧ H3 = H2) I2 ⟨rfl, rfl⟩) fun vu s3 ⟨u, H3, I3, pu, eu, e3⟩ => ?_
  subst eu e3
  refine thn (hst.run pins s3 σ H3 (fun o H4 => o = some (-1) ∧ H4 = H3) I3 ⟨1, rfl, -1, rfl, rfl, rfl⟩) fun vs s4 ⟨o, H4, I4, ps, eo, e4⟩ => ?_
  subst eo e4
  cases pl
  cases pu
  have I5 : Inv X pins σ H4 { s4 with heap := s4.heap.push { cls := .type "slice", data := .fields #[.none, .none, vs] } } := I4.kept (t' := s4.toks) fun b ob q => Heap.get?_push_of_some _ q
  obtain ⟨its, r, ht, hz⟩ := I5.tuple hx
  have hlen := r.length
  show wpAny (model X.prog X.w) X.A (subscriptTail e (.Slice none none (some (.UnaryOp .USub (.Constant (.int 1) k p1) p2)) p3) (.ref a) (.ref s4.heap.objs.size)) (EP X pins σ Q) X.xe { s4 with heap := s4.heap.push { cls := .type "slice", data := .fields #[.none, .none, vs] } }
  refine tail_any (ops := [.ref a, .ref s4.heap.objs.size]) ht.typeIs (PyProof.Rows.slot_tuple_getitem.lookup) ?_ (by with_unfolding_all rfl)
  refine getItem_tuple_rev ht (Heap.IsSliceOf.new _ .none .none vs) ps ?_ (by rw [List.size_toArray]; omega)
  rw [List.toList_toArray]
  refine ⟨.ref _, _, I5.laid (t' := s4.toks) (o := .tup xs.reverse) (fun b ob q => Heap.get?_push_of_some _ q) (Nat.le_refl _) ?_, rfl, q.to _ (I5.hok.fresh (Nat.le_refl _))⟩
  exact ⟨by rw [List.length_reverse]; exact hz, _, r.reverse, IsTup.new _ _⟩
end
end Rvt
namespace Tb43
open PySem PySem.Spec PyProof.Rows L2 GxR Nw Dr Kp Se Cl Co Sl Sn Sic Few Od Dtr Tab42 Un Sh43
/-! ### the tables that are asked (k43) -/
theorem lt4 {n m : Nat} (h : n + 64 < m) : n + 4 < m := by omega
structure Zb (mg : Str → Option Value) : Prop where
  z_dict : mg "dict" = none
  z_sorted : mg "sorted" = none
  z_int : mg "int" = none
  z_len : mg "len" = none
  z_range : mg "range" = none
  z_tuple : mg "tuple" = none
theorem paired_mem {α β : Type} {R : α → β → Prop} : ∀ {l : List α} {m : List β}, Paired R l m → ∀ {b : β}, b ∈ m → ∃ a ∈ l, R a b
  | _, _, .nil, _, h => nomatch h
  | _, _, .cons (a := a) h t, b, hb => by
    rcases List.mem_cons.mp hb with rfl | hb
    · exact ⟨a, List.mem_cons_self, h⟩
    · obtain ⟨a', m, r⟩ := paired_mem t hb
      exact ⟨a', List.mem_cons_of_mem _ m, r⟩
theorem nd1 {a : Addr} : [a].Nodup := List.nodup_cons.mpr ⟨fun m => (nomatch m), .nil⟩
/-- a table's entries: known keys, settings -/
def Tv (G : Hp) (kvs : List (List Key × V)) : Prop := ∀ p ∈ kvs, ∃ c bs, p.1 = kT c ∧ c ∈ uni ∧ TupB G p.2 bs ∧ bs.length = 8
theorem Tv.ke {F : Addr → Prop} {G G' : Hp} {kvs : List (List Key × V)} (x : Tv G kvs) (k : Ke F G G') : Tv G' kvs := fun p hp => by
  obtain ⟨c, bs, h1, h2, h3, h4⟩ := x p hp
  exact ⟨c, bs, h1, h2, h3.ke k, h4⟩
theorem Tv.put {G : Hp} {kvs : List (List Key × V)} {c : List Int} {v : V} {bs : List Bool} (x : Tv G kvs) (hc : c ∈ uni) (tb : TupB G v bs) (l : bs.length = 8) : Tv G (putK kvs (kT c) v) := fun p hp => by
  rcases mem_putK hp with rfl | hp
  · exact ⟨c, bs, rfl, hc, tb, l⟩
  · exact x p hp
theorem Tv.drop {G : Hp} {kvs : List (List Key × V)} {k : List Key} (x : Tv G kvs) : Tv G (dropK kvs k) := fun p hp => x p (List.mem_filter.mp hp).1
theorem Tv.keys {G : Hp} {kvs : List (List Key × V)} (x : Tv G kvs) : ∀ p ∈ kvs, ∃ c ∈ uni, p.1 = kT c := fun p hp => by
  obtain ⟨c, _, e, m, _⟩ := x p hp
  exact ⟨c, m, e⟩
theorem kT_v (c : List Int) : (kT c).map kV = c.map V.int := by
  unfold kT To.kT
  rw [List.map_map]
  rfl
theorem uni_two {m l : Nat} (hm : m ≤ 10) {t : List Nat} (h : t ∈ rise m l) : cst t ++ cst t ∈ uni := by
  by_cases z : t = []
  · have := (uni_rise hm h).1
    rw [z] at this ⊢
    exact this
  · exact (uni_rise hm h).2.1 z
theorem valV_mem {kvs : List (List Key × V)} {k : List Key} {v : V} (h : valV kvs k = some v) : (k, v) ∈ kvs := by
  obtain ⟨p, hp, rfl⟩ := Option.map_eq_some_iff.mp h
  have e := List.find?_some hp
  have m := List.mem_of_find?_eq_some hp
  rw [← of_decide_eq_true e]
  exact m
theorem Tv.dtr {G : Hp} : ∀ {kvs : List (List Key × V)}, Tv G kvs → ∃ D, DtR G kvs D ∧ ∀ d ∈ D, d.1 ∈ uni ∧ d.2.length = 8
  | [], _ => ⟨[], .nil, fun _ m => nomatch m⟩
  | p :: kvs, x => by
    obtain ⟨D, h1, h2⟩ := Tv.dtr (kvs := kvs) fun q hq => x q (List.mem_cons_of_mem _ hq)
    obtain ⟨c, bs, e1, e2, e3, e4⟩ := x p List.mem_cons_self
    refine ⟨(c, bs) :: D, .cons ⟨e1, e3⟩ h1, fun d hd => ?_⟩
    rcases List.mem_cons.mp hd with rfl | hd
    · exact ⟨e2, e4⟩
    · exact h2 d hd
theorem Tv.upd {G : Hp} {kvs ks : List (List Key × V)} {a : Addr} {o : HO} (x : Tv G kvs) (ha : G a = some (.dT ks)) : Tv (upd G a o) kvs := fun p hp => by
  obtain ⟨c, bs, h1, h2, ⟨b, e, hb⟩, h4⟩ := x p hp
  exact ⟨c, bs, h1, h2, ⟨b, e, by rw [upd_ne (fun z => by rw [z, ha] at hb; cases hb)]; exact hb⟩, h4⟩
theorem sub_len {α : Type} [DecidableEq α] : ∀ {l m : List α}, l.Nodup → (∀ x ∈ l, x ∈ m) → l.length ≤ m.length
  | [], _, _, _ => Nat.zero_le _
  | a :: l, m, nd, h => by
    rw [List.nodup_cons] at nd
    have ha := h a List.mem_cons_self
    have := sub_len (l := l) (m := m.erase a) nd.2 fun x hx => (List.mem_erase_of_ne (fun z => nd.1 (by rw [← z]; exact hx))).mpr (h x (List.mem_cons_of_mem _ hx))
    rw [List.length_erase_of_mem ha] at this
    have := List.length_pos_of_mem ha
    rw [List.length_cons]
    omega
/-- all tables that were made -/
structure Fam (H0 G : Hp) (as : List Addr) : Prop where
  nd : as.Nodup
  fr : ∀ a ∈ as, Frs H0 a
  tb : ∀ a ∈ as, ∃ kvs, G a = some (.dT kvs) ∧ Tv G kvs ∧ kvs.length ≤ 400
structure S (fe c : Addr) (H0 : Hp) (B : Nat) (T : Addr) (kt : List (List Key × V)) (as : List Addr) (G : Hp) : Prop where
  fd : Feed G fe c B
  ke : Ke (· = fe) H0 G
  fam : Fam H0 G as
  ht : G T = some (.dT kt)
  mT : T ∈ as
section
variable {fe c T : Addr} {H0 G G' : Hp} {B B' : Nat} {kt kvs kvs' : List (List Key × V)} {as : List Addr} {a p : Addr}
theorem feed_nt (F : Feed G fe c B) (h : G a = some (.dT kvs)) : a ≠ fe ∧ a ≠ c := by
  obtain ⟨ns, n, r, h1, h2, _⟩ := F
  exact ⟨fun z => (by rw [z, h1] at h; cases h), fun z => (by rw [z, h2] at h; cases h)⟩
theorem S.kp (x : S fe c H0 B T kt as G) (k : Ke (· = fe) G G') (F : Feed G' fe c B') : S fe c H0 B' T kt as G' := by
  have kd : ∀ {a kvs}, G a = some (.dT kvs) → G' a = some (.dT kvs) := fun {a kvs} h => k.keep a _ h (fun ps z => by cases z) (feed_nt x.fd h).1
  exact ⟨F, x.ke.trans k, ⟨x.fam.nd, x.fam.fr, fun a m => by
    obtain ⟨kvs, h1, h2, h3⟩ := x.fam.tb a m
    exact ⟨kvs, kd h1, h2.ke k, h3⟩⟩, kd x.ht, x.mT⟩
theorem S.same (x : S fe c H0 B T kt as G) (s : Same G G') : S fe c H0 B T kt as G' := x.kp (.same s) (x.fd.same s)
theorem S.mono (x : S fe c H0 B T kt as G) (h : B ≤ B') : S fe c H0 B' T kt as G := ⟨x.fd.mono h, x.ke, x.fam, x.ht, x.mT⟩
theorem frs_ke (k : Ke (· = fe) H0 G) (F : Feed G fe c B) (n : G p = none) : Frs H0 p := fun b o e nt z => by
  subst z
  by_cases z : b = fe
  · obtain ⟨ns, m, r, h1, _⟩ := F
    rw [z, h1] at n
    cases n
  · rw [k.keep b o e nt z] at n
    cases n
theorem S.new (x : S fe c H0 B T kt as G) (n : G p = none) (tv : Tv G kvs) (l : kvs.length ≤ 400) : S fe c H0 B T kt (as ++ [p]) (upd G p (.dT kvs)) := by
  have s : Same G (upd G p (.dT kvs)) := same_new n
  have y := x.same s
  refine ⟨y.fd, y.ke, ⟨List.nodup_append.mpr ⟨x.fam.nd, nd1, fun a m b m2 e => ?_⟩, fun a m => ?_, fun a m => ?_⟩, y.ht, List.mem_append.mpr (.inl x.mT)⟩
  · obtain ⟨ks, h, _⟩ := x.fam.tb a m
    rw [e, List.mem_singleton.mp m2, n] at h
    cases h
  · rcases List.mem_append.mp m with m | m
    · exact x.fam.fr a m
    · rw [List.mem_singleton.mp m]
      exact frs_ke x.ke x.fd n
  · rcases List.mem_append.mp m with m | m
    · exact y.fam.tb a m
    · rw [List.mem_singleton.mp m]
      exact ⟨kvs, upd_same, tv.ke (Ke.same (F := Nof) s), l⟩
/-- a dict is written -/
theorem ke_dict (k : Ke (· = fe) H0 G) (fr : Frs H0 a) (ha : G a = some (.dT kvs)) : Ke (· = fe) H0 (upd G a (.dT kvs')) := by
  refine ⟨fun b o h n m => ?_, fun P t => ?_, fun b xs h => ?_⟩
  · rw [upd_ne (fr b o h n)]
    exact k.keep b o h n m
  · obtain ⟨ps, h, r⟩ := k.tabs P t
    refine ⟨ps, ?_, r⟩
    rw [upd_ne (fun z => by rw [z, ha] at h; cases h)]
    exact h
  · have e := k.tups b xs h
    rw [upd_ne (fun z => by rw [z, ha] at e; cases e)]
    exact e
theorem feed_dict (F : Feed G fe c B) (ha : G a = some (.dT kvs)) : Feed (upd G a (.dT kvs')) fe c B := by
  have z := feed_nt F ha
  exact F.upd z.1 z.2
theorem S.set (x : S fe c H0 B T kt as G) (m : a ∈ as) (ha : G a = some (.dT kvs)) (tv : Tv G kvs') (l : kvs'.length ≤ 400) : S fe c H0 B T (if a = T then kvs' else kt) as (upd G a (.dT kvs')) := by
  refine ⟨feed_dict x.fd ha, ke_dict x.ke (x.fam.fr a m) ha, ⟨x.fam.nd, x.fam.fr, fun b mb => ?_⟩, ?_, x.mT⟩
  · by_cases z : b = a
    · rw [z]
      exact ⟨kvs', upd_same, tv.upd ha, l⟩
    · obtain ⟨ks, h1, h2, h3⟩ := x.fam.tb b mb
      exact ⟨ks, by rw [upd_ne z]; exact h1, h2.upd ha, h3⟩
  · by_cases z : a = T
    · rw [if_pos z, ← z]
      exact upd_same
    · rw [if_neg z, upd_ne (Ne.symm z)]
      exact x.ht
theorem S.put (x : S fe c H0 B T kt as G) (m : a ∈ as) (nT : a ≠ T) (ha : G a = some (.dT kvs)) (tv : Tv G kvs') (l : kvs'.length ≤ 400) : S fe c H0 B T kt as (upd G a (.dT kvs')) := by
  have := x.set m ha tv l
  rw [if_neg nT] at this
  exact this
theorem S.putT (x : S fe c H0 B T kt as G) (tv : Tv G kvs') (l : kvs'.length ≤ 400) : S fe c H0 B T kvs' as (upd G T (.dT kvs')) := by
  have := x.set x.mT x.ht tv l
  rw [if_pos rfl] at this
  exact this
/-- and the key that was drawn, the list so far -/
structure W (fe c : Addr) (H0 : Hp) (B : Nat) (T : Addr) (kt : List (List Key × V)) (as : List Addr) (b1 : Addr) (t1 : List Nat) (Lf : Addr) (fs : List Addr) (G : Hp) : Prop where
  s : S fe c H0 B T kt as G
  b : G b1 = some (.tup (t1.map nv))
  l : G Lf = some (.lst (fs.map V.ref))
  fl : Frs H0 Lf
variable {b1 Lf : Addr} {t1 : List Nat} {fs : List Addr}
theorem W.nf (x : W fe c H0 B T kt as b1 t1 Lf fs G) (h0 : ∃ o, H0 fe = some o ∧ ∀ ps, o ≠ .tbl ps) : Lf ≠ fe := by
  obtain ⟨o, h, n⟩ := h0
  exact Ne.symm (x.fl fe o h n)
theorem W.same (x : W fe c H0 B T kt as b1 t1 Lf fs G) (s : Same G G') : W fe c H0 B T kt as b1 t1 Lf fs G' := ⟨x.s.same s, s _ _ x.b, s _ _ x.l, x.fl⟩
theorem W.kp (x : W fe c H0 B T kt as b1 t1 Lf fs G) (n : Lf ≠ fe) (k : Ke (· = fe) G G') (F : Feed G' fe c B') : W fe c H0 B' T kt as b1 t1 Lf fs G' := ⟨x.s.kp k F, k.tups _ _ x.b, k.lst x.l n, x.fl⟩
theorem W.mono (x : W fe c H0 B T kt as b1 t1 Lf fs G) (h : B ≤ B') : W fe c H0 B' T kt as b1 t1 Lf fs G := ⟨x.s.mono h, x.b, x.l, x.fl⟩
theorem W.new (x : W fe c H0 B T kt as b1 t1 Lf fs G) (n : G p = none) (tv : Tv G kvs) (l : kvs.length ≤ 400) : W fe c H0 B T kt (as ++ [p]) b1 t1 Lf fs (upd G p (.dT kvs)) := by
  have s : Same G (upd G p (.dT kvs)) := same_new n
  exact ⟨x.s.new n tv l, s _ _ x.b, s _ _ x.l, x.fl⟩
theorem W.put (x : W fe c H0 B T kt as b1 t1 Lf fs G) (m : a ∈ as) (nT : a ≠ T) (ha : G a = some (.dT kvs)) (tv : Tv G kvs') (l : kvs'.length ≤ 400) : W fe c H0 B T kt as b1 t1 Lf fs (upd G a (.dT kvs')) := by
  refine ⟨x.s.put m nT ha tv l, ?_, ?_, x.fl⟩
  · rw [upd_ne (fun z => by have := x.b; rw [z, ha] at this; cases this)]
    exact x.b
  · rw [upd_ne (fun z => by have := x.l; rw [z, ha] at this; cases this)]
    exact x.l
/-- another list takes the place of the list so far -/
theorem W.lst {L2 : Addr} {fs2 : List Addr} (x : W fe c H0 B T kt as b1 t1 Lf fs G) (n : G L2 = none) (s : Same G G') (h : G' L2 = some (.lst (fs2.map V.ref))) : W fe c H0 B T kt as b1 t1 L2 fs2 G' := ⟨x.s.same s, s _ _ x.b, h, frs_ke x.s.ke x.s.fd n⟩
theorem S.wr (x : S fe c H0 B T kt as G) {Lf : Addr} {xs ys : List V} (fl : Frs H0 Lf) (n1 : Lf ≠ fe) (n2 : Lf ≠ c) (h : G Lf = some (.lst xs)) : S fe c H0 B T kt as (upd G Lf (.lst ys)) := by
  have nd : ∀ {a kvs}, G a = some (.dT kvs) → a ≠ Lf := fun h1 z => by
    rw [z, h] at h1
    cases h1
  refine ⟨x.fd.upd n1 n2, x.ke.write fl h, ⟨x.fam.nd, x.fam.fr, fun a m => ?_⟩, ?_, x.mT⟩
  · obtain ⟨kvs, h1, h2, h3⟩ := x.fam.tb a m
    refine ⟨kvs, by rw [upd_ne (nd h1)]; exact h1, fun p hp => ?_, h3⟩
    obtain ⟨c, bs, e1, e2, ⟨b, e, hb⟩, e4⟩ := h2 p hp
    exact ⟨c, bs, e1, e2, ⟨b, e, by rw [upd_ne (fun z => by rw [z, h] at hb; cases hb)]; exact hb⟩, e4⟩
  · rw [upd_ne (nd x.ht)]
    exact x.ht
theorem W.app (x : W fe c H0 B T kt as b1 t1 Lf fs G) (n1 : Lf ≠ fe) (n2 : Lf ≠ c) : W fe c H0 B T kt as b1 t1 Lf (fs ++ [a]) (upd G Lf (.lst (fs.map V.ref ++ [.ref a]))) := by
  refine ⟨x.s.wr x.fl n1 n2 x.l, ?_, ?_, x.fl⟩
  · rw [upd_ne (fun z => by have := x.b; rw [z, x.l] at this; cases this)]
    exact x.b
  · rw [upd_same, List.map_append]
    rfl
theorem S.at (x : S fe c H0 B T kt as G) : Tv G kt := by
  obtain ⟨kvs, h1, h2, _⟩ := x.fam.tb T x.mT
  rw [x.ht] at h1
  cases h1
  exact h2
theorem S.val (x : S fe c H0 B T kt as G) {k : List Key} {v : V} (h : valV kt k = some v) : ∃ bs, TupB G v bs ∧ bs.length = 8 := by
  obtain ⟨_, bs, _, _, tb, l⟩ := x.at _ (valV_mem h)
  exact ⟨bs, tb, l⟩
end
section
variable {P : Program} {w : World} {K : PySem.W.Frag} {mg : Str → Option Value} {base : Heap}
abbrev sTbs : Stmt := topS 44
abbrev nTbs : List Str := ["feed", "book", "claim", "every", "many", "table", "numbers", "setting", "keys", "one", "found", "less", "more", "turned", "turn", "other"]
theorem scTbs : FnScope nTbs ["feed", "book", "claim", "every", "many"] (defScope sTbs) := ⟨rfl, rfl, rfl, by decide +kernel, rfl, by decide +kernel, by decide +kernel⟩
def spTbs : Sp := fun vs H Q _ => ∃ (fe c : Addr) (v u : V) (e : Addr) (m B : Nat) (css : List (List Int)) (cs ks : List Int), vs = [.ref fe, v, u, .ref e, .int (m : Nat)] ∧ Feed H fe c B ∧ B ≤ 2 ^ 50 ∧ Bk H v css ∧ TupI H u cs ∧ css.length ≤ 10 ∧ 1 ≤ m ∧ m ≤ css.length ∧ H e = some (.lst (ks.map V.int)) ∧ e ≠ fe ∧ (∀ k ∈ ks, 1 ≤ k ∧ k ≤ 8) ∧ ks.length ≤ 8 ∧ (∀ c ∈ css, IsCl c) ∧ IsCl cs ∧
  ∀ (L : Addr) (as : List Addr) (H' : Hp), Feed H' fe c (B + 200) → Ke (· = fe) H H' → Frs H L → H' L = some (.lst (as.map V.ref)) → as.length ≤ 20 → (∀ a ∈ as, Frs H a ∧ ∃ kvs, H' a = some (.dT kvs) ∧ Tv H' kvs) → Q (.ref L) H'
theorem ok_tbs {f fP fG fY fD fS : Addr} {fd fdP fdG fdY fdD fdS : FuncData} {k : Nat} (F : Fun K "_law_s_tables" "_law_s_tables" sTbs f fd) (T : Zb mg)
    (FP : Fun K "_law_s_tuples" "_law_s_tuples" sTup fP fdP) (bP : Binds K fdP ["count", "many"] []) (gP : mg "_law_s_tuples" = some (.ref fP)) (GP : FnOk P w K mg base CX0 1 fP fdP ["count", "many"] spTup)
    (FG : Fun K "_law_sagainst" "_law_sagainst" sSag fG fdG) (bG : Binds K fdG ["claims", "claim", "things"] []) (gG : mg "_law_sagainst" = some (.ref fG)) (GG : FnOk P w K mg base CX0 3 fG fdG ["claims", "claim", "things"] spSag)
    (FY : Fun K "_law_sthose" "_law_sthose" Sic.sSth fY fdY) (bY : Binds K fdY ["book", "numbers"] []) (gY : mg "_law_sthose" = some (.ref fY)) (GY : FnOk P w K mg base CX0 1 fY fdY ["book", "numbers"] Sic.spSth)
    (FD : Fun K "_law_sdraw" "_law_sdraw" sDrw fD fdD) (bD : Binds K fdD ["feed", "many"] []) (gD : mg "_law_sdraw" = some (.ref fD)) (GD : FnOk P w K mg base CX0 2 fD fdD ["feed", "many"] spDrw)
    (FS : Fun K "_law_ssetting" "_law_ssetting" Wd.sSst fS fdS) (bS : Binds K fdS ["feed"] []) (gS : mg "_law_ssetting" = some (.ref fS)) (GS : FnOk P w K mg base CX0 3 fS fdS ["feed"] Wd.spSst) :
    FnOk P w K mg base CX0 (k + 4) f fd ["feed", "book", "claim", "every", "many"] spTbs := by
  refine F.ok scTbs (fun vs H Q E h => ?_) (fun cdv A outer s H vs Q E hr h => ?_)
  · obtain ⟨fe, c, v, u, e, m, B, css, cs, ks, rfl, _⟩ := h
    rfl
  · obtain ⟨fe, c, v, u, e, m, B, css, cs, ks, rfl, F0, hB, hb, tw, l10, m1, ml, he, nef, hk, lk, ib, ic, q⟩ := h
    have hr1 : Room 1 _ := hr.mono (by omega)
    have hr2 : Room 2 _ := hr.mono (by omega)
    have hr3 : Room 3 _ := hr.mono (by omega)
    refine ⟨_, (Evl.pss_cut (ps_set (i := 5) scTbs.nd rfl (.inl rfl) pe_dnewT)
      (Evl.pss_cut (ps_for PassesOwn.never rfl (pi_list (pe_call GP hr1 (by rfl) gP FP.kp bP .nil pass0 (pa_cons (pe_callB call_len_seq (by rfl) T.z_len (by decide +kernel) (pa_cons (pv 1) pa_nil)) (pa_cons (pe_op op_sub (pv 4) pe_int) pa_nil)))) (pg_name (i := 6) scTbs.nd rfl (.inl rfl)) (Evl.pss_cut (ps_set (i := 7) scTbs.nd rfl (.inl rfl) (pe_call GG hr3 (by rfl) gG FG.kp bG .nil pass0 (pa_cons (pe_call GY hr1 (by rfl) gY FY.kp bY .nil pass0 (pa_cons (pv 1) (pa_cons (pv 6) pa_nil))) (pa_cons (pv 2) (pa_cons (pv 3) pa_nil)))))
      (pss_one (ps_dput (lt1 hr.units) (pv 5) (pv 6) (pe_ix ix_list (pe_lstN (pa_cons (pv 7) (pa_cons (pe_op op_repTN (pe_tupN (pa_cons pe_bl pa_nil)) pe_int) pa_nil))) (pe_callTy call_int1 (by rfl) T.z_int (by decide +kernel) (pa_cons (pe_cmpR op_isN (pv 7) pe_non (nomark _)) pa_nil)) (fun _ _ => rfl)) rfl))))
      (Evl.pss_cut (ps_set (i := 8) scTbs.nd rfl (.inl rfl) (pe_callB (Stu.cr_sortedTD rfl) (by rfl) T.z_sorted (by decide +kernel) (pa_cons (pv 5) pa_nil)))
      (Evl.pss_cut (ps_set (i := 9) scTbs.nd rfl (.inl rfl) (pe_ix ix_list (pv 8) (pe_call GD hr2 (by rfl) gD FD.kp bD .nil pass0 (pa_cons (pv 0) (pa_cons (pe_callB call_len_seq (by rfl) T.z_len (by decide +kernel) (pa_cons (pv 8) pa_nil)) pa_nil))) (fun _ _ => rfl)))
      (Evl.pss_cut (ps_set (i := 10) scTbs.nd rfl (.inl rfl) (pe_lstN (pa_cons (pv 5) (pa_cons pe_dnewT pa_nil))))
      (Evl.pss_cut (ps_set (i := 11) scTbs.nd rfl (.inl rfl) (pe_callTy (Dtx.cr_copyT (Tb43.lt4 hr.units)) (by rfl) T.z_dict (by decide +kernel) (pa_cons (pv 5) pa_nil)))
      (Evl.pss_cut (ps_expr (pe_bm PySem.F.plainAttrs_dict PySem.F.slot_dict_pop PySem.F.type_dict_pop (Dtx.mt_pop1T (lt1 hr.units)) (pv 11) (pa_cons (pv 9) pa_nil)))
      (Evl.pss_cut (ps_set (i := 12) scTbs.nd rfl (.inl rfl) (pe_callTy (Dtx.cr_copyT (Tb43.lt4 hr.units)) (by rfl) T.z_dict (by decide +kernel) (pa_cons (pv 5) pa_nil)))
      (Evl.pss_cut (ps_dput (lt1 hr.units) (pv 12) (pe_op op_catTN (pv 9) (pv 9)) (pe_dget (lt1 hr.units) (pv 5) (pv 9) (fun _ _ => rfl)) rfl)
      (Evl.pss_cut (ps_dput (lt1 hr.units) (pv 12) (pe_tupN (pa_cons (pe_un un_neg pe_int) pa_nil)) (pe_dget (lt1 hr.units) (pv 5) (pv 9) (fun _ _ => rfl)) rfl)
      (Evl.pss_cut (ps_dput (lt1 hr.units) (pv 12) (pe_tupRgN rfl (by rfl) T.z_tuple (prg_1 (by rfl) T.z_range (pv 4))) (pe_ix ix_list (pe_lstN (pa_cons (pe_op op_repTN (pe_tupN (pa_cons pe_bl pa_nil)) pe_int) (pa_cons (pe_call GS hr3 (by rfl) gS FS.kp bS .nil pass0 (pa_cons (pv 0) pa_nil)) pa_nil))) (pe_call GD hr2 (by rfl) gD FD.kp bD .nil pass0 (pa_cons (pv 0) (pa_cons pe_int pa_nil))) (fun _ _ => rfl)) rfl)
      (Evl.pss_cut (ps_if (pt_cmpR op_gt (pv 4) pe_int (nomark _)) (pss_one (ps_dput (lt1 hr.units) (pv 12) (pe_tupN pa_nil) (pe_call GS hr3 (by rfl) gS FS.kp bS .nil pass0 (pa_cons (pv 0) pa_nil)) rfl)) pss_nil)
      (Evl.pss_cut (ps_set (i := 13) scTbs.nd rfl (.inl rfl) (pe_callTy (Dtx.cr_copyT (Tb43.lt4 hr.units)) (by rfl) T.z_dict (by decide +kernel) (pa_cons (pv 11) pa_nil)))
      (Evl.pss_cut (ps_dput (lt1 hr.units) (pv 13) (Rvt.pe_revT (pv 9)) (pe_dget (lt1 hr.units) (pv 5) (pv 9) (fun _ _ => rfl)) rfl)
      (Evl.pss_cut (ps_set (i := 10) scTbs.nd rfl (.inl rfl) (pe_op op_catN (pv 10) (pe_lstN (pa_cons (pv 11) (pa_cons (pv 12) (pa_cons (pv 13) pa_nil))))))
      (Evl.pss_cut (ps_for PassesOwn.never rfl (pi_range1 (by rfl) T.z_range (pa_cons pe_int pa_nil)) (pg_name (i := 14) scTbs.nd rfl (.inl rfl)) (Evl.pss_cut (ps_set (i := 15) scTbs.nd rfl (.inl rfl) (pe_callTy (Dtx.cr_copyT (Tb43.lt4 hr.units)) (by rfl) T.z_dict (by decide +kernel) (pa_cons (pv 5) pa_nil)))
      (Evl.pss_cut (ps_dput (lt1 hr.units) (pv 15) (pv 9) (pe_call GS hr3 (by rfl) gS FS.kp bS .nil pass0 (pa_cons (pv 0) pa_nil)) rfl)
      (pss_one (ps_expr (pe_bm PySem.F.plainAttrs_list PySem.F.slot_list_append PySem.F.type_list_append mt_append (pv 10) (pa_cons (pv 15) pa_nil)))))))
      (pss_one (ps_ret (pv 10))))))))))))))))))), ?_⟩
    obtain ⟨ba, bvs, rfl, hBk, lB, aB⟩ := id hb
    -- table
    refine Evl.q_cut (M := fun σ' G => ∃ T', σ' = [some (.ref fe), some (.ref ba), some u, some (.ref e), some (.int (m : Nat)), some (.ref T'), none, none, none, none, none, none, none, none, none, none] ∧ S fe c H B T' [] [T'] G) ?_ ?_
    · refine fun p np => ⟨p, rfl, ?_⟩
      have F1 : Feed (upd H p (.dT [])) fe c B := F0.same (same_new np)
      exact ⟨F1, .same (same_new np), ⟨nd1, fun a ma => by rw [List.mem_singleton.mp ma]; exact .of np, fun a ma => by rw [List.mem_singleton.mp ma]; exact ⟨[], upd_same, fun _ h => (nomatch h), Nat.zero_le _⟩⟩, upd_same, List.mem_singleton.mpr rfl⟩
    rintro σ' H1 ⟨T', rfl, x1⟩
    -- its entries
    refine Evl.q_cut (M := fun σ' G => ∃ (y6 y7 : Option V) (kt : List (List Key × V)), σ' = [some (.ref fe), some (.ref ba), some u, some (.ref e), some (.int (m : Nat)), some (.ref T'), y6, y7, none, none, none, none, none, none, none, none] ∧ S fe c H B T' kt [T'] G ∧ kt.length ≤ 252 ∧ (∀ p ∈ kt, ∃ t ∈ rise css.length (m - 1), p.1 = kN t) ∧ ∀ t ∈ rise css.length (m - 1), ∃ v, valV kt (kN t) = some v) ?_ ?_
    · have tw1 := tw.ke x1.ke
      refine ⟨_, rfl, ba, _, rfl, .inr (.of (x1.ke.tups _ _ hBk)), _, rfl, _, _, rfl, rfl, css.length, m - 1, ?_, l10, fun L ws ts G1 s1 hL tn td => ?_⟩
      · rw [lB]
        exact congrArg (fun z => [V.int ((css.length : Nat) : Int), V.int z]) (show ((m : Nat) : Int) - 1 = ((m - 1 : Nat) : Int) by omega)
      have nLT : L ≠ T' := fun z => by
        have := s1 _ _ x1.ht
        rw [← z, hL] at this
        cases this
      have lts : ts.length ≤ 252 := by
        have := rise_len css.length (by omega) (m - 1) (by omega)
        exact Nat.le_trans (sub_len td.nd fun t h => (td.me t).mp h) this
      refine ⟨L, rfl, ⟨_, .of hL⟩, for_list (xs := ws) (Pv := fun i σ G => ∃ (y6 y7 : Option V) (kt : List (List Key × V)), σ = [some (.ref fe), some (.ref ba), some u, some (.ref e), some (.int (m : Nat)), some (.ref T'), y6, y7, none, none, none, none, none, none, none, none] ∧ S fe c H B T' kt [T'] G ∧ G L = some (.lst ws) ∧ (∀ b xs, G1 b = some (.tup xs) → G b = some (.tup xs)) ∧ kt.length ≤ i ∧ (∀ p ∈ kt, ∃ t ∈ rise css.length (m - 1), p.1 = kN t) ∧ ∀ j t, j < i → ts[j]? = some t → ∃ v, valV kt (kN t) = some v) ⟨none, none, [], rfl, x1.same s1, hL, fun _ _ h => h, Nat.zero_le _, fun _ h => (nomatch h), fun j t h => absurd h (Nat.not_lt_zero _)⟩ (fun i σ G _ z => .of z.choose_spec.choose_spec.choose_spec.2.2.1) ?_ ?_⟩
      · rintro i x σ G hx ⟨y6, y7, kt, rfl, xS, hLG, tu, lk', ky, vl⟩
        obtain ⟨t, ht, ta, rfl, hta⟩ := tn.at hx
        have mt := (td.me t).mp (List.mem_of_getElem? ht)
        have mr := mem_rise.mp mt
        have lit := (List.getElem?_eq_some_iff.mp ht).1
        have hta2 := tu _ _ hta
        have ln : t.length ≤ 10 := by
          rcases up_le t 0 mr.2.1 (fun n hn => ⟨Nat.zero_le _, mr.2.2 n hn⟩) with rfl | r
          · exact Nat.zero_le _
          · omega
        -- setting
        refine Evl.q_cut (M := fun σ' G => ∃ z, σ' = [some (.ref fe), some (.ref ba), some u, some (.ref e), some (.int (m : Nat)), some (.ref T'), some (.ref ta), some z, none, none, none, none, none, none, none, none] ∧ S fe c H B T' kt [T'] G ∧ G L = some (.lst ws) ∧ (∀ b xs, G1 b = some (.tup xs) → G b = some (.tup xs)) ∧ (z = .non ∨ ∃ bs, TupB G z bs ∧ bs.length = 8)) ?_ ?_
        · have lc20 : cs.length ≤ 20 := Nat.le_trans ic.len (by decide)
          refine ⟨_, rfl, _, rfl, .ref ba, .ref ta, css, t, rfl, hb.ke xS.ke, ⟨ta, rfl, .inr hta2⟩, mr.2.2, by omega, fun p1 G3 s3 hc => ?_⟩
          refine ⟨_, rfl, _, rfl, .ref p1, u, e, pick css t, cs, ks, rfl, hc, (tw.ke xS.ke).ke (Ke.same (F := Nof) s3), ic.says, lc20, fun c hc => ?_, by rw [show (pick css t).length = t.length from List.length_map _]; omega, s3 _ _ (xS.ke.lst he nef), hk, lk, fun G4 s4 _ => ?_, fun r G4 bs s4 hr ct => ?_⟩
          · have := ib c (mem_pick hc mr.2.2)
            exact ⟨this.says, Nat.le_trans this.len (by decide)⟩
          · exact ⟨_, rfl, xS.same (s3.trans s4), s4 _ _ (s3 _ _ hLG), fun b xs h => s4 _ _ (s3 _ _ (tu b xs h)), .inl rfl⟩
          · exact ⟨_, rfl, xS.same (s3.trans s4), s4 _ _ (s3 _ _ hLG), fun b xs h => s4 _ _ (s3 _ _ (tu b xs h)), .inr ⟨bs, ⟨r, rfl, hr⟩, ct.1⟩⟩
        clear hta2 hLG tu xS hx
        rintro σ' G ⟨z, rfl, xS, hLG, tu, hz⟩
        have hta2 := tu _ _ hta
        have fin : ∀ (y : V) (bs : List Bool) (G5 : Hp), Same G G5 → TupB G5 y bs → bs.length = 8 → ∃ (y6 y7 : Option V) (kt' : List (List Key × V)), [some (V.ref fe), some (.ref ba), some u, some (.ref e), some (.int (m : Nat)), some (.ref T'), some (.ref ta), some z, none, none, none, none, none, none, none, none] = [some (V.ref fe), some (.ref ba), some u, some (.ref e), some (.int (m : Nat)), some (.ref T'), y6, y7, none, none, none, none, none, none, none, none] ∧ S fe c H B T' kt' [T'] (upd G5 T' (.dT (putK kt (kN t) y))) ∧ (upd G5 T' (.dT (putK kt (kN t) y))) L = some (.lst ws) ∧ (∀ b xs, G1 b = some (.tup xs) → (upd G5 T' (.dT (putK kt (kN t) y))) b = some (.tup xs)) ∧ kt'.length ≤ i + 1 ∧ (∀ p ∈ kt', ∃ t ∈ rise css.length (m - 1), p.1 = kN t) ∧ ∀ j t, j < i + 1 → ts[j]? = some t → ∃ v, valV kt' (kN t) = some v := fun y bs G5 s5 tb b8 => by
          have x5 := xS.same s5
          obtain ⟨ks', h1, h2, _⟩ := x5.fam.tb T' x5.mT
          rw [x5.ht] at h1
          cases h1
          have len := length_putK kt (kN t) y
          refine ⟨_, _, putK kt (kN t) y, rfl, x5.putT (h2.put (uni_rise l10 mt).1 tb b8) (by omega), ?_, fun b xs h => ?_, by omega, fun p hp => ?_, fun j t' hj ht' => ?_⟩
          · rw [upd_ne nLT]
            exact s5 _ _ hLG
          · have := s5 _ _ (tu b xs h)
            rw [upd_ne (fun z => by rw [z, x5.ht] at this; cases this)]
            exact this
          · rcases mem_putK hp with rfl | hp
            · exact ⟨t, mt, rfl⟩
            · exact ky p hp
          · rw [valV_put]
            by_cases z : kN t' = kN t
            · rw [if_pos z]
              exact ⟨y, rfl⟩
            · rw [if_neg z]
              refine vl j t' ?_ ht'
              rcases Nat.lt_or_ge j i with h | h
              · exact h
              · have : j = i := by omega
                rw [this, ht] at ht'
                cases ht'
                exact absurd rfl z
        refine ⟨_, rfl, by show 1 ≤ sizeLine; decide, fun a1 G2 n1 s2 h1 _ => ?_⟩
        refine ⟨a1, 8, _, rfl, rfl, h1, by simp, by decide, by decide, by decide, fun p2 G3 s3 hp2 => ?_⟩
        refine ⟨by show 2 ≤ sizeLine; decide, fun L2 G4 n4 s4 h4 _ => ?_⟩
        have s24 : Same G G4 := (s2.trans s3).trans s4
        have hT4 := (xS.same s24).ht
        have l4 : kt.length < sizeLine := by
          rw [sizeLine_eq]
          have : ws.length = ts.length := tn.1
          have := (List.getElem?_eq_some_iff.mp ht).1
          omega
        rcases hz with rfl | ⟨bs, tb, b8⟩
        · refine ⟨_, rfl, rfl, .inr ⟨_, rfl, _, _, 1, .ref p2, rfl, rfl, .of h4, rfl, ?_⟩⟩
          exact ⟨_, rfl, _, rfl, T', _, rfl, DPut.t (k := kN t) hT4 (by rw [kN_v]; exact s24 _ _ hta2) l4, fin (.ref p2) (List.replicate 8 false) G4 s24 ⟨p2, rfl, s4 _ _ hp2⟩ rfl⟩
        · obtain ⟨b, rfl, hb'⟩ := tb
          refine ⟨_, rfl, rfl, .inr ⟨_, rfl, _, _, 0, .ref b, rfl, rfl, .of h4, rfl, ?_⟩⟩
          exact ⟨_, rfl, _, rfl, T', _, rfl, DPut.t (k := kN t) hT4 (by rw [kN_v]; exact s24 _ _ hta2) l4, fin (.ref b) bs G4 s24 ⟨b, rfl, s24 _ _ hb'⟩ b8⟩
      · rintro σ G ⟨y6, y7, kt, rfl, xS, _, _, lk', ky, vl⟩
        refine ⟨y6, y7, kt, rfl, xS, Nat.le_trans lk' (by rw [tn.1]; exact lts), ky, fun t h => ?_⟩
        obtain ⟨j, hj⟩ := List.getElem?_of_mem ((td.me t).mpr h)
        exact vl j t (by rw [tn.1]; exact (List.getElem?_eq_some_iff.mp hj).1) hj
    rintro σ' H2 ⟨y6, y7, kt, rfl, x2, l2, ky, vl⟩
    have kne : 0 < kt.length := by
      have t0 : List.range (m - 1) ∈ rise css.length (m - 1) := mem_rise.mpr ⟨List.length_range, List.pairwise_lt_range, fun n hn => by have := List.mem_range.mp hn; omega⟩
      obtain ⟨v, hv⟩ := vl _ t0
      exact List.length_pos_of_mem (valV_mem hv)
    -- keys
    refine Evl.q_cut (M := fun σ' G => ∃ (K1 : Addr) (ys : List V), σ' = [some (.ref fe), some (.ref ba), some u, some (.ref e), some (.int (m : Nat)), some (.ref T'), y6, y7, some (.ref K1), none, none, none, none, none, none, none] ∧ S fe c H B T' kt [T'] G ∧ G K1 = some (.lst ys) ∧ K1 ≠ fe ∧ ys.length = kt.length ∧ ∀ y ∈ ys, ∃ t ∈ rise css.length (m - 1), TupN G y t) ?_ ?_
    · refine ⟨_, rfl, T', kt, m - 1, 16, rfl, x2.ht, fun nd h2 => ?_, fun p hp => ?_, fun ys _ ⟨bs, ik, pm⟩ _ => fun K1 G nK s1 hK _ => ?_⟩
      · refine Nat.pos_of_ne_zero fun z => ?_
        match kt, nd, h2, ky with
        | [], _, h2, _ => exact absurd h2 (by decide)
        | [_], _, h2, _ => exact absurd h2 (by simp)
        | p1 :: p2 :: r, nd, _, ky =>
          obtain ⟨t1, h1, e1⟩ := ky p1 List.mem_cons_self
          obtain ⟨t2, h2, e2⟩ := ky p2 (List.mem_cons_of_mem _ List.mem_cons_self)
          have z1 := (mem_rise.mp h1).1
          have z2 := (mem_rise.mp h2).1
          rw [z] at z1 z2
          rw [List.length_eq_zero_iff.mp z1] at e1
          rw [List.length_eq_zero_iff.mp z2] at e2
          rw [List.map_cons, List.map_cons, List.nodup_cons] at nd
          exact nd.1 (by rw [e1, e2]; exact List.mem_cons_self)
      · obtain ⟨t, ht, e⟩ := ky p hp
        have mr := mem_rise.mp ht
        refine ⟨cst t, e, by rw [List.length_map]; exact mr.1, fun n hn => ?_⟩
        obtain ⟨i, hi, rfl⟩ := List.mem_map.mp hn
        have := mr.2.2 i hi
        omega
      · refine ⟨K1, ys, rfl, x2.same s1, hK, x2.fd.nf nK, ?_, fun y hy => ?_⟩
        · rw [pm.length_eq, List.length_map, ← ik.length]
        · have hy := pm.mem_iff.mp hy
          obtain ⟨b, hb, rfl⟩ := List.mem_map.mp hy
          obtain ⟨p, hp, h⟩ := paired_mem ik hb
          obtain ⟨t, ht, e⟩ := ky p hp
          rw [e, kN_v] at h
          exact ⟨t, ht, b, rfl, s1 _ _ h⟩
    rintro σ' H3 ⟨K1, ys, rfl, x3, hK, nKf, lys, al⟩
    -- one
    refine Evl.q_cut (M := fun σ' G => ∃ (b1 : Addr) (t1 : List Nat), σ' = [some (.ref fe), some (.ref ba), some u, some (.ref e), some (.int (m : Nat)), some (.ref T'), y6, y7, some (.ref K1), some (.ref b1), none, none, none, none, none, none] ∧ S fe c H (B + 1) T' kt [T'] G ∧ G b1 = some (.tup (t1.map nv)) ∧ t1 ∈ rise css.length (m - 1)) ?_ ?_
    · refine ⟨_, rfl, _, rfl, _, rfl, K1, _, rfl, .inl (.of hK), fe, c, _, B, rfl, by omega, by omega, x3.fd, by omega, fun d G d0 d1 F4 b4 => ?_⟩
      obtain ⟨n, rfl⟩ := Int.eq_ofNat_of_zero_le d0
      have ln : n < ys.length := by omega
      obtain ⟨t, ht, b, e, hb'⟩ := al ys[n] (List.getElem_mem ln)
      have k4 : Ke (· = fe) H3 G := .but x3.fd b4
      exact ⟨_, _, (n : Int), .ref b, rfl, rfl, .of (k4.lst hK nKf), at_of (j := n) rfl (by rw [List.getElem?_eq_getElem ln, e]), b, t, rfl, x3.kp k4 F4, k4.tups _ _ hb', ht⟩
    clear x3 hK al
    rintro σ' H4 ⟨b1, t1, rfl, x4, hb1, mt1⟩
    obtain ⟨v1, hv1⟩ := vl t1 mt1
    have mr1 := mem_rise.mp mt1
    -- found
    refine Evl.q_cut (M := fun σ' G => ∃ (E0 Lf : Addr), σ' = [some (.ref fe), some (.ref ba), some u, some (.ref e), some (.int (m : Nat)), some (.ref T'), y6, y7, some (.ref K1), some (.ref b1), some (.ref Lf), none, none, none, none, none] ∧ W fe c H (B + 1) T' kt [T', E0] b1 t1 Lf [T', E0] G) ?_ ?_
    · refine ⟨_, rfl, fun E0 nE => ⟨by show 2 ≤ sizeLine; decide, fun Lf G nL s1 hL _ => ?_⟩⟩
      have y := x4.new (kvs := []) nE (fun _ h => nomatch h) (Nat.zero_le _)
      exact ⟨E0, Lf, rfl, y.same s1, s1 _ _ ((same_new nE : Same H4 _) _ _ hb1), hL, frs_ke y.ke y.fd nL⟩
    clear x4 hb1 H4
    rintro σ' H4 ⟨E0, Lf, rfl, x4⟩
    have h0 : ∃ o, H fe = some o ∧ ∀ ps, o ≠ .tbl ps := by
      obtain ⟨_, _, _, h1, _⟩ := F0
      exact ⟨_, h1, fun ps z => by cases z⟩
    have tv1 : t1.map nv = (cst t1).map V.int := by
      rw [List.map_map]
      rfl
    -- less
    refine Evl.q_cut (M := fun σ' G => ∃ le, σ' = [some (.ref fe), some (.ref ba), some u, some (.ref e), some (.int (m : Nat)), some (.ref T'), y6, y7, some (.ref K1), some (.ref b1), some (.ref Lf), some (.ref le), none, none, none, none] ∧ W fe c H (B + 1) T' kt [T', E0, le] b1 t1 Lf [T', E0] G ∧ G le = some (.dT kt) ∧ le ≠ T') ?_ ?_
    · refine ⟨_, rfl, T', kt, rfl, x4.s.ht, fun nd => nodup_hash x4.s.at.keys nd, fun _ le nl => ⟨le, rfl, x4.new nl x4.s.at (by omega), upd_same, fun z => ?_⟩⟩
      rw [z, x4.s.ht] at nl
      cases nl
    clear x4 H4
    rintro σ' H4 ⟨le, rfl, x4, hle, nle⟩
    refine Evl.q_cut (M := fun σ' G => ∃ kl, σ' = [some (.ref fe), some (.ref ba), some u, some (.ref e), some (.int (m : Nat)), some (.ref T'), y6, y7, some (.ref K1), some (.ref b1), some (.ref Lf), some (.ref le), none, none, none, none] ∧ W fe c H (B + 1) T' kt [T', E0, le] b1 t1 Lf [T', E0] G ∧ G le = some (.dT kl) ∧ Tv G kl ∧ kl.length ≤ 252) ?_ ?_
    · refine ⟨_, rfl, .inr (.inr (.inl ⟨rfl, .inr ⟨_, hle⟩⟩)), _, rfl, le, b1, kt, kN t1, v1, rfl, rfl, hle, by rw [kN_v]; exact x4.b, hv1, ?_⟩
      have dl := dropK_le kt (kN t1)
      have y := x4.put (kvs' := dropK kt (kN t1)) (by simp) nle hle x4.s.at.drop (by omega)
      exact ⟨_, rfl, y, upd_same, x4.s.at.drop.upd hle, by omega⟩
    clear x4 H4 hle
    rintro σ' H4 ⟨kl, rfl, x4, hle, tvl, ll⟩
    -- more
    refine Evl.q_cut (M := fun σ' G => ∃ mo, σ' = [some (.ref fe), some (.ref ba), some u, some (.ref e), some (.int (m : Nat)), some (.ref T'), y6, y7, some (.ref K1), some (.ref b1), some (.ref Lf), some (.ref le), some (.ref mo), none, none, none] ∧ W fe c H (B + 1) T' kt [T', E0, le, mo] b1 t1 Lf [T', E0] G ∧ G le = some (.dT kl) ∧ G mo = some (.dT kt) ∧ mo ≠ T' ∧ mo ≠ le) ?_ ?_
    · refine ⟨_, rfl, T', kt, rfl, x4.s.ht, fun nd => nodup_hash x4.s.at.keys nd, fun _ mo nm => ⟨mo, rfl, x4.new nm x4.s.at (by omega), (same_new nm : Same H4 _) _ _ hle, upd_same, fun z => ?_, fun z => ?_⟩⟩
      · rw [z, x4.s.ht] at nm
        cases nm
      · rw [z, hle] at nm
        cases nm
    clear x4 H4 hle tvl
    rintro σ' H4 ⟨mo, rfl, x4, hle, hmo, nmo, nml⟩
    -- twice
    refine Evl.q_cut (M := fun σ' G => ∃ km, σ' = [some (.ref fe), some (.ref ba), some u, some (.ref e), some (.int (m : Nat)), some (.ref T'), y6, y7, some (.ref K1), some (.ref b1), some (.ref Lf), some (.ref le), some (.ref mo), none, none, none] ∧ W fe c H (B + 1) T' kt [T', E0, le, mo] b1 t1 Lf [T', E0] G ∧ G le = some (.dT kl) ∧ G mo = some (.dT km) ∧ Tv G km ∧ km.length ≤ 253) ?_ ?_
    · obtain ⟨bs1, tb1, b81⟩ := x4.s.val hv1
      have g := DGet.t (k := kN t1) x4.s.ht (by rw [kN_v]; exact x4.b)
      rw [hv1] at g
      refine ⟨_, rfl, _, rfl, T', v1, rfl, g, ?_⟩
      refine ⟨_, rfl, _, rfl, _, rfl, b1, b1, _, _, rfl, rfl, x4.b, x4.b, ?_, fun p G s5 hp => ?_⟩
      · rw [List.length_map, sizeLine_eq]
        omega
      · rw [tv1, ← List.map_append, ← kT_v] at hp
        have y := x4.same s5
        have len := length_putK kt (kT (cst t1 ++ cst t1)) v1
        have tvp : Tv G (putK kt (kT (cst t1 ++ cst t1)) v1) := y.s.at.put (uni_two l10 mt1) (tb1.ke (Ke.same (F := Nof) s5)) b81
        refine ⟨mo, _, rfl, DPut.t (k := kT (cst t1 ++ cst t1)) (s5 _ _ hmo) hp (by rw [sizeLine_eq]; omega), ?_⟩
        exact ⟨_, rfl, y.put (by simp) nmo (s5 _ _ hmo) tvp (by omega), by rw [upd_ne (Ne.symm nml)]; exact s5 _ _ hle, upd_same, tvp.upd (s5 _ _ hmo), by omega⟩
    clear x4 H4 hle hmo
    rintro σ' H4 ⟨km, rfl, x4, hle, hmo, tvm, lm⟩
    -- minus one
    refine Evl.q_cut (M := fun σ' G => ∃ km, σ' = [some (.ref fe), some (.ref ba), some u, some (.ref e), some (.int (m : Nat)), some (.ref T'), y6, y7, some (.ref K1), some (.ref b1), some (.ref Lf), some (.ref le), some (.ref mo), none, none, none] ∧ W fe c H (B + 1) T' kt [T', E0, le, mo] b1 t1 Lf [T', E0] G ∧ G le = some (.dT kl) ∧ G mo = some (.dT km) ∧ Tv G km ∧ km.length ≤ 254) ?_ ?_
    · obtain ⟨bs1, tb1, b81⟩ := x4.s.val hv1
      have g := DGet.t (k := kN t1) x4.s.ht (by rw [kN_v]; exact x4.b)
      rw [hv1] at g
      refine ⟨_, rfl, _, rfl, T', v1, rfl, g, ?_⟩
      refine ⟨_, rfl, _, rfl, by show 1 ≤ sizeLine; decide, fun p G nP s5 hp _ => ?_⟩
      have hp : G p = some (.tup ((kT [-1]).map kV)) := hp
      have y := x4.same s5
      have len := length_putK km (kT [-1]) v1
      have tvp : Tv G (putK km (kT [-1]) v1) := (tvm.ke (Ke.same (F := Nof) s5)).put uni_neg (tb1.ke (Ke.same (F := Nof) s5)) b81
      refine ⟨mo, _, rfl, DPut.t (k := kT [-1]) (s5 _ _ hmo) hp (by rw [sizeLine_eq]; omega), ?_⟩
      exact ⟨_, rfl, y.put (by simp) nmo (s5 _ _ hmo) tvp (by omega), by rw [upd_ne (Ne.symm nml)]; exact s5 _ _ hle, upd_same, tvp.upd (s5 _ _ hmo), by omega⟩
    clear x4 H4 hle hmo tvm lm km
    rintro σ' H4 ⟨km, rfl, x4, hle, hmo, tvm, lm⟩
    -- all numbers
    refine Evl.q_cut (M := fun σ' G => ∃ km, σ' = [some (.ref fe), some (.ref ba), some u, some (.ref e), some (.int (m : Nat)), some (.ref T'), y6, y7, some (.ref K1), some (.ref b1), some (.ref Lf), some (.ref le), some (.ref mo), none, none, none] ∧ W fe c H (B + 20) T' kt [T', E0, le, mo] b1 t1 Lf [T', E0] G ∧ G le = some (.dT kl) ∧ G mo = some (.dT km) ∧ Tv G km ∧ km.length ≤ 255) ?_ ?_
    · refine ⟨by show 1 ≤ sizeLine; decide, fun a1 G2 n1 s2 h1 _ => ?_⟩
      refine ⟨a1, 8, _, rfl, rfl, h1, by simp, by decide, by decide, by decide, fun p2 G3 s3 hp2 => ?_⟩
      have y3 := x4.same (s2.trans s3)
      refine ⟨_, rfl, fe, c, _, rfl, y3.s.fd, by omega, fun bs p3 G5 F5 k5 hp3 b8 => ?_⟩
      have nf := y3.nf h0
      have y5 := y3.kp nf k5 F5
      refine ⟨by show 2 ≤ sizeLine; decide, fun L2 G6 n6 s6 h6 _ => ?_⟩
      have y6' := y5.same s6
      refine ⟨_, rfl, fe, c, 2, _, rfl, by decide, by decide, y6'.s.fd, by omega, fun d G7 d0 d1 F7 b7 => ?_⟩
      have k7 : Ke (· = fe) G6 G7 := .but y6'.s.fd b7
      have y7' := y6'.kp nf k7 F7
      have kall : Ke (· = fe) H4 G7 := ((Ke.same (s2.trans s3)).trans k5).trans ((Ke.same s6).trans k7)
      have kdd : ∀ {a ks}, H4 a = some (HO.dT ks) → G7 a = some (.dT ks) := fun {a ks} h => kall.keep a _ h (fun ps z => by cases z) (feed_nt x4.s.fd h).1
      have hL7 := k7.lst h6 (F5.same s6 |> fun F => y5.s.fd.nf n6)
      obtain ⟨n, rfl⟩ := Int.eq_ofNat_of_zero_le d0
      obtain ⟨v, cs', hv, tb, l8⟩ : ∃ v cs', [V.ref p2, V.ref p3][n]? = some v ∧ TupB G7 v cs' ∧ cs'.length = 8 := by
        obtain rfl | rfl : n = 0 ∨ n = 1 := by omega
        · exact ⟨_, List.replicate 8 true, rfl, ⟨p2, rfl, ((Ke.trans (k5) ((Ke.same s6).trans k7)).tups _ _ hp2)⟩, rfl⟩
        · exact ⟨_, bs, rfl, ⟨p3, rfl, ((Ke.same (F := (· = fe)) s6).trans k7).tups _ _ hp3⟩, b8⟩
      refine ⟨_, _, (n : Int), v, rfl, rfl, .of hL7, at_of (j := n) rfl hv, ?_⟩
      refine ⟨_, rfl, _, rfl, (m : Int), rfl, .of_le (by omega) (by omega) (by omega) (by omega), fun p G nP s8 hp _ => ?_⟩
      rw [rg_nat] at hp
      have hp : G p = some (.tup ((kT (cst (List.range m))).map kV)) := by
        rw [hp, kT_v, List.map_map]
        rfl
      have ur : cst (List.range m) ∈ uni := (uni_rise l10 (mem_rise.mpr ⟨List.length_range, List.pairwise_lt_range, fun i hi => by have := List.mem_range.mp hi; omega⟩ : List.range m ∈ rise css.length m)).1
      have y8 := y7'.same s8
      have hmo8 := s8 _ _ (kdd hmo)
      have len := length_putK km (kT (cst (List.range m))) v
      have tvp : Tv G (putK km (kT (cst (List.range m))) v) := ((tvm.ke kall).ke (Ke.same (F := Nof) s8)).put ur (tb.ke (Ke.same (F := Nof) s8)) l8
      refine ⟨mo, _, rfl, DPut.t (k := kT (cst (List.range m))) hmo8 hp (by rw [sizeLine_eq]; omega), ?_⟩
      exact ⟨_, rfl, (y8.put (by simp) nmo hmo8 tvp (by omega)).mono (by omega), by rw [upd_ne (Ne.symm nml)]; exact s8 _ _ (kdd hle), upd_same, tvp.upd hmo8, by omega⟩
    clear x4 H4 hle hmo tvm lm km
    rintro σ' H4 ⟨km, rfl, x4, hle, hmo, tvm, lm⟩
    -- none
    refine Evl.q_cut (M := fun σ' G => σ' = [some (.ref fe), some (.ref ba), some u, some (.ref e), some (.int (m : Nat)), some (.ref T'), y6, y7, some (.ref K1), some (.ref b1), some (.ref Lf), some (.ref le), some (.ref mo), none, none, none] ∧ W fe c H (B + 30) T' kt [T', E0, le, mo] b1 t1 Lf [T', E0] G ∧ G le = some (.dT kl) ∧ Tv G kl) ?_ ?_
    · refine ⟨_, rfl, _, _, rfl, rfl, ?_⟩
      by_cases z : 1 < m
      · refine ⟨true, congrArg V.bl (decide_eq_true (by omega)), ?_⟩
        refine ⟨_, rfl, fe, c, _, rfl, x4.s.fd, by omega, fun bs p3 G5 F5 k5 hp3 b8 => ?_⟩
        have kdd : ∀ {a ks}, H4 a = some (HO.dT ks) → G5 a = some (.dT ks) := fun {a ks} h => k5.keep a _ h (fun ps z => by cases z) (feed_nt x4.s.fd h).1
        have y5 := x4.kp (x4.nf h0) k5 F5
        refine ⟨_, rfl, Nat.zero_le _, fun p G nP s8 hp _ => ?_⟩
        have hp : G p = some (.tup ((kT []).map kV)) := hp
        have y8 := y5.same s8
        have hmo8 := s8 _ _ (kdd hmo)
        have len := length_putK km (kT []) (.ref p3)
        have u0 : [] ∈ uni := (uni_rise (m := 0) (l := 0) (by decide) (t := []) (mem_rise.mpr ⟨rfl, .nil, fun _ h => nomatch h⟩)).1
        have tvp : Tv G (putK km (kT []) (.ref p3)) := ((tvm.ke k5).ke (Ke.same (F := Nof) s8)).put u0 ⟨p3, rfl, s8 _ _ hp3⟩ b8
        have hle8 := s8 _ _ (kdd hle)
        refine ⟨mo, _, rfl, DPut.t (k := kT []) hmo8 hp (by rw [sizeLine_eq]; omega), ?_⟩
        obtain ⟨ks, e1, e2, _⟩ := y8.s.fam.tb le (by simp)
        rw [hle8] at e1
        cases e1
        exact ⟨rfl, (y8.put (by simp) nmo hmo8 tvp (by omega)).mono (by omega), by rw [upd_ne (Ne.symm nml)]; exact hle8, e2.upd hmo8⟩
      · obtain ⟨ks, e1, e2, _⟩ := x4.s.fam.tb le (by simp)
        rw [hle] at e1
        cases e1
        exact ⟨false, congrArg V.bl (decide_eq_false (by omega)), rfl, x4.mono (by omega), hle, e2⟩
    clear x4 H4 hle hmo tvm lm km
    rintro σ' H4 ⟨rfl, x4, hle, tvl⟩
    -- turned
    refine Evl.q_cut (M := fun σ' G => ∃ tu, σ' = [some (.ref fe), some (.ref ba), some u, some (.ref e), some (.int (m : Nat)), some (.ref T'), y6, y7, some (.ref K1), some (.ref b1), some (.ref Lf), some (.ref le), some (.ref mo), some (.ref tu), none, none] ∧ W fe c H (B + 30) T' kt [T', E0, le, mo, tu] b1 t1 Lf [T', E0] G ∧ G tu = some (.dT kl) ∧ tu ≠ T' ∧ Tv G kl) ?_ ?_
    · refine ⟨_, rfl, le, kl, rfl, hle, fun nd => nodup_hash tvl.keys nd, fun _ tu nt => ⟨tu, rfl, x4.new nt tvl (by omega), upd_same, fun z => ?_, tvl.ke (Ke.same (F := Nof) (same_new nt))⟩⟩
      rw [z, x4.s.ht] at nt
      cases nt
    clear x4 H4 hle tvl
    rintro σ' H4 ⟨tu, rfl, x4, htu, ntu, tvl⟩
    refine Evl.q_cut (M := fun σ' G => σ' = [some (.ref fe), some (.ref ba), some u, some (.ref e), some (.int (m : Nat)), some (.ref T'), y6, y7, some (.ref K1), some (.ref b1), some (.ref Lf), some (.ref le), some (.ref mo), some (.ref tu), none, none] ∧ W fe c H (B + 30) T' kt [T', E0, le, mo, tu] b1 t1 Lf [T', E0] G) ?_ ?_
    · obtain ⟨bs1, tb1, b81⟩ := x4.s.val hv1
      have g := DGet.t (k := kN t1) x4.s.ht (by rw [kN_v]; exact x4.b)
      rw [hv1] at g
      refine ⟨_, rfl, _, rfl, T', v1, rfl, g, ?_⟩
      refine ⟨_, rfl, _, rfl, b1, _, rfl, .of x4.b, fun p G nP s5 hp _ => ?_⟩
      rw [tv1, ← List.map_reverse, ← kT_v] at hp
      have y := x4.same s5
      have len := length_putK kl (kT (cst t1).reverse) v1
      have tvp : Tv G (putK kl (kT (cst t1).reverse) v1) := (tvl.ke (Ke.same (F := Nof) s5)).put (uni_rise l10 mt1).2.2 (tb1.ke (Ke.same (F := Nof) s5)) b81
      refine ⟨tu, _, rfl, DPut.t (k := kT (cst t1).reverse) (s5 _ _ htu) hp (by rw [sizeLine_eq]; omega), ?_⟩
      exact ⟨rfl, y.put (by simp) ntu (s5 _ _ htu) tvp (by omega)⟩
    clear x4 H4 htu tvl
    rintro σ' H4 ⟨rfl, x4⟩
    -- all of them
    refine Evl.q_cut (M := fun σ' G => ∃ L5, σ' = [some (.ref fe), some (.ref ba), some u, some (.ref e), some (.int (m : Nat)), some (.ref T'), y6, y7, some (.ref K1), some (.ref b1), some (.ref L5), some (.ref le), some (.ref mo), some (.ref tu), none, none] ∧ W fe c H (B + 30) T' kt [T', E0, le, mo, tu] b1 t1 L5 [T', E0, le, mo, tu] G) ?_ ?_
    · refine ⟨_, rfl, _, rfl, _, rfl, _, rfl, by show 3 ≤ sizeLine; decide, fun L3 G1 n3 s1 h3 _ => ?_⟩
      have y := x4.same s1
      refine ⟨Lf, L3, _, _, rfl, rfl, y.l, h3, by show 2 + 3 ≤ sizeLine; decide, fun L5 G2 n5 s2 h5 _ => ?_⟩
      exact ⟨L5, rfl, y.lst n5 s2 h5⟩
    clear x4 H4
    rintro σ' H4 ⟨L5, rfl, x4⟩
    -- eight more
    refine Evl.q_cut (M := fun σ' G => ∃ (y14 y15 : Option V) (as : List Addr), σ' = [some (.ref fe), some (.ref ba), some u, some (.ref e), some (.int (m : Nat)), some (.ref T'), y6, y7, some (.ref K1), some (.ref b1), some (.ref L5), some (.ref le), some (.ref mo), some (.ref tu), y14, y15] ∧ W fe c H (B + 120) T' kt as b1 t1 L5 as G ∧ as.length ≤ 13) ?_ ?_
    · refine ⟨8, rfl, by decide, by decide, for_range (Pv := fun i σ G => ∃ (y14 y15 : Option V) (as : List Addr), σ = [some (.ref fe), some (.ref ba), some u, some (.ref e), some (.int (m : Nat)), some (.ref T'), y6, y7, some (.ref K1), some (.ref b1), some (.ref L5), some (.ref le), some (.ref mo), some (.ref tu), y14, y15] ∧ W fe c H (B + 30 + 9 * i) T' kt as b1 t1 L5 as G ∧ as.length ≤ 5 + i) ?_ ?_ ?_⟩
      · exact ⟨none, none, _, rfl, x4, by show 5 ≤ 5; decide⟩
      · clear x4 H4
        rintro i σ H4 hi ⟨y14, y15, as, rfl, x4, la⟩
        have hi : i < 8 := hi
        rw [show (0 : Int) + (i : Int) = (i : Int) from Int.zero_add _]
        have nf := x4.nf h0
        -- other
        refine Evl.q_cut (M := fun σ' G => ∃ ot, σ' = [some (.ref fe), some (.ref ba), some u, some (.ref e), some (.int (m : Nat)), some (.ref T'), y6, y7, some (.ref K1), some (.ref b1), some (.ref L5), some (.ref le), some (.ref mo), some (.ref tu), some (.int (i : Nat)), some (.ref ot)] ∧ W fe c H (B + 30 + 9 * i) T' kt (as ++ [ot]) b1 t1 L5 as G ∧ G ot = some (.dT kt) ∧ ot ≠ T') ?_ ?_
        · refine ⟨_, rfl, T', kt, rfl, x4.s.ht, fun nd => nodup_hash x4.s.at.keys nd, fun _ ot nt => ⟨ot, rfl, x4.new nt x4.s.at (by omega), upd_same, fun z => ?_⟩⟩
          rw [z, x4.s.ht] at nt
          cases nt
        clear x4 H4
        rintro σ' H4 ⟨ot, rfl, x4, hot, nto⟩
        refine Evl.q_cut (M := fun σ' G => σ' = [some (.ref fe), some (.ref ba), some u, some (.ref e), some (.int (m : Nat)), some (.ref T'), y6, y7, some (.ref K1), some (.ref b1), some (.ref L5), some (.ref le), some (.ref mo), some (.ref tu), some (.int (i : Nat)), some (.ref ot)] ∧ W fe c H (B + 30 + 9 * i + 8) T' kt (as ++ [ot]) b1 t1 L5 as G) ?_ ?_
        · refine ⟨_, rfl, fe, c, _, rfl, x4.s.fd, by omega, fun bs p3 G5 F5 k5 hp3 b8 => ?_⟩
          have hot5 : G5 ot = some (.dT kt) := k5.keep ot _ hot (fun ps z => by cases z) (feed_nt x4.s.fd hot).1
          have y5 := x4.kp nf k5 F5
          have len := length_putK kt (kN t1) (.ref p3)
          have tvp : Tv G5 (putK kt (kN t1) (.ref p3)) := y5.s.at.put (uni_rise l10 mt1).1 ⟨p3, rfl, hp3⟩ b8
          refine ⟨_, rfl, _, rfl, ot, _, rfl, DPut.t (k := kN t1) hot5 (by rw [kN_v]; exact y5.b) (by rw [sizeLine_eq]; omega), ?_⟩
          exact ⟨rfl, y5.put (by simp) nto hot5 tvp (by omega)⟩
        clear x4 H4 hot
        rintro σ' H4 ⟨rfl, x4⟩
        have nc : L5 ≠ c := fun z => by
          obtain ⟨_, _, _, _, h2, _⟩ := F0
          exact (x4.fl c _ h2 fun ps z => by cases z) z.symm
        refine ⟨_, rfl, .inl ⟨rfl, _, .of x4.l⟩, _, rfl, L5, _, .ref ot, rfl, rfl, x4.l, by rw [List.length_map]; exact small1000 (by omega), ?_⟩
        exact ⟨_, _, as ++ [ot], rfl, (x4.app (a := ot) nf nc).mono (by omega), by rw [List.length_append, List.length_singleton]; omega⟩
      · rintro σ G ⟨y14, y15, as, rfl, xx, la⟩
        exact ⟨y14, y15, as, rfl, xx.mono (by omega), la⟩
    clear x4 H4
    rintro σ' H4 ⟨y14, y15, as, rfl, x4, la⟩
    refine ⟨_, rfl, q L5 as H4 (x4.s.fd.mono (by omega)) x4.s.ke x4.fl x4.l (by omega) fun a ma => ⟨x4.s.fam.fr a ma, ?_⟩⟩
    obtain ⟨ks, e1, e2, _⟩ := x4.s.fam.tb a ma
    exact ⟨ks, e1, e2⟩
end
end Tb43
namespace Gd
open PySem PySem.Spec PyProof.Rows L2
/-! ### a law that shows lists (repr): run where nothing is being shown -/
/-- a promise for calls made while nothing is being shown -/
structure FnG (P : Program) (w : World) (K : PySem.W.Frag) (mg : Str → Option Value) (base : Heap) (k : Nat) (f : Addr) (fd : FuncData) (ps : List Str) (sp : Sp) : Prop where
  len : ∀ us H Q E, sp us H Q E → us.length = ps.length
  run : ∀ (A : Around) (outer : List Env) (s : Shared) (H : Hp) (args : Args) (us : List Value) (vs : List V) (Q : VK) (E : XK), A.guards = some [] → Room k A → Env0 P w K mg base A outer s H → BindsTo s fd args (ps.zip us) → Vals vs us → sp vs H Q E → codeAny (model P w) A (.call (.ref f) args) (CR CX0 outer P w H s Q E) s
section
variable {P : Program} {w : World} {K : PySem.W.Frag} {mg : Str → Option Value} {base : Heap}
theorem okG {x qual : Str} {st : Stmt} {f : Addr} {fd : FuncData} {N ps : List Str} {k : Nat} {sp : Sp} (F : Fun K x qual st f fd) (S : FnScope N ps (defScope st)) (ln : ∀ us H Q E, sp us H Q E → us.length = ps.length)
    (body : ∀ (cdv : Value) (A : Around) (outer : List Env) (s : Shared) (H : Hp) (vs : List V) (Q : VK) (E : XK), A.guards = some [] → Room k (A.deeper (envOfC qual (defScope st) s.heap.objs.size f cdv)) → sp vs H Q E →
      ∃ t, PSs (cxOf CX0 P w K mg base N qual (defScope st) f cdv A outer s H E).nox (defBody st) t ∧ t { nx := fun _ H' => Q .non H', rt := Q } (start N vs) H) : FnG P w K mg base (k + 1) f fd ps sp := by
  obtain ⟨oc, od, kV, doc, pm, an, cdv, ct, osl, rfl, lk, hcd⟩ := F.ex
  refine ⟨ln, fun A outer s H args us vs Q E gd room env bind rel ask => ?_⟩
  have inS : K.In s.heap := env.mod.kin.keeps fun b o e => (env.bs b o e).1
  have noL : s.heap.NoLimit := env.mod.nolimit.keeps fun b o e => (env.bs b o e).1
  refine codeAny_call_function room.depth (inS _ _ lk) rfl S.co S.gen rfl (PySem.W.codeRec_of inS hcd) (bind _ _ _ _ (wpAny_newFunctionEnv_cells S.kind (fun y hy => ?_) fun env' he s1 z => ?_))
  · rcases S.par y.1 (List.of_mem_zip (a := y.1) (b := y.2) hy).1 with q | q
    · exact Or.inl q
    · exact Or.inr ⟨q, PySem.W.cellsFrom_some _ _ _ (Or.inl q)⟩
  · subst he
    obtain ⟨t, h1, h2⟩ := body cdv A outer s H vs Q E gd (room.deeper _) ask
    have J := inv_start (CX := CX0) (E := E) S room.hd env (ln _ _ _ _ ask) rel z
    refine ⟨noL.keeps z.toInCall.keep, codeAny_func (wpAny_mono (h1.nox.run [] s1 _ H _ J h2) (fun fl s' r => ?_) fun _ _ r => r)⟩
    match fl, r with
    | .ret u, r =>
      obtain ⟨v, σ', H', I, rv, q⟩ := r
      exact ⟨v, H', I.os, I.bare, I.base, I.hok, rv, q⟩
    | .next, r =>
      obtain ⟨σ', H', I, q⟩ := r
      exact ⟨.non, H', I.os, I.bare, I.base, I.hok, rfl, q⟩
    | .brk, r =>
      obtain ⟨_, _, _, q⟩ := r
      exact q.elim
    | .cont, r =>
      obtain ⟨_, _, _, q⟩ := r
      exact q.elim
/-- what the abstract heap knows at the law's call: the tables T, the script at a unless K holds it -/
def at0 (K : PySem.W.Frag) (T : List Addr) (a : Addr) (o : HO) : Hp := fun b => if b ∈ T then some (.tbl #[]) else if b = a ∧ (K.lookup a).isNone = true then some o else none
theorem at0_cases {T : List Addr} {a b : Addr} {o u : HO} (h : at0 K T a o b = some u) : (b ∈ T ∧ u = .tbl #[]) ∨ (b ∉ T ∧ b = a ∧ K.lookup a = none ∧ u = o) := by
  unfold at0 at h
  by_cases h1 : b ∈ T
  · rw [if_pos h1] at h
    exact .inl ⟨h1, (Option.some.inj h).symm⟩
  · rw [if_neg h1] at h
    by_cases h2 : b = a ∧ (K.lookup a).isNone = true
    · rw [if_pos h2] at h
      exact .inr ⟨h1, h2.1, Option.isNone_iff_eq_none.mp h2.2, (Option.some.inj h).symm⟩
    · rw [if_neg h2] at h
      cases h
theorem law_at {mb : Str → Option Value} {k : Nat} {fa a : Addr} {cs : List (Addr × Addr)} {fd : FuncData} {x : Str} {sp : Sp} {s1 : Shared} {us : List Value} {ns : List Int} (inK : K.In s1.heap) (ng : s1.heap.Ns mainGlobals mg) (nb : s1.heap.Ns builtinsNs mb)
    (bb : ∀ y : Str, y ≠ "__name__" → mb y = bootBuiltins y) (lim : s1.heap.NoLimit) (gens : s1.gens = #[]) (te : ∀ p ∈ cs, s1.heap.get? p.2 = some (PySem.W.tabObj #[])) (tk : ∀ p ∈ cs, K.lookup p.2 = none) (tc : ∀ p ∈ cs, PySem.W.CodeHd s1.heap p.1 p.2)
    (bm : ∃ (bm : Addr) (ob : Obj), mg "__builtins__" = some (.ref bm) ∧ bm ≠ builtinsNs ∧ s1.heap.get? bm = some ob ∧ ob.cls = .type "module" ∧ ob.dict = some builtinsNs ∧ ob.data = .plain) (la : s1.heap.get? a = some { cls := .type "list", data := .seq us.toArray }) (iu : IntsAre us ns) (lu : ns.length ≤ sizeLine) (room : Room k callerA)
    (F : ∀ base : Heap, K.In base → base.Ns mainGlobals mg → (∀ p ∈ cs, LamX.TabB base mg p.1 p.2) → FnG P w K mg base k fa fd [x] sp) (bind : ∀ (s : Shared) (u : Value), BindsTo s fd ⟨[u], []⟩ [(x, u)])
    (ask : ∀ H : Hp, (∀ p ∈ cs, H p.2 = some (.tbl #[])) → SqL K H a (ns.map V.int) → sp [.ref a] H (fun v _ => v = .bl true) fun _ _ _ => False) :
    codeAny (model P w) callerA (.call (.ref fa) ⟨[.ref a], []⟩) (fun r s' => r = .ok (.ret (.bool true)) ∧ OldK s1.heap s'.heap ∧ s'.os = s1.os ∧ AllBare s'.gens) s1 := by
  have lv := iu.length
  let T := cs.map (·.2)
  let O : HO := .frz { cls := .type "list", data := .seq us.toArray } (.lst (ns.map V.int))
  have tT : ∀ b ∈ T, s1.heap.get? b = some (PySem.W.tabObj #[]) := fun b hb => by
    obtain ⟨p, hp, rfl⟩ := List.mem_map.mp hb
    exact te p hp
  have inT : ∀ p ∈ cs, p.2 ∈ T := fun p hp => List.mem_map.mpr ⟨p, hp, rfl⟩
  have naT : a ∉ T := fun z => by
    have q := tT a z
    rw [la] at q
    cases congrArg Obj.data (Option.some.inj q)
  -- an object that is neither a list nor an empty table is not tracked
  have un0 : ∀ {b : Addr} {o : Obj}, s1.heap.get? b = some o → (∀ v n, o.data ≠ .seq v n) → o.data ≠ .fields #[] → at0 K T a O b = none := fun {b o} e d1 d2 => by
    cases q : at0 K T a O b with
    | none => rfl
    | some u =>
      rcases at0_cases q with ⟨h1, _⟩ | ⟨_, h1, _⟩
      · rw [tT b h1] at e
        cases e
        exact absurd rfl d2
      · rw [h1, la] at e
        cases e
        exact absurd rfl (d1 _ _)
  have ns0 : ∀ {b : Addr} {m : Str → Option Value}, s1.heap.Ns b m → (hidT s1.heap (at0 K T a O)).Ns b m := fun ⟨o, es, ep, e, d, r⟩ =>
    ⟨o, es, ep, hidT_get e (un0 e (fun _ _ z => by rw [d] at z; cases z) fun z => by rw [d] at z; cases z), d, r⟩
  have in0 : K.In (hidT s1.heap (at0 K T a O)) := fun b o e => by
    refine hidT_get (inK b o e) ?_
    cases q : at0 K T a O b with
    | none => rfl
    | some u =>
      rcases at0_cases q with ⟨h1, _⟩ | ⟨_, h1, h2, _⟩
      · obtain ⟨p, hp, rfl⟩ := List.mem_map.mp h1
        rw [tk p hp] at e
        cases e
      · rw [h1, h2] at e
        cases e
  have mod0 : L2.Mod K mg (hidT s1.heap (at0 K T a O)) := ⟨in0, ns0 ng, ⟨mb, ns0 nb, bb⟩, let ⟨mc, h1, h2⟩ := lim; ⟨mc, ns0 h1, h2⟩⟩
  have tab0 : ∀ p ∈ cs, LamX.TabB (hidT s1.heap (at0 K T a O)) mg p.1 p.2 := fun p hp => by
    obtain ⟨bmA, ob, b1, b2, b3, b4, b5, b6⟩ := bm
    obtain ⟨oc, oes, oep, oe, od, _⟩ := ng
    obtain ⟨c0, v0, f0, t0, g0, u0, i0, x0, y0, e1, r1, r2, r3, rest⟩ := tc p hp
    refine ⟨⟨c0, v0, f0, t0, g0, u0, i0, x0, y0, hidT_get e1 (un0 e1 (fun _ _ z => by rw [r2] at z; cases z) fun z => ?_), r1, r2, r3, rest⟩, ⟨bmA, ob, b1, b2, fun z => ?_, fun z => ?_, hidT_get b3 (un0 b3 (fun _ _ z => by rw [b6] at z; cases z) fun z => by rw [b6] at z; cases z), b4, b5, b6⟩, fun z => ?_⟩
    · rw [r2] at z
      cases z
      simp at r3
    · rw [z, oe] at b3
      cases b3
      rw [od] at b6
      cases b6
    · rw [z, te p hp] at b3
      cases b3
      cases b6
    · rw [z, te p hp] at oe
      cases oe
      cases od
  have hok0 : HOk P w (at0 K T a O) s1.heap := fun b u q => by
    rcases at0_cases q with ⟨h1, rfl⟩ | ⟨_, rfl, _, rfl⟩
    · exact tT b h1
    · exact ⟨la, by rw [List.length_map]; exact lu, us, _, vals_ints iu, la⟩
  have sq0 : SqL K (at0 K T a O) a (ns.map V.int) := by
    cases q : K.lookup a with
    | some o =>
      have e := inK a o q
      rw [la] at e
      cases e
      exact .inr ⟨_, us.toArray, _, q, rfl, rfl, rfl, by rw [List.size_toArray, lv]; exact lu, by simpa using vals_ints iu⟩
    | none => exact .inl (.inr ⟨_, (if_neg naT).trans (if_pos ⟨rfl, by rw [q]; rfl⟩)⟩)
  have env0 : Env0 P w K mg (hidT s1.heap (at0 K T a O)) callerA [] s1 (at0 K T a O) := ⟨rfl, mod0, fun b o e => of_hidT e, Nat.le_of_eq (hidT_size _ _), trivial, fun b z => absurd (show b ∈ ([] : List Addr) from z) (by simp), hok0, .of_eq gens⟩
  refine codeAny_mono ((F _ in0 (ns0 ng) tab0).run callerA [] s1 (at0 K T a O) ⟨[.ref a], []⟩ [.ref a] [.ref a] _ _ rfl room env0 (bind s1 (.ref a)) (.cons rfl .nil) (ask _ (fun p hp => if_pos (inT p hp)) sq0)) fun r s' h => ?_
  match r, h with
  | .error e, h => exact False.elim h
  | .ok .next, h => exact False.elim h
  | .ok .brk, h => exact False.elim h
  | .ok .cont, h => exact False.elim h
  | .ok (.ret u), h =>
    obtain ⟨v, H', os, bare, un, hok', rv, q⟩ := h
    obtain rfl : v = .bl true := q
    obtain rfl : u = Value.bool true := rv
    have kept : ∀ b o, b ∉ T → s1.heap.get? b = some o → s'.heap.get? b = some o := fun b o nt e => by
      cases z : at0 K T a O b with
      | none => exact un.keep b o e z (fun y => absurd (show b ∈ ([] : List Addr) from y) (by simp)) (by simp)
      | some u =>
        rcases at0_cases z with ⟨h1, _⟩ | ⟨_, rfl, _, rfl⟩
        · exact absurd h1 nt
        · obtain ⟨e2, _⟩ := hok' b _ (un.frzs b _ _ z)
          rw [la] at e
          cases e
          exact e2
    have tabs : ∀ b ∈ T, ∃ more : Array Value, s'.heap.get? b = some (PySem.W.tabObj more) := fun b hb => by
      obtain ⟨more, z⟩ := un.tbls b #[] (if_pos hb)
      exact ⟨_, hok' b _ z⟩
    refine ⟨rfl, ⟨fun b o e => ?_, fun b o e => ?_⟩, os, bare⟩
    · by_cases hb : b ∈ T
      · obtain ⟨more, z⟩ := tabs b hb
        obtain ⟨p, hp, rfl⟩ := List.mem_map.mp hb
        have e3 := te p hp
        rw [e] at e3
        cases e3
        exact .inr (.inl ⟨((tc p hp).tab (te p hp)).isCodeTable, rfl, #[], more, rfl, by rw [Array.empty_append]; exact z⟩)
      · exact .inl (kept b o hb e)
    · by_cases hb : b ∈ T
      · obtain ⟨more, z⟩ := tabs b hb
        exact ⟨_, z⟩
      · exact ⟨o, kept b o hb e⟩
end
end Gd
namespace Gx2
open PySem PySem.Spec PyProof.Rows L2
/-! ### promises for calls made while nothing is being shown, with refusals: for defs that show lists or tuples and are called by others -/
structure FnX (P : Program) (w : World) (K : PySem.W.Frag) (mg : Str → Option Value) (base : Heap) (CX : CXT) (k : Nat) (f : Addr) (fd : FuncData) (ps : List Str) (sp : Sp) : Prop where
  len : ∀ us H Q E, sp us H Q E → us.length = ps.length
  run : ∀ (A : Around) (outer : List Env) (s : Shared) (H : Hp) (args : Args) (us : List Value) (vs : List V) (Q : VK) (E : XK), A.guards = some [] → Room k A → Env0 P w K mg base A outer s H → BindsTo s fd args (ps.zip us) → Vals vs us → sp vs H Q E → codeAny (model P w) A (.call (.ref f) args) (CR CX outer P w H s Q E) s
section
variable {P : Program} {w : World} {K : PySem.W.Frag} {mg : Str → Option Value} {base : Heap} {CX : CXT}
theorem of_ok {k : Nat} {f : Addr} {fd : FuncData} {ps : List Str} {sp : Sp} (F : FnOk P w K mg base CX k f fd ps sp) : FnX P w K mg base CX k f fd ps sp := ⟨F.len, fun A outer s H args us vs Q E _ => F.run A outer s H args us vs Q E⟩
theorem okX {x qual : Str} {st : Stmt} {f : Addr} {fd : FuncData} {N ps : List Str} {k : Nat} {sp : Sp} (F : Fun K x qual st f fd) (S : FnScope N ps (defScope st)) (ln : ∀ us H Q E, sp us H Q E → us.length = ps.length)
    (body : ∀ (cdv : Value) (A : Around) (outer : List Env) (s : Shared) (H : Hp) (vs : List V) (Q : VK) (E : XK), A.guards = some [] → Room k (A.deeper (envOfC qual (defScope st) s.heap.objs.size f cdv)) → sp vs H Q E →
      ∃ t, PSs (cxOf CX P w K mg base N qual (defScope st) f cdv A outer s H E) (defBody st) t ∧ t { nx := fun _ H' => Q .non H', rt := Q } (start N vs) H) : FnX P w K mg base CX (k + 1) f fd ps sp := by
  obtain ⟨oc, od, kV, doc, pm, an, cdv, ct, osl, rfl, lk, hcd⟩ := F.ex
  refine ⟨ln, fun A outer s H args us vs Q E gd room env bind rel ask => ?_⟩
  have inS : K.In s.heap := env.mod.kin.keeps fun b o e => (env.bs b o e).1
  have noL : s.heap.NoLimit := env.mod.nolimit.keeps fun b o e => (env.bs b o e).1
  refine codeAny_call_function room.depth (inS _ _ lk) rfl S.co S.gen rfl (PySem.W.codeRec_of inS hcd) (bind _ _ _ _ (wpAny_newFunctionEnv_cells S.kind (fun y hy => ?_) fun env' he s1 z => ?_))
  · rcases S.par y.1 (List.of_mem_zip (a := y.1) (b := y.2) hy).1 with q | q
    · exact Or.inl q
    · exact Or.inr ⟨q, PySem.W.cellsFrom_some _ _ _ (Or.inl q)⟩
  · subst he
    obtain ⟨t, h1, h2⟩ := body cdv A outer s H vs Q E gd (room.deeper _) ask
    have J := inv_start (CX := CX) (E := E) S room.hd env (ln _ _ _ _ ask) rel z
    refine ⟨noL.keeps z.toInCall.keep, codeAny_func (wpAny_mono (h1.run [] s1 _ H _ J h2) (fun fl s' r => ?_) fun _ _ r => r)⟩
    match fl, r with
    | .ret u, r =>
      obtain ⟨v, σ', H', I, rv, q⟩ := r
      exact ⟨v, H', I.os, I.bare, I.base, I.hok, rv, q⟩
    | .next, r =>
      obtain ⟨σ', H', I, q⟩ := r
      exact ⟨.non, H', I.os, I.bare, I.base, I.hok, rfl, q⟩
    | .brk, r =>
      obtain ⟨_, _, _, q⟩ := r
      exact q.elim
    | .cont, r =>
      obtain ⟨_, _, _, q⟩ := r
      exact q.elim
end
section
variable {X : Cx} {CX : CXT} {k : Nat} {f : Addr} {fd : FuncData} {ps : List Str} {sp : Sp} {dvs : List V} {ds : List Value} {E : XK}
theorem runX {pins : List (Addr × Obj)} {σ : L2.St} {H : Hp} {s : Shared} {Q : VK} {us : List Value} {vs : List V} (F : FnX X.prog X.w X.K X.mg X.base CX k f fd ps sp) (gd : X.A.guards = some []) (room : Room k X.A) (bind : Binds X.K fd ps ds) (dv : Vals dvs ds) (pass : Passes CX X E)
    (I : Inv X pins σ H s) (rel : Vals vs us) (ask : sp (vs ++ dvs) H Q E) : wpAny (model X.prog X.w) X.A (call (.ref f) us) (EP X pins σ Q) X.xe s := by
  have r2 : Vals (vs ++ dvs) (us ++ ds) := rel.append dv
  have ll : (us ++ ds).length = ps.length := r2.length.symm.trans (F.len _ _ _ _ ask)
  refine wpAny_call (codeAny_mono (F.run X.A X.stack s H ⟨us, []⟩ _ _ Q E gd room I.env0 (bind s us I.kIn ll) r2 ask) fun r s' z => ?_)
  match r, z with
  | .error e, z => exact pass pins σ H s e s' I z
  | .ok (.ret u), z => exact I.after z
  | .ok .next, z => exact z.elim
  | .ok .brk, z => exact z.elim
  | .ok .cont, z => exact z.elim
/-- f(..) where nothing is being shown -/
theorem pe_callX {x : Str} {p pos : Pos} {e : Expr} {es : List Expr} {t : TA} (F : FnX X.prog X.w X.K X.mg X.base CX k f fd ps sp) (gd : X.A.guards = some []) (room : Room k X.A) (gl : Gl X x) (at_ : X.mg x = some (.ref f)) (kp : PySem.W.keepIn X.K (.ref f) = true) (bind : Binds X.K fd ps ds) (dv : Vals dvs ds) (pass : Passes CX X E)
    (ha : PA X (e :: es) t) (hdb : (x == ("__debug__" : Str)) = false := by decide) (he : starEach (e :: es) X.env = (false, eval e X.env) :: starEach es X.env := by rfl) (hpl : (backTo pos (starEach es X.env)).any (·.1) = false := by rfl) :
    PE X (.Call (.Name x p) (e :: es) [] pos) (tCall sp dvs E t) :=
  ⟨fun pins s σ H Q I h => wpAny_Call_Name_kw (ld_glob I gl at_ (PySem.W.callWith_K (h₀ := X.base) I.ok.mod.kin kp (thn (ha.run pos pins s σ H _ I h) fun us s1 ⟨vs, H1, I1, r, q⟩ => ⟨I1.kIn, runX F gd room bind dv pass I1 r q⟩) he hpl) hdb)⟩
end
end Gx2
namespace Few
open PySem PySem.Spec PyProof.Rows L2 GxR Nw Dr Kp Se Co
/-- what is known of the class TooMany -/
structure CM (K : PySem.W.Frag) (mg : Str → Option Value) (C : Addr) : Prop where
  xP : PySem.W.excIn K C [.type "ValueError", .type "Exception", .type "BaseException", .type "object"] "ValueError.__new__" = true
  gP : mg "TooMany" = some (.ref C)
  kP : PySem.W.keepIn K (.ref C) = true
  bP : PySem.W.subIn K (.ref C) (.type "BaseException") = some true
  tP : PySem.W.typeIn K (.ref C) = some (.type "type")
section
variable {P : Program} {w : World} {K : PySem.W.Frag} {mg : Str → Option Value} {base : Heap}
/-- more than ten claims are refused -/
def spCfX (C : Addr) : Sp := fun vs H _ E => ∃ (v : V) (css : List (List Int)), vs = [v] ∧ Bk H v css ∧ 10 < css.length ∧ E (.ref C) none H
theorem ok_cfx {f C : Addr} {fd : FuncData} {tk : Tok} (F : Fun K "check_few_claims" "check_few_claims" sCfc f fd) (T : Zf mg) (C' : CM K mg C) (M10 : mg "MOST_LOOKED_THROUGH" = some (.int 10 tk)) : Gx2.FnX P w K mg base (L2.CX P w) 1 f fd ["book"] (spCfX C) := by
  refine Gx2.okX F scCfc (fun vs H Q E h => ?_) (fun cdv A outer s H vs Q E gd0 hr h => ?_)
  · obtain ⟨v, css, rfl, _⟩ := h
    rfl
  · obtain ⟨v, css, rfl, ⟨a, vs, rfl, ha, lv, hv⟩, l10, q⟩ := h
    refine ⟨_, (pss_one (ps_if (pt_cmpR op_gt (pe_callB call_len_seq (by rfl) T.z_len (by decide +kernel) (pa_cons (pv 0) pa_nil)) (pe_glob (v := .int 10) rfl M10 ⟨_, rfl⟩) (nomark _)) (pss_one (ps_raise rfl (takes_of rfl rfl rfl rfl) (SkE.pmk_own1 PySem.F.excBase_ValueError C'.xP C'.gP C'.kP (raises_own C'.bP C'.tP) rfl (pe_joined (PJ.cons pe_str (PJ.cons (pe_fmt (pe_glob (v := .int 10) rfl M10 ⟨_, rfl⟩)) (PJ.cons pe_str .nil))))))) pss_nil)), ?_⟩
    refine ⟨_, rfl, a, _, rfl, .inr (.of ha), _, _, rfl, rfl, true, congrArg V.bl (decide_eq_true (by omega)), ?_⟩
    have la : ∀ (x y : Str), (x ++ y).length = x.length + y.length := strLen_append
    refine ⟨_, rfl, by decide +kernel, .inr ⟨10, rfl, by decide, _, rfl, by decide +kernel, _, rfl, by decide +kernel, ?_⟩⟩
    exact q
def spFwX (C : Addr) : Sp := fun vs H _ E => ∃ (v u : V) (css : List (List Int)), vs = [v, u] ∧ Bk H v css ∧ 10 < css.length ∧ E (.ref C) none H
def spShX (C : Addr) : Sp := fun vs H _ E => ∃ (v u x y : V) (css : List (List Int)), vs = [v, u, x, y] ∧ Bk H v css ∧ 10 < css.length ∧ E (.ref C) none H
theorem ok_shx {f fC C : Addr} {fd fdC : FuncData} (F : Fun K "shows_needed" "shows_needed" sShn f fd) (FC : Fun K "check_few_claims" "check_few_claims" sCfc fC fdC) (bC : Binds K fdC ["book"] []) (gC : mg "check_few_claims" = some (.ref fC)) (GC : Gx2.FnX P w K mg base (L2.CX P w) 1 fC fdC ["book"] (spCfX C)) : Gx2.FnX P w K mg base (L2.CX P w) 2 f fd ["book", "claim", "many", "table"] (spShX C) := by
  refine Gx2.okX F scShn (fun vs H Q E h => ?_) (fun cdv A outer s H vs Q E gd0 hr h => ?_)
  · obtain ⟨v, u, x, y, css, rfl, _⟩ := h
    rfl
  · obtain ⟨v, u, x, y, css, rfl, hb, l10, q⟩ := h
    have hr1 : Room 1 _ := hr.mono (by omega)
    have gd : (A.deeper (envOfC "shows_needed" (defScope sShn) s.heap.objs.size f cdv)).guards = some [] := gd0
    refine ⟨_, (pss_cons (ps_expr (Gx2.pe_callX GC gd hr1 (by rfl) gC FC.kp bC .nil (passes_call (takes_of rfl rfl rfl rfl) (fun _ _ _ _ h => h)) (pa_cons (pv 0) pa_nil))) pss_never), ?_⟩
    exact ⟨_, rfl, v, css, rfl, hb, l10, q⟩
end
end Few
namespace Rpa
open PySem PySem.Spec PyProof.Rows L2
/-- repr of anything by its data, where nothing is being shown -/
theorem cr_reprA {X : Cx} (hg : X.A.guards = some []) (hu : X.A.units + 70 < cLine) : CallR X (.builtin "repr") (fun xs H Q => ∃ (x : V) (d : PyData), xs = [x] ∧ Dp X.K H x d ∧ d.showable = true ∧ d.hasDict = false ∧ d.depth ≤ 64 ∧ d.shown.length ≤ sizeLine ∧ Q (.str d.shown) H) := by
  intro pins s σ H xs us Q I r h
  obtain ⟨x, d, rfl, hd, hs, hn, dp, sz, q⟩ := h
  obtain ⟨u, rfl, hu'⟩ := vals1 r
  cases id hd with
  | non =>
    obtain rfl : u = .none := hu'
    exact PySem.P.repr_of_none ⟨.str _, H, I.tok _, ⟨_, rfl⟩, q⟩
  | bl b =>
    obtain rfl : u = .bool b := hu'
    exact PySem.P.repr_of_bool ⟨.str _, H, I.tok _, ⟨_, rfl⟩, q⟩
  | int i =>
    obtain ⟨t, rfl⟩ := hu'
    exact PySem.P.repr_of_int (by simpa [PyData.showable] using hs) ⟨.str _, H, I.tok _, ⟨_, rfl⟩, q⟩
  | str z =>
    obtain ⟨t, rfl⟩ := hu'
    exact PySem.P.repr_of_str ⟨.str _, H, I.tok _, ⟨_, rfl⟩, q⟩ sz
  | lst _ _ =>
    rename_i a _ _ _ _
    obtain rfl : u = .ref a := hu'
    obtain ⟨as, r1⟩ := Dp.reads I _ (.ref a) (.ref a) hd rfl
    exact repr_of_reads' r1 hs (PyData.noDict_hsm hn) hg (by omega) (fun _ _ e => e) (fun h' u tk k => ⟨.str _, H, I.turnedL (ch := []) (fun b o _ e => k b o e) (fun b hb => absurd hb (by simp)), ⟨_, rfl⟩, q⟩) sz
  | tup _ _ =>
    rename_i a _ _ _ _
    obtain rfl : u = .ref a := hu'
    obtain ⟨as, r1⟩ := Dp.reads I _ (.ref a) (.ref a) hd rfl
    exact repr_of_reads' r1 hs (PyData.noDict_hsm hn) hg (by omega) (fun _ _ e => e) (fun h' u tk k => ⟨.str _, H, I.turnedL (ch := []) (fun b o _ e => k b o e) (fun b hb => absurd hb (by simp)), ⟨_, rfl⟩, q⟩) sz
end Rpa
namespace Rk
open PySem PySem.Spec PyProof.Rows L2 Nw Ev1 Gx2
/-! ### a call of a value that an expression tells; a caught error kept as a value; count of truths -/
theorem takes0 {X : Cx} : Takes X (fun _ _ _ _ => False) := fun _ _ x => by
  obtain ⟨_, _, _, _, _, _, _, _, _, _, _, _, _, _, _, _, z⟩ := x
  exact z.elim
section
variable {X : Cx} {CX : CXT} {k : Nat} {f : Addr} {fd : FuncData} {ps : List Str} {sp : Sp} {E : L2.St → XK}
theorem runS {pins : List (Addr × Obj)} {σ : L2.St} {H : Hp} {s : Shared} {Q : VK} {us : List Value} {vs : List V} (F : FnX X.prog X.w X.K X.mg X.base CX k f fd ps sp) (gd : X.A.guards = some []) (room : Room k X.A) (bind : Binds X.K fd ps []) (pass : PassesAt CX X σ (E σ))
    (I : Inv X pins σ H s) (rel : Vals vs us) (ask : sp vs H Q (E σ)) : wpAny (model X.prog X.w) X.A (call (.ref f) us) (EP X pins σ Q) X.xe s := by
  have ll : us.length = ps.length := rel.length.symm.trans (F.len _ _ _ _ ask)
  have b := bind s us I.kIn (by rw [List.append_nil]; exact ll)
  rw [List.append_nil] at b
  refine wpAny_call (codeAny_mono (F.run X.A X.stack s H ⟨us, []⟩ us vs Q (E σ) gd room I.env0 b rel ask) fun r s' z => ?_)
  match r, z with
  | .error e, z => exact pass pins H s e s' I z
  | .ok (.ret u), z => exact I.after z
  | .ok .next, z => exact z.elim
  | .ok .brk, z => exact z.elim
  | .ok .cont, z => exact z.elim
/-- g(e, ..), g an expression that tells the def f -/
def tCallV (f : Addr) (tf : TE) (sp : Sp) (E : L2.St → XK) (t : TA) : TE := fun σ H Q => tf σ H fun v H1 => v = .ref f ∧ t σ H1 fun vs H2 => sp vs H2 Q (E σ)
theorem pe_callV {fe e : Expr} {es : List Expr} {tf : TE} {t : TA} {pos : Pos} (F : FnX X.prog X.w X.K X.mg X.base CX k f fd ps sp) (gd : X.A.guards = some []) (room : Room k X.A) (kp : PySem.W.keepIn X.K (.ref f) = true) (bind : Binds X.K fd ps []) (pass : ∀ σ, PassesAt CX X σ (E σ)) (hf : PE X fe tf)
    (ha : PA X (e :: es) t) (hc : eval (.Call fe (e :: es) [] pos) X.env = (do callWith pos (← eval fe X.env) [] (backTo pos (starEach (e :: es) X.env)) (backToKw pos (keywordEach [] X.env))) := by rfl)
    (he : starEach (e :: es) X.env = (false, eval e X.env) :: starEach es X.env := by rfl) (hpl : (backTo pos (starEach es X.env)).any (·.1) = false := by rfl) :
    PE X (.Call fe (e :: es) [] pos) (tCallV f tf sp E t) := by
  refine ⟨fun pins s σ H Q I h => ?_⟩
  rw [hc]
  refine wpAny_bind (thn (hf.run pins s σ H _ I h) fun u s1 ⟨v, H1, I1, r1, e1, q1⟩ => ?_)
  subst e1
  cases r1
  exact PySem.W.callWith_K (h₀ := X.base) I1.ok.mod.kin kp (thn (ha.run pos pins s1 σ H1 _ I1 q1) fun us s2 ⟨vs, H2, I2, r, q⟩ => ⟨I2.kIn, runS F gd room bind (pass σ) I2 r q⟩) he hpl
end
section
variable {X : Cx} {pins : List (Addr × Obj)} {σ : L2.St} {H : Hp} {s : Shared} {a : Addr} {oe : Obj} {cls : Value} {d : Option Addr}
/-- an exception that stands in the heap comes to be known -/
theorem track {vs : Array Value} (I : Inv X pins σ H s) (ha : s.heap.get? a = some oe) (hz : Zc cls d oe) (hd : oe.data = .fields vs) (na : H a = none) (nL : a ≠ X.env.locals) (n0 : X.s_0.heap.get? a = none) (np : ∀ p ∈ X.pn ++ pins, p.1 ≠ a) :
    Inv X pins σ (upd H a (ExV cls d a)) s := by
  have new : ObjOk X.prog X.w (upd H a (ExV cls d a)) s.heap a (ExV cls d a) := ⟨⟨oe, vs, ha, hz, hd⟩, ⟨oe, ha⟩, fun h1 h2 ⟨o, v, y, r⟩ i => ⟨o, v, i o y, r⟩⟩
  have b := I.base
  refine ⟨I.ok, I.os, I.bare, ⟨b.keep, b.slot, fun x o e n m => ?_, b.there, fun x xs e => ?_, fun x o u e => ?_, fun x ps e => ?_⟩, I.loc, I.cell, ?_, fun x c e => ?_, fun p hp => ?_, I.hok.laidN (fun _ _ z => z) na new, I.len⟩
  · rw [upd_ne (fun z => by rw [z, n0] at e; cases e)]
    exact b.free x o e n m
  · rw [upd_ne (ne_of_none (b.tups x xs e) na)]
    exact b.tups x xs e
  · rw [upd_ne (ne_of_none (b.frzs x o u e) na)]
    exact b.frzs x o u e
  · obtain ⟨more, z⟩ := b.tbls x ps e
    exact ⟨more, by rw [upd_ne (ne_of_none z na)]; exact z⟩
  · rw [upd_ne (Ne.symm nL)]
    exact I.free
  · obtain ⟨w, z⟩ := I.cell x c e
    rw [upd_ne (fun y => ?_)]
    · exact I.freeC x c e
    · rw [y] at z
      obtain ⟨o, z1, z2⟩ := z
      rw [ha] at z1
      cases z1
      simp_all
  · obtain ⟨e, n, ne, nf, c⟩ := I.pin p hp
    exact ⟨e, by rw [upd_ne (np p hp)]; exact n, ne, nf, c⟩
end
/-- what «except x as n: suite» wishes of an exception of the body, where the suite ends and the exception is known behind it -/
def wKeep (K : PySem.W.Frag) (c : Value) (i : Nat) (ts : Addr → Value → Option Addr → TS) (Wout : WX) (D : Ends) : WX := fun cls d σ H =>
  ∃ b, PySem.W.exmOne K cls c = some b ∧ (b = true → ∀ a, H a = none → ts a cls d { nx := fun σ' H' => H' a = none → D.nx (σ'.set i none) (upd H' a (ExV cls d a)), rt := fun _ _ => False, bk := fun _ _ => False, ct := fun _ _ => False } (σ.set i (some (.ref a))) H) ∧
    (b = false → Wout cls d σ H)
section
variable {X : Cx} {x n : Str} {c : Value} {i : Nat} {body suite : List Stmt} {b₀ : Stmt} {np pos pos' : Pos} {tb : WX → TS} {ts : Addr → Value → Option Addr → TS} {Wout : WX}
theorem ps_try_keep (hs : X.stack = X.env :: X.outer) (hf : X.env.frame = some X.env.locals) (hex : X.ex = []) (hN : X.N.Nodup) (hi : X.N[i]? = some n) (hln : X.env.kindOf n = some .local) (hc : Names X x c) (tk : Takes X Wout)
    (hb : ∀ (W : WX) (pn : List (Addr × Obj)) (xe : Value → Shared → Prop), Takes (X.tr pn xe) W → PassesOwn (model X.prog X.w) X.A X.env xe → PSs (X.tr pn xe) body (tb W))
    (hsu : ∀ (a : Addr) (oe : Obj) (cls : Value) (d : Option Addr) (pn : List (Addr × Obj)), Zc cls d oe → (∃ vs, oe.data = .fields vs) → PSs (X.suite a ((a, oe) :: pn)) (b₀ :: suite) (ts a cls d)) :
    PS X (.Try body [.ExceptHandler (some (.Name x np)) (some n) (b₀ :: suite) pos'] [] [] pos) (fun D σ H => tb (wKeep X.K c i ts Wout D) D σ H) := by
  refine ⟨fun pins s σ H D I h => ?_⟩
  have ok := I.ok
  have hfr : X.A.frames = some (X.env :: X.outer) := by rw [ok.frames, hs]
  have hloc : Loc X.env.scope n := .inl hln
  refine wpAny_Try_except ?_
  refine wpAny_mono ((hb (wKeep X.K c i ts Wout D) (X.pn ++ pins) (fun e s₁ => wpAny (model X.prog X.w) X.A (noteFrame e X.env) (fun _ s₂ => wpAny (model X.prog X.w) X.A (setFlight e none) (fun _ s₃ =>
    wpAny (model X.prog X.w) X.A (handleBy e X.env [.ExceptHandler (some (.Name x np)) (some n) (b₀ :: suite) pos']) (SP X pins D) X.xe s₃) X.xe s₂) X.xe s₁) (fun u s' xx => ?_) PassesOwn.looking).run [] s σ H D (I.toTry _) h) (fun f s1 hsp => ?_) (fun e s1 he => he)
  · obtain ⟨a, B, sI, pins', σ', H', cls, d, rfl, J', nb, up, sky, na, os, ag, b, hb1, hyes, hno⟩ := xx
    have J : Inv X pins σ' H' sI := J'.ofTry ok
    have sky' : Sky B (X.env :: X.outer) a (Zc cls d) X.env.locals s'.heap := by rw [← hs]; exact sky
    have Ba : B.get? a = none := by
      rcases sky with z | z | z
      · exact z.2.1
      · exact z.2.1
      · exact z.2.1
    show wpAny (model X.prog X.w) X.A (noteFrame (.ref a) X.env) _ _ _
    refine Sky.land Zc.steady hfr hf sky' fun h3 fl3 up3 => ?_
    have J3 : Inv X pins σ' H' { s' with heap := h3 } := J.landed nb fl3.1 (up.trans up3) os ag
    obtain ⟨oe3, vs3, he3, hz3, hd3⟩ := fl3.there
    have notFr : ∀ {h : Heap} {o : Obj} {vs : Array Value}, h.FunFrames B (X.env :: X.outer) → h.get? a = some o → o.data = .fields vs → a ∉ frs (X.env :: X.outer) := fun {h o vs} ff e dd hm => by
      obtain ⟨_, o', e', hnf⟩ := ff.mem hm
      rw [e] at e'; cases e'
      exact hnf _ dd
    have nfr := notFr fl3.2.2.1 he3 hd3
    have nL : a ≠ X.env.locals := fun z => nfr (List.mem_filterMap.mpr ⟨X.env, List.mem_cons_self, by rw [hf, z]⟩)
    have nF : a ∉ X.fs := fun hm => by
      obtain ⟨e, he, q⟩ := List.mem_filterMap.mp hm
      exact nfr (List.mem_filterMap.mpr ⟨e, List.mem_cons_of_mem _ he, q⟩)
    have n0 : X.s_0.heap.get? a = none := by
      cases z : X.s_0.heap.get? a with
      | none => rfl
      | some o =>
        obtain ⟨o', z2⟩ := J.base.there a o z (by rw [hex]; simp)
        rw [nb a o' z2 (by show a ∉ frs X.stack; rw [hs]; exact nfr)] at Ba
        cases Ba
    have npin : ∀ p ∈ X.pn ++ pins, p.1 ≠ a := fun p hp z => by
      have y := (J.pin p hp).1
      rw [z] at y
      rw [nb a _ y (by show a ∉ frs X.stack; rw [hs]; exact nfr)] at Ba
      cases Ba
    have S3 := J3.suite he3 hd3 na nL nF
    refine wpAny_handleBy_cons (codeAny_handlers_test ?_) (by intro q; cases q)
    have LT : PySem.W.Looks (model X.prog X.w) h3 (typeOf (.ref a)) cls := fun A Q E s k q => wpAny_typeOf_ref (k _ _ he3) (by rw [hz3.1]; exact q)
    have LM := PySem.W.exm_one (M := model X.prog X.w) (J3.kIn) LT hb1
    have test : ∀ {Q : Value → Shared → Prop} {E : Value → Shared → Prop}, Q c { s' with heap := h3 } → wpAny (model X.prog X.w) (X.A.mark (some (.ref a))) (eval (.Name x np) X.env) Q E { s' with heap := h3 } := fun {Q E} q => by
      obtain ⟨hg, hdbg, hm | ⟨hm, hv, hnn⟩⟩ := hc
      · exact ld_glob (X := X.suite a ((a, oe3) :: (X.pn ++ pins))) S3 hg hm q hdbg
      · exact ld_blt (X := X.suite a ((a, oe3) :: (X.pn ++ pins))) S3 hg hm hv q hnn hdbg
    refine test (LM.here ?_)
    cases b with
    | true =>
      refine codeAny_handlers_suite_as ?_
      refine HandSPX.lands_againZ fl3 fun h4 fl4 up4 => ?_
      have J4 : Inv X pins σ' H' { s' with heap := h4 } := J.landed nb fl4.1 ((up.trans up3).trans up4) os ag
      obtain ⟨oe4, vs4, he4, hz4, hd4⟩ := fl4.there
      have S4 := J4.suite he4 hd4 na nL nF
      refine store_ok (X := X.suite a ((a, oe4) :: (X.pn ++ pins))) (v := .ref a) S4 hN hi hloc rfl (fun s5 S5 => ?_) (.inr hln)
      refine wpAny_mono ((hsu a oe4 cls d (X.pn ++ pins) hz4 ⟨_, hd4⟩).run [] s5 _ H' _ S5 (hyes rfl a na)) (fun f s6 hsp => ?_) (fun _ _ z => False.elim z)
      cases f with
      | next =>
        obtain ⟨σ6, H6, S6, q6⟩ := hsp
        obtain ⟨p1, p2, _⟩ := S6.pin (a, oe4) (List.mem_append_left _ List.mem_cons_self)
        have J6 : Inv X pins σ6 H6 s6 := S6.unsuite ok
        have J7 : Inv X pins σ6 (upd H6 a (ExV cls d a)) s6 := track J6 p1 hz4 hd4 p2 nL n0 npin
        exact gone_ok J7 hN hi hln fun s7 J8 => ⟨_, _, J8, q6 p2⟩
      | brk =>
        obtain ⟨σ6, H6, S6, q6⟩ := hsp
        exact q6.elim
      | cont =>
        obtain ⟨σ6, H6, S6, q6⟩ := hsp
        exact q6.elim
      | ret u =>
        obtain ⟨v6, σ6, H6, S6, r6, q6⟩ := hsp
        exact q6.elim
    | false =>
      show wpAny _ X.A (handleBy (.ref a) X.env []) _ _ _
      refine wpAny_handleBy_nil ?_
      obtain ⟨k1, k2, k3, oe, vs, T, oT, ts', he, hz, hd, h1, hr⟩ := id fl3
      unfold PySem.passOn
      refine wpAny_bind (wpAny_field he hd h1 ?_)
      rw [if_neg (show ¬ ((Value.ref T == Value.none) = true) from by simp)]
      have fin : wpAny (model X.prog X.w) X.A (setFlight (.ref a) X.env.frame) (fun _ s4 => wpAny (model X.prog X.w) X.A (throw (.ref a) : Sem Flow) (SP X pins D) X.xe s4) X.xe { s' with heap := h3 } := by
        rw [hf]
        refine HandSPX.setFlight_upZ fl3 fun h4 hh4 up4 => wpAny_throw (tk _ _ ?_)
        exact ⟨a, B, sI, pins, σ', H', cls, d, rfl, J, nb, (up.trans up3).trans up4, .inr (.inr (by rw [hs]; exact hh4)), na, os, ag, hno rfl⟩
      first
        | exact wpAny_bind (wpAny_pure (wpAny_bind fin))
        | exact wpAny_bind fin
  · cases f with
    | next =>
      obtain ⟨σ', H', J', q⟩ := hsp
      exact wpAny_execs_nil ⟨σ', H', J'.ofTry ok, q⟩
    | brk =>
      obtain ⟨σ', H', J', q⟩ := hsp
      exact ⟨σ', H', J'.ofTry ok, q⟩
    | cont =>
      obtain ⟨σ', H', J', q⟩ := hsp
      exact ⟨σ', H', J'.ofTry ok, q⟩
    | ret u =>
      obtain ⟨v, σ', H', J', r, q⟩ := hsp
      exact ⟨v, σ', H', J'.ofTry ok, r, q⟩
end
/-- at a a caught exception of the class D -/
def ExW (H : Hp) (a D : Addr) : Prop := H a = some (ExV (.ref D) none a) ∨ ∃ y, ExF H a D y
theorem ExW.same {H H' : Hp} {a D : Addr} (h : ExW H a D) (s : Same H H') : ExW H' a D := by
  rcases h with h | ⟨y, h⟩
  · exact .inl (s _ _ h)
  · exact .inr ⟨y, h.same s⟩
theorem ExW.inst {X : Cx} {pins : List (Addr × Obj)} {σ : L2.St} {H : Hp} {s : Shared} {a D : Addr} (I : Inv X pins σ H s) (h : ExW H a D) : ∃ ox od, PySem.W.InstAt s.heap a ox D od := by
  rcases h with h | ⟨y, h⟩
  · have z1 : ObjOk X.prog X.w H s.heap a (.ext fun h => ∃ (oe : Obj) (vs : Array Value), h.get? a = some oe ∧ Zc (.ref D) none oe ∧ oe.data = .fields vs) := I.hok a _ h
    obtain ⟨⟨oe, vs, ha, ⟨hc, hd⟩, hv⟩, _⟩ := z1
    exact ⟨oe, none, ⟨ha, hc, notCls_of hv, by rw [hd]; exact trivial⟩⟩
  · obtain ⟨ox, od, _, J, _⟩ := h.inst I
    exact ⟨ox, some od, J⟩
/-- isinstance(e, c) of a caught exception -/
def rIsW (K : PySem.W.Frag) : List V → Hp → VK → Prop := fun xs H Q => ∃ (a D : Addr) (c : V) (cv : Value) (b : Bool), xs = [.ref a, c] ∧ ExW H a D ∧ ExcC K D ∧ (∀ u, RelV c u → u = cv) ∧ PySem.W.kitOne K (.ref D) cv = some b ∧ Q (.bl b) H
theorem call_isW {X : Cx} : CallR X (.builtin "isinstance") (rIsW X.K) := by
  intro pins s σ H xs us Q I r h
  obtain ⟨a, D, c, cv, b, rfl, hE, C, hcv, e, q⟩ := h
  cases r with
  | cons rx rr =>
    cases rr with
    | cons rt rr =>
      cases rr
      cases rx
      have ec := hcv _ rt
      subst ec
      obtain ⟨ox, od, J⟩ := hE.inst I
      have cl : (PySem.W.clsIn X.K D).isSome = true := by
        obtain ⟨cd, hc, _⟩ := PySem.W.any_some C.hd
        rw [hc]
        rfl
      exact PySem.W.kia_one (PySem.W.kitx_exc cl C.hg C.hk C.hs C.ha C.hn C.ht C.hm) I.kIn J e (fun z => nomatch z) fun tk => ⟨.bl b, H, I.kept (t' := tk) fun _ _ z => z, rfl, q⟩
theorem count_vals {y : V} : ∀ {ys : List V} {us : List Value}, Vals ys us → ys.all flatV = true → us.countP (eqU y) = ys.countP fun z => eqV z y
  | [], _, .nil, _ => rfl
  | z :: r, u :: us, .cons r1 t, f => by
    rw [List.all_cons, Bool.and_eq_true] at f
    rw [List.countP_cons, List.countP_cons, count_vals t f.2, eqU_of r1 f.1]
/-- xs.count(y), flat items -/
def rCountV (K : PySem.W.Frag) : V → List V → Hp → VK → Prop := fun x xs H Q => ∃ (p : Addr) (ys : List V) (y : V), x = .ref p ∧ xs = [y] ∧ SqL K H p ys ∧ flatV y = true ∧ ys.all flatV = true ∧ Q (.int ((ys.countP fun z => eqV z y : Nat) : Int)) H
theorem mt_countV {X : Cx} : MtR X "list.count" (rCountV X.K) := by
  intro pins s σ H x xs v us Q I rx rxs h
  obtain ⟨p, ys, y, rfl, rfl, hs, fy, fys, q⟩ := h
  cases rx
  obtain ⟨u, rfl, ru⟩ := rxs.one
  obtain ⟨its, rv, ⟨⟨cls, dd, data, sl⟩, n, ho, hc, hdn, hd⟩, hlen⟩ := I.list hs
  simp only at hc hd
  subst hc hd
  refine call_meets PySem.F.slot_list_count ⟨_, ho, rfl⟩ PySem.F.entry_list_count (PySem.F.args_list_count_2 _ _)
    (SeqAt.list_countAt p its.toArray n dd sl u (eqU y)) ⟨ho, fun z hz => mem_eqAt ru fy rv fys z (by simpa using hz), ?_⟩
  have ec : its.toArray.toList.countP (eqU y) = ys.countP fun z => eqV z y := count_vals rv fys
  refine ⟨.int ((ys.countP fun z => eqV z y : Nat) : Int), H, I.tok _, ⟨s.toks, ?_⟩, q⟩
  show Value.int ((its.toArray.toList.countP (eqU y) : Nat) : Int) s.toks = _
  rw [ec]
end Rk
namespace Rf
open PySem PySem.Spec PyProof.Rows L2 GxR Nw Dr Kp Se Ev1 Rk Ct
abbrev sRef : Stmt := topS 38
abbrev nRef : List Str := ["act", "caught", "e", "kinds", "words"]
theorem scRef : FnScope nRef ["act"] (defScope sRef) := ⟨rfl, rfl, rfl, by decide +kernel, rfl, by decide +kernel, by decide +kernel⟩
/-- the nine names -/
abbrev nm9 : List Str := ["NoCut", "NoLadder", "NoInstead", "TooGreat", "TooMany", "NoTelling", "NoText", "NoRow", "NoBack"]
/-- what the top has written of the classes -/
structure Txt (K : PySem.W.Frag) (mg : Str → Option Value) (cs : Nat → Addr) (S : Addr) : Prop where
  g : ∀ i x, nm9[i]? = some x → mg x = some (.ref (cs i))
  gS : mg "SpareError" = some (.ref S)
  ec : ∀ i, i < 9 → ExcC K (cs i)
  ap : ∀ i j, i < 9 → j < 9 → PySem.W.kitOne K (.ref (cs i)) (.ref (cs j)) = some (decide (j = i))
  kv : ∀ i, i < 9 → PySem.W.kitOne K (.ref (cs i)) (.type "ValueError") = some true
  xm : ∀ i, i < 9 → PySem.W.exmOne K (.ref (cs i)) (.ref S) = some true
  z_isinstance : mg "isinstance" = none
  z_ValueError : mg "ValueError" = none
  z_len : mg "len" = none
/-- the nine words -/
def wd9 : List Str := ["cut", "ladder", "instead", "great", "many", "telling", "text", "row", "back"]
def tru9 (i : Nat) : List V := (List.range 9).map fun j => V.bl (decide (j = i))
theorem cnt9 : ∀ i : Fin 9, ((tru9 i.val).countP fun z => eqV z (.bl true)) = 1 := by decide +kernel
theorem flat9 : ∀ i : Fin 9, (tru9 i.val).all flatV = true := by decide +kernel
theorem ix9 : ∀ i : Fin 9, (tru9 i.val)[i.val]? = some (V.bl true) := by decide +kernel
theorem no9 {i m : Nat} {z : V} (hm : m < i) (hi : i < 9) (h : (tru9 i)[m]? = some z) : eqV z (.bl true) = false := by
  unfold tru9 at h
  rw [List.getElem?_map, List.getElem?_range (by omega)] at h
  obtain rfl : V.bl (decide (m = i)) = z := Option.some.inj h
  rw [decide_eq_false (by omega)]
  rfl
section
variable {P : Program} {w : World} {K : PySem.W.Frag} {mg : Str → Option Value} {base : Heap}
/-- what refusing tells: a call with these three things; it may be refused by the class i, or not -/
def spRef (fa : Addr) (cs : Nat → Addr) (sp : Sp) : Sp := fun vs H Q _ => ∃ (t : Addr) (x y z : V), vs = [.ref t] ∧ H t = some (.tup [.ref fa, x, y, z]) ∧
  sp [x, y, z] H (fun _ H1 => ∀ H', Same H1 H' → Q (.str "") H') fun cls d H1 => ∃ i, i < 9 ∧ cls = .ref (cs i) ∧ (d = none ∨ ∃ dx v, d = some dx ∧ H1 dx = some (.xd [(("at" : Str), v)])) ∧ ∀ (wd : Str) (H' : Hp), wd9[i]? = some wd → Same H1 H' → Q (.str wd) H'
theorem ok_ref {f fa S : Addr} {cs : Nat → Addr} {fd fda : FuncData} {ps : List Str} {sp : Sp} (F : Fun K "_law_srefused" "_law_srefused" sRef f fd) (T : Txt K mg cs S) (kpA : PySem.W.keepIn K (.ref fa) = true) (bA : Binds K fda ps []) (GA : Gx2.FnX P w K mg base (L2.CX P w) 5 fa fda ps sp)
    (mono : ∀ (vs : List V) (H : Hp) (Q Q' : VK) (E E' : XK), sp vs H Q E → (∀ v H', Q v H' → Q' v H') → (∀ c d H', E c d H' → E' c d H') → sp vs H Q' E') :
    Gx2.FnX P w K mg base CX0 6 f fd ["act"] (spRef fa cs sp) := by
  refine Gx2.okX F scRef (fun vs H Q E h => ?_) (fun cdv A outer s H vs Q E gd0 hr h => ?_)
  · obtain ⟨t, x, y, z, rfl, _⟩ := h
    rfl
  · obtain ⟨t, x, y, z, rfl, ht, q⟩ := h
    have hr5 : Room 5 _ := hr
    have gd : (A.deeper (envOfC "_law_srefused" (defScope sRef) s.heap.objs.size f cdv)).guards = some [] := gd0
    refine ⟨_, (Evl.pss_cut (ps_set (i := 1) scRef.nd rfl (.inl rfl) pe_non)
      (Evl.pss_cut (Rk.ps_try_keep (i := 2) rfl rfl rfl scRef.nd rfl rfl ⟨rfl, by decide, .inl T.gS⟩ Rk.takes0 (fun W pn xe tk _ => (pss_one (ps_if (pt_cmpR op_eq (pe_callB (call_len_seqB (K := K) rfl) (by rfl) T.z_len (by decide +kernel) (pa_cons (pv 0) pa_nil)) pe_int (nomark _)) pss_never (pss_one (ps_if (pt_cmpR op_eq (pe_callB (call_len_seqB (K := K) rfl) (by rfl) T.z_len (by decide +kernel) (pa_cons (pv 0) pa_nil)) pe_int (nomark _)) pss_never (pss_one (ps_if (pt_cmpR op_eq (pe_callB (call_len_seqB (K := K) rfl) (by rfl) T.z_len (by decide +kernel) (pa_cons (pv 0) pa_nil)) pe_int (nomark _)) (pss_one (ps_expr (Rk.pe_callV GA gd hr5 kpA bA (fun σ => passAt tk σ) (pe_ix (ix_tupB (K := K) rfl) (pv 0) pe_int (fun _ _ => rfl)) (pa_cons (pe_ix (ix_tupB (K := K) rfl) (pv 0) pe_int (fun _ _ => rfl)) (pa_cons (pe_ix (ix_tupB (K := K) rfl) (pv 0) pe_int (fun _ _ => rfl)) (pa_cons (pe_ix (ix_tupB (K := K) rfl) (pv 0) pe_int (fun _ _ => rfl)) pa_nil)))))) pss_never))))))) (fun a oe cls d pn hz hf => (pss_one (ps_set (i := 1) scRef.nd rfl (.inl rfl) (pv 2)))))
      (pss_cons (ps_if (pt_cmpR op_isN (pv 1) pe_non (nomark _)) (pss_one (ps_ret pe_str)) pss_nil)
      (pss_cons (ps_set (i := 3) scRef.nd rfl (.inl rfl) (pe_lstN (pa_cons (pe_callB Rk.call_isW (by rfl) T.z_isinstance (by decide +kernel) (pa_cons (pv 1) (pa_cons (pe_glob (v := .ref (cs 0)) rfl (T.g 0 _ rfl) rfl) pa_nil))) (pa_cons (pe_callB Rk.call_isW (by rfl) T.z_isinstance (by decide +kernel) (pa_cons (pv 1) (pa_cons (pe_glob (v := .ref (cs 1)) rfl (T.g 1 _ rfl) rfl) pa_nil))) pa_nil))))
      (pss_cons (ps_set (i := 3) scRef.nd rfl (.inl rfl) (pe_op op_catN (pv 3) (pe_lstN (pa_cons (pe_callB Rk.call_isW (by rfl) T.z_isinstance (by decide +kernel) (pa_cons (pv 1) (pa_cons (pe_glob (v := .ref (cs 2)) rfl (T.g 2 _ rfl) rfl) pa_nil))) (pa_cons (pe_callB Rk.call_isW (by rfl) T.z_isinstance (by decide +kernel) (pa_cons (pv 1) (pa_cons (pe_glob (v := .ref (cs 3)) rfl (T.g 3 _ rfl) rfl) pa_nil))) pa_nil)))))
      (pss_cons (ps_set (i := 3) scRef.nd rfl (.inl rfl) (pe_op op_catN (pv 3) (pe_lstN (pa_cons (pe_callB Rk.call_isW (by rfl) T.z_isinstance (by decide +kernel) (pa_cons (pv 1) (pa_cons (pe_glob (v := .ref (cs 4)) rfl (T.g 4 _ rfl) rfl) pa_nil))) (pa_cons (pe_callB Rk.call_isW (by rfl) T.z_isinstance (by decide +kernel) (pa_cons (pv 1) (pa_cons (pe_glob (v := .ref (cs 5)) rfl (T.g 5 _ rfl) rfl) pa_nil))) pa_nil)))))
      (Evl.pss_cut (ps_set (i := 3) scRef.nd rfl (.inl rfl) (pe_op op_catN (pv 3) (pe_lstN (pa_cons (pe_callB Rk.call_isW (by rfl) T.z_isinstance (by decide +kernel) (pa_cons (pv 1) (pa_cons (pe_glob (v := .ref (cs 6)) rfl (T.g 6 _ rfl) rfl) pa_nil))) (pa_cons (pe_callB Rk.call_isW (by rfl) T.z_isinstance (by decide +kernel) (pa_cons (pv 1) (pa_cons (pe_glob (v := .ref (cs 7)) rfl (T.g 7 _ rfl) rfl) pa_nil))) pa_nil)))))
      (Evl.pss_cut (ps_expr (pe_bm PySem.F.plainAttrs_list PySem.F.slot_list_append PySem.F.type_list_append mt_append (pv 3) (pa_cons (pe_callB Rk.call_isW (by rfl) T.z_isinstance (by decide +kernel) (pa_cons (pv 1) (pa_cons (pe_glob (v := .ref (cs 8)) rfl (T.g 8 _ rfl) rfl) pa_nil))) pa_nil)))
      (pss_cons (ps_if (PW.pt (pw_or (pt_cmpR op_ne (pe_bm PySem.F.plainAttrs_list PySem.F.slot_list_count PySem.F.type_list_count Rk.mt_countV (pv 3) (pa_cons pe_bl pa_nil)) pe_int (nomark _)) (pw_or1 (pt_not (pt_val (pe_callB Rk.call_isW (by rfl) T.z_isinstance (by decide +kernel) (pa_cons (pv 1) (pa_cons (pe_bltn (v := .ty "ValueError") (by rfl) T.z_ValueError PyProof.Rows.Boot.«ValueError» rfl) pa_nil)))))))) (pss_one (ps_ret pe_str)) pss_nil)
      (pss_cons (ps_set (i := 4) scRef.nd rfl (.inl rfl) (pe_lstN (pa_cons pe_str (pa_cons pe_str (pa_cons pe_str (pa_cons pe_str (pa_cons pe_str (pa_cons pe_str (pa_cons pe_str (pa_cons pe_str (pa_cons pe_str pa_nil)))))))))))
      (pss_one (ps_ret (pe_ix ix_list (pv 4) (pe_bm PySem.F.plainAttrs_list PySem.F.slot_list_index PySem.F.type_list_index mt_index (pv 3) (pa_cons pe_bl pa_nil)) (fun _ _ => rfl)))))))))))))), ?_⟩
    refine Evl.q_cut (M := fun σ' H' => σ' = [some (.ref t), some .non, none, none, none] ∧ H' = H) ⟨rfl, rfl⟩ ?_
    rintro σ' H' ⟨rfl, rfl⟩
    refine Evl.q_cut (M := fun σ' H' => (σ' = [some (.ref t), some .non, none, none, none] ∧ (∀ H'', Same H' H'' → Q (.str "") H'')) ∨ ∃ (a : Addr) (i : Nat), σ' = [some (.ref t), some (.ref a), none, none, none] ∧ i < 9 ∧ ExW H' a (cs i) ∧ (∀ (wd : Str) (H'' : Hp), wd9[i]? = some wd → Same H' H'' → Q (.str wd) H'')) ?_ ?_
    · refine ⟨_, rfl, t, _, rfl, .inr (.of ht), rfl, false, rfl, ?_⟩
      refine ⟨_, rfl, t, _, rfl, .inr (.of ht), rfl, false, rfl, ?_⟩
      refine ⟨_, rfl, t, _, rfl, .inr (.of ht), rfl, true, rfl, ?_⟩
      refine ⟨_, rfl, t, _, 0, .ref fa, rfl, rfl, .of ht, rfl, rfl, ?_⟩
      refine ⟨_, rfl, t, _, 1, x, rfl, rfl, .of ht, rfl, ?_⟩
      refine ⟨_, rfl, t, _, 2, y, rfl, rfl, .of ht, rfl, ?_⟩
      refine ⟨_, rfl, t, _, 3, z, rfl, rfl, .of ht, rfl, ?_⟩
      refine mono _ _ _ _ _ _ q (fun v H1 h1 => .inl ⟨rfl, h1⟩) fun c d H1 h1 => ?_
      obtain ⟨i, hi, rfl, hd, h2⟩ := h1
      refine ⟨true, T.xm i hi, fun _ a na => ?_, fun z => nomatch z⟩
      refine ⟨.ref a, rfl, fun nb => .inr ⟨a, i, rfl, hi, ?_, fun wd H'' e s2 => h2 wd H'' e ((same_new na).trans s2)⟩⟩
      rcases hd with rfl | ⟨dx, v, rfl, hx⟩
      · exact .inl upd_same
      · exact .inr ⟨v, dx, upd_same, by rw [upd_ne (ne_of_none hx na)]; exact hx⟩
    · rintro σ' H1 (⟨rfl, q1⟩ | ⟨a, i, rfl, hi, hE, q1⟩)
      · refine ⟨_, rfl, rfl, true, rfl, ?_⟩
        exact q1 _ (Same.refl _)
      · refine ⟨_, rfl, rfl, false, rfl, ?_⟩
        refine ⟨_, rfl, a, cs i, .ref (cs 0), .ref (cs 0), decide (0 = i), rfl, hE, T.ec i hi, fun u r => r, T.ap i 0 hi (by decide), ?_⟩
        refine ⟨_, rfl, a, cs i, .ref (cs 1), .ref (cs 1), decide (1 = i), rfl, hE, T.ec i hi, fun u r => r, T.ap i 1 hi (by decide), ?_⟩
        refine ⟨by show 2 ≤ sizeLine; decide, fun q1' J1 nq1 u1 k1 _ => ?_⟩
        refine ⟨_, rfl, _, rfl, a, cs i, .ref (cs 2), .ref (cs 2), decide (2 = i), rfl, hE.same u1, T.ec i hi, fun u r => r, T.ap i 2 hi (by decide), ?_⟩
        refine ⟨_, rfl, a, cs i, .ref (cs 3), .ref (cs 3), decide (3 = i), rfl, hE.same u1, T.ec i hi, fun u r => r, T.ap i 3 hi (by decide), ?_⟩
        refine ⟨by show 2 ≤ sizeLine; decide, fun q2 J2 nq2 u2 k2 _ => ?_⟩
        refine ⟨q1', q2, _, _, rfl, rfl, u2 _ _ k1, k2, by show 4 ≤ sizeLine; decide, fun q3 J3 nq3 u3 k3 _ => ?_⟩
        have v3 := u1.trans (u2.trans u3)
        refine ⟨_, rfl, _, rfl, a, cs i, .ref (cs 4), .ref (cs 4), decide (4 = i), rfl, hE.same v3, T.ec i hi, fun u r => r, T.ap i 4 hi (by decide), ?_⟩
        refine ⟨_, rfl, a, cs i, .ref (cs 5), .ref (cs 5), decide (5 = i), rfl, hE.same v3, T.ec i hi, fun u r => r, T.ap i 5 hi (by decide), ?_⟩
        refine ⟨by show 2 ≤ sizeLine; decide, fun q4 J4 nq4 u4 k4 _ => ?_⟩
        refine ⟨q3, q4, _, _, rfl, rfl, u4 _ _ k3, k4, by show 6 ≤ sizeLine; decide, fun q5 J5 nq5 u5 k5 _ => ?_⟩
        have v5 := v3.trans (u4.trans u5)
        refine Evl.q_cut (M := fun σ' H2 => ∃ p : Addr, σ' = [some (.ref t), some (.ref a), none, some (.ref p), none] ∧ Same H1 H2 ∧ H1 p = none ∧ H2 p = some (.lst ((List.range 8).map fun j => V.bl (decide (j = i))))) ?_ ?_
        · refine ⟨_, rfl, _, rfl, a, cs i, .ref (cs 6), .ref (cs 6), decide (6 = i), rfl, hE.same v5, T.ec i hi, fun u r => r, T.ap i 6 hi (by decide), ?_⟩
          refine ⟨_, rfl, a, cs i, .ref (cs 7), .ref (cs 7), decide (7 = i), rfl, hE.same v5, T.ec i hi, fun u r => r, T.ap i 7 hi (by decide), ?_⟩
          refine ⟨by show 2 ≤ sizeLine; decide, fun q6 J6 nq6 u6 k6 _ => ?_⟩
          refine ⟨q5, q6, _, _, rfl, rfl, u6 _ _ k5, k6, by show 8 ≤ sizeLine; decide, fun q7 J7 nq7 u7 k7 _ => ?_⟩
          exact ⟨q7, rfl, v5.trans (u6.trans u7), (v5.trans u6).free nq7, k7⟩
        rintro σ' H2 ⟨p, rfl, s2, np, hp⟩
        refine Evl.q_cut (M := fun σ' H3 => σ' = [some (.ref t), some (.ref a), none, some (.ref p), none] ∧ Same H1 H3 ∧ H3 p = some (.lst (tru9 i))) ?_ ?_
        · refine ⟨_, rfl, .inl ⟨rfl, _, .of hp⟩, _, rfl, a, cs i, .ref (cs 8), .ref (cs 8), decide (8 = i), rfl, hE.same s2, T.ec i hi, fun u r => r, T.ap i 8 hi (by decide), ?_⟩
          refine ⟨p, _, _, rfl, rfl, hp, by show 8 < sizeLine; decide, rfl, fun b o e => ?_, upd_same⟩
          rw [upd_ne (ne_of_none e np)]
          exact s2 _ _ e
        rintro σ' H3 ⟨rfl, s3, hp3⟩
        refine ⟨_, rfl, .inl ⟨rfl, _, .of hp3⟩, p, _, .bl true, rfl, rfl, .of hp3, rfl, flat9 ⟨i, hi⟩, ?_⟩
        rw [cnt9 ⟨i, hi⟩]
        refine ⟨rfl, false, by simp, ?_⟩
        refine ⟨_, rfl, a, cs i, .ty "ValueError", .type "ValueError", true, rfl, hE.same s3, T.ec i hi, fun u r => r, T.kv i hi, _, rfl, ?_⟩
        refine ⟨by show 9 ≤ sizeLine; decide, fun pw H4 npw u4 kw _ => ?_⟩
        have lw : i < wd9.length := hi
        have ew : (wd9.map V.str)[i]? = some (V.str wd9[i]) := by rw [List.getElem?_map, List.getElem?_eq_getElem lw]; rfl
        refine ⟨_, rfl, _, rfl, .inl ⟨rfl, _, .of (u4 _ _ hp3)⟩, p, _, .bl true, i, .bl true, rfl, rfl, .of (u4 _ _ hp3), rfl, flat9 ⟨i, hi⟩, ix9 ⟨i, hi⟩, rfl, fun m z hm hz => no9 hm hi hz, ?_⟩
        refine ⟨pw, _, _, .str wd9[i], rfl, rfl, .of kw, at_of (j := i) rfl ew, ?_⟩
        exact q1 _ _ (List.getElem?_eq_getElem lw) (s3.trans u4)
end
end Rf
namespace Rf5
open PySem PySem.Spec PyProof.Rows L2 GxR Nw Dr Kp Se Cl Ct Ev1 Rk Rf
section
variable {P : Program} {w : World} {K : PySem.W.Frag} {mg : Str → Option Value} {base : Heap}
/-- what refusing tells: a call with these three things; it may be refused by the class i, or not -/
def spRef5 (fa : Addr) (cs : Nat → Addr) (sp : Sp) : Sp := fun vs H Q _ => ∃ (t : Addr) (x y z u : V), vs = [.ref t] ∧ H t = some (.tup [.ref fa, x, y, z, u]) ∧
  sp [x, y, z, u] H (fun _ H1 => ∀ H', Same H1 H' → Q (.str "") H') fun cls d H1 => ∃ i, i < 9 ∧ cls = .ref (cs i) ∧ (d = none ∨ ∃ dx v, d = some dx ∧ H1 dx = some (.xd [(("at" : Str), v)])) ∧ ∀ (wd : Str) (H' : Hp), wd9[i]? = some wd → Same H1 H' → Q (.str wd) H'
theorem ok_ref5 {f fa S : Addr} {cs : Nat → Addr} {fd fda : FuncData} {ps : List Str} {ka : Nat} {sp : Sp} (F : Fun K "_law_srefused" "_law_srefused" sRef f fd) (T : Txt K mg cs S) (kpA : PySem.W.keepIn K (.ref fa) = true) (bA : Binds K fda ps []) (GA : Gx2.FnX P w K mg base (L2.CX P w) ka fa fda ps sp)
    (mono : ∀ (vs : List V) (H : Hp) (Q Q' : VK) (E E' : XK), sp vs H Q E → (∀ v H', Q v H' → Q' v H') → (∀ c d H', E c d H' → E' c d H') → sp vs H Q' E') :
    Gx2.FnX P w K mg base CX0 (ka + 1) f fd ["act"] (spRef5 fa cs sp) := by
  refine Gx2.okX F scRef (fun vs H Q E h => ?_) (fun cdv A outer s H vs Q E gd0 hr h => ?_)
  · obtain ⟨t, x, y, z, u, rfl, _⟩ := h
    rfl
  · obtain ⟨t, x, y, z, u, rfl, ht, q⟩ := h
    have hrA : Room ka _ := hr
    have gd : (A.deeper (envOfC "_law_srefused" (defScope sRef) s.heap.objs.size f cdv)).guards = some [] := gd0
    refine ⟨_, (Evl.pss_cut (ps_set (i := 1) scRef.nd rfl (.inl rfl) pe_non)
      (Evl.pss_cut (Rk.ps_try_keep (i := 2) rfl rfl rfl scRef.nd rfl rfl ⟨rfl, by decide, .inl T.gS⟩ Rk.takes0 (fun W pn xe tk _ => (pss_one (ps_if (pt_cmpR op_eq (pe_callB (call_len_seqB (K := K) rfl) (by rfl) T.z_len (by decide +kernel) (pa_cons (pv 0) pa_nil)) pe_int (nomark _)) pss_never (pss_one (ps_if (pt_cmpR op_eq (pe_callB (call_len_seqB (K := K) rfl) (by rfl) T.z_len (by decide +kernel) (pa_cons (pv 0) pa_nil)) pe_int (nomark _)) pss_never (pss_one (ps_if (pt_cmpR op_eq (pe_callB (call_len_seqB (K := K) rfl) (by rfl) T.z_len (by decide +kernel) (pa_cons (pv 0) pa_nil)) pe_int (nomark _)) pss_never (pss_one (ps_expr (Rk.pe_callV GA gd hrA kpA bA (fun σ => passAt tk σ) (pe_ix (ix_tupB (K := K) rfl) (pv 0) pe_int (fun _ _ => rfl)) (pa_cons (pe_ix (ix_tupB (K := K) rfl) (pv 0) pe_int (fun _ _ => rfl)) (pa_cons (pe_ix (ix_tupB (K := K) rfl) (pv 0) pe_int (fun _ _ => rfl)) (pa_cons (pe_ix (ix_tupB (K := K) rfl) (pv 0) pe_int (fun _ _ => rfl)) (pa_cons (pe_ix (ix_tupB (K := K) rfl) (pv 0) pe_int (fun _ _ => rfl)) pa_nil)))))))))))))) (fun a oe cls d pn hz hf => (pss_one (ps_set (i := 1) scRef.nd rfl (.inl rfl) (pv 2)))))
      (pss_cons (ps_if (pt_cmpR op_isN (pv 1) pe_non (nomark _)) (pss_one (ps_ret pe_str)) pss_nil)
      (pss_cons (ps_set (i := 3) scRef.nd rfl (.inl rfl) (pe_lstN (pa_cons (pe_callB Rk.call_isW (by rfl) T.z_isinstance (by decide +kernel) (pa_cons (pv 1) (pa_cons (pe_glob (v := .ref (cs 0)) rfl (T.g 0 _ rfl) rfl) pa_nil))) (pa_cons (pe_callB Rk.call_isW (by rfl) T.z_isinstance (by decide +kernel) (pa_cons (pv 1) (pa_cons (pe_glob (v := .ref (cs 1)) rfl (T.g 1 _ rfl) rfl) pa_nil))) pa_nil))))
      (pss_cons (ps_set (i := 3) scRef.nd rfl (.inl rfl) (pe_op op_catN (pv 3) (pe_lstN (pa_cons (pe_callB Rk.call_isW (by rfl) T.z_isinstance (by decide +kernel) (pa_cons (pv 1) (pa_cons (pe_glob (v := .ref (cs 2)) rfl (T.g 2 _ rfl) rfl) pa_nil))) (pa_cons (pe_callB Rk.call_isW (by rfl) T.z_isinstance (by decide +kernel) (pa_cons (pv 1) (pa_cons (pe_glob (v := .ref (cs 3)) rfl (T.g 3 _ rfl) rfl) pa_nil))) pa_nil)))))
      (pss_cons (ps_set (i := 3) scRef.nd rfl (.inl rfl) (pe_op op_catN (pv 3) (pe_lstN (pa_cons (pe_callB Rk.call_isW (by rfl) T.z_isinstance (by decide +kernel) (pa_cons (pv 1) (pa_cons (pe_glob (v := .ref (cs 4)) rfl (T.g 4 _ rfl) rfl) pa_nil))) (pa_cons (pe_callB Rk.call_isW (by rfl) T.z_isinstance (by decide +kernel) (pa_cons (pv 1) (pa_cons (pe_glob (v := .ref (cs 5)) rfl (T.g 5 _ rfl) rfl) pa_nil))) pa_nil)))))
      (Evl.pss_cut (ps_set (i := 3) scRef.nd rfl (.inl rfl) (pe_op op_catN (pv 3) (pe_lstN (pa_cons (pe_callB Rk.call_isW (by rfl) T.z_isinstance (by decide +kernel) (pa_cons (pv 1) (pa_cons (pe_glob (v := .ref (cs 6)) rfl (T.g 6 _ rfl) rfl) pa_nil))) (pa_cons (pe_callB Rk.call_isW (by rfl) T.z_isinstance (by decide +kernel) (pa_cons (pv 1) (pa_cons (pe_glob (v := .ref (cs 7)) rfl (T.g 7 _ rfl) rfl) pa_nil))) pa_nil)))))
      (Evl.pss_cut (ps_expr (pe_bm PySem.F.plainAttrs_list PySem.F.slot_list_append PySem.F.type_list_append mt_append (pv 3) (pa_cons (pe_callB Rk.call_isW (by rfl) T.z_isinstance (by decide +kernel) (pa_cons (pv 1) (pa_cons (pe_glob (v := .ref (cs 8)) rfl (T.g 8 _ rfl) rfl) pa_nil))) pa_nil)))
      (pss_cons (ps_if (PW.pt (pw_or (pt_cmpR op_ne (pe_bm PySem.F.plainAttrs_list PySem.F.slot_list_count PySem.F.type_list_count Rk.mt_countV (pv 3) (pa_cons pe_bl pa_nil)) pe_int (nomark _)) (pw_or1 (pt_not (pt_val (pe_callB Rk.call_isW (by rfl) T.z_isinstance (by decide +kernel) (pa_cons (pv 1) (pa_cons (pe_bltn (v := .ty "ValueError") (by rfl) T.z_ValueError PyProof.Rows.Boot.«ValueError» rfl) pa_nil)))))))) (pss_one (ps_ret pe_str)) pss_nil)
      (pss_cons (ps_set (i := 4) scRef.nd rfl (.inl rfl) (pe_lstN (pa_cons pe_str (pa_cons pe_str (pa_cons pe_str (pa_cons pe_str (pa_cons pe_str (pa_cons pe_str (pa_cons pe_str (pa_cons pe_str (pa_cons pe_str pa_nil)))))))))))
      (pss_one (ps_ret (pe_ix ix_list (pv 4) (pe_bm PySem.F.plainAttrs_list PySem.F.slot_list_index PySem.F.type_list_index mt_index (pv 3) (pa_cons pe_bl pa_nil)) (fun _ _ => rfl)))))))))))))), ?_⟩
    refine Evl.q_cut (M := fun σ' H' => σ' = [some (.ref t), some .non, none, none, none] ∧ H' = H) ⟨rfl, rfl⟩ ?_
    rintro σ' H' ⟨rfl, rfl⟩
    refine Evl.q_cut (M := fun σ' H' => (σ' = [some (.ref t), some .non, none, none, none] ∧ (∀ H'', Same H' H'' → Q (.str "") H'')) ∨ ∃ (a : Addr) (i : Nat), σ' = [some (.ref t), some (.ref a), none, none, none] ∧ i < 9 ∧ ExW H' a (cs i) ∧ (∀ (wd : Str) (H'' : Hp), wd9[i]? = some wd → Same H' H'' → Q (.str wd) H'')) ?_ ?_
    · refine ⟨_, rfl, t, _, rfl, .inr (.of ht), rfl, false, rfl, ?_⟩
      refine ⟨_, rfl, t, _, rfl, .inr (.of ht), rfl, false, rfl, ?_⟩
      refine ⟨_, rfl, t, _, rfl, .inr (.of ht), rfl, false, rfl, ?_⟩
      refine ⟨_, rfl, t, _, 0, .ref fa, rfl, rfl, .of ht, rfl, rfl, ?_⟩
      refine ⟨_, rfl, t, _, 1, x, rfl, rfl, .of ht, rfl, ?_⟩
      refine ⟨_, rfl, t, _, 2, y, rfl, rfl, .of ht, rfl, ?_⟩
      refine ⟨_, rfl, t, _, 3, z, rfl, rfl, .of ht, rfl, ?_⟩
      refine ⟨_, rfl, t, _, 4, u, rfl, rfl, .of ht, rfl, ?_⟩
      refine mono _ _ _ _ _ _ q (fun v H1 h1 => .inl ⟨rfl, h1⟩) fun c d H1 h1 => ?_
      obtain ⟨i, hi, rfl, hd, h2⟩ := h1
      refine ⟨true, T.xm i hi, fun _ a na => ?_, fun z => nomatch z⟩
      refine ⟨.ref a, rfl, fun nb => .inr ⟨a, i, rfl, hi, ?_, fun wd H'' e s2 => h2 wd H'' e ((same_new na).trans s2)⟩⟩
      rcases hd with rfl | ⟨dx, v, rfl, hx⟩
      · exact .inl upd_same
      · exact .inr ⟨v, dx, upd_same, by rw [upd_ne (ne_of_none hx na)]; exact hx⟩
    · rintro σ' H1 (⟨rfl, q1⟩ | ⟨a, i, rfl, hi, hE, q1⟩)
      · refine ⟨_, rfl, rfl, true, rfl, ?_⟩
        exact q1 _ (Same.refl _)
      · refine ⟨_, rfl, rfl, false, rfl, ?_⟩
        refine ⟨_, rfl, a, cs i, .ref (cs 0), .ref (cs 0), decide (0 = i), rfl, hE, T.ec i hi, fun u r => r, T.ap i 0 hi (by decide), ?_⟩
        refine ⟨_, rfl, a, cs i, .ref (cs 1), .ref (cs 1), decide (1 = i), rfl, hE, T.ec i hi, fun u r => r, T.ap i 1 hi (by decide), ?_⟩
        refine ⟨by show 2 ≤ sizeLine; decide, fun q1' J1 nq1 u1 k1 _ => ?_⟩
        refine ⟨_, rfl, _, rfl, a, cs i, .ref (cs 2), .ref (cs 2), decide (2 = i), rfl, hE.same u1, T.ec i hi, fun u r => r, T.ap i 2 hi (by decide), ?_⟩
        refine ⟨_, rfl, a, cs i, .ref (cs 3), .ref (cs 3), decide (3 = i), rfl, hE.same u1, T.ec i hi, fun u r => r, T.ap i 3 hi (by decide), ?_⟩
        refine ⟨by show 2 ≤ sizeLine; decide, fun q2 J2 nq2 u2 k2 _ => ?_⟩
        refine ⟨q1', q2, _, _, rfl, rfl, u2 _ _ k1, k2, by show 4 ≤ sizeLine; decide, fun q3 J3 nq3 u3 k3 _ => ?_⟩
        have v3 := u1.trans (u2.trans u3)
        refine ⟨_, rfl, _, rfl, a, cs i, .ref (cs 4), .ref (cs 4), decide (4 = i), rfl, hE.same v3, T.ec i hi, fun u r => r, T.ap i 4 hi (by decide), ?_⟩
        refine ⟨_, rfl, a, cs i, .ref (cs 5), .ref (cs 5), decide (5 = i), rfl, hE.same v3, T.ec i hi, fun u r => r, T.ap i 5 hi (by decide), ?_⟩
        refine ⟨by show 2 ≤ sizeLine; decide, fun q4 J4 nq4 u4 k4 _ => ?_⟩
        refine ⟨q3, q4, _, _, rfl, rfl, u4 _ _ k3, k4, by show 6 ≤ sizeLine; decide, fun q5 J5 nq5 u5 k5 _ => ?_⟩
        have v5 := v3.trans (u4.trans u5)
        refine Evl.q_cut (M := fun σ' H2 => ∃ p : Addr, σ' = [some (.ref t), some (.ref a), none, some (.ref p), none] ∧ Same H1 H2 ∧ H1 p = none ∧ H2 p = some (.lst ((List.range 8).map fun j => V.bl (decide (j = i))))) ?_ ?_
        · refine ⟨_, rfl, _, rfl, a, cs i, .ref (cs 6), .ref (cs 6), decide (6 = i), rfl, hE.same v5, T.ec i hi, fun u r => r, T.ap i 6 hi (by decide), ?_⟩
          refine ⟨_, rfl, a, cs i, .ref (cs 7), .ref (cs 7), decide (7 = i), rfl, hE.same v5, T.ec i hi, fun u r => r, T.ap i 7 hi (by decide), ?_⟩
          refine ⟨by show 2 ≤ sizeLine; decide, fun q6 J6 nq6 u6 k6 _ => ?_⟩
          refine ⟨q5, q6, _, _, rfl, rfl, u6 _ _ k5, k6, by show 8 ≤ sizeLine; decide, fun q7 J7 nq7 u7 k7 _ => ?_⟩
          exact ⟨q7, rfl, v5.trans (u6.trans u7), (v5.trans u6).free nq7, k7⟩
        rintro σ' H2 ⟨p, rfl, s2, np, hp⟩
        refine Evl.q_cut (M := fun σ' H3 => σ' = [some (.ref t), some (.ref a), none, some (.ref p), none] ∧ Same H1 H3 ∧ H3 p = some (.lst (tru9 i))) ?_ ?_
        · refine ⟨_, rfl, .inl ⟨rfl, _, .of hp⟩, _, rfl, a, cs i, .ref (cs 8), .ref (cs 8), decide (8 = i), rfl, hE.same s2, T.ec i hi, fun u r => r, T.ap i 8 hi (by decide), ?_⟩
          refine ⟨p, _, _, rfl, rfl, hp, by show 8 < sizeLine; decide, rfl, fun b o e => ?_, upd_same⟩
          rw [upd_ne (ne_of_none e np)]
          exact s2 _ _ e
        rintro σ' H3 ⟨rfl, s3, hp3⟩
        refine ⟨_, rfl, .inl ⟨rfl, _, .of hp3⟩, p, _, .bl true, rfl, rfl, .of hp3, rfl, flat9 ⟨i, hi⟩, ?_⟩
        rw [cnt9 ⟨i, hi⟩]
        refine ⟨rfl, false, by simp, ?_⟩
        refine ⟨_, rfl, a, cs i, .ty "ValueError", .type "ValueError", true, rfl, hE.same s3, T.ec i hi, fun u r => r, T.kv i hi, _, rfl, ?_⟩
        refine ⟨by show 9 ≤ sizeLine; decide, fun pw H4 npw u4 kw _ => ?_⟩
        have lw : i < wd9.length := hi
        have ew : (wd9.map V.str)[i]? = some (V.str wd9[i]) := by rw [List.getElem?_map, List.getElem?_eq_getElem lw]; rfl
        refine ⟨_, rfl, _, rfl, .inl ⟨rfl, _, .of (u4 _ _ hp3)⟩, p, _, .bl true, i, .bl true, rfl, rfl, .of (u4 _ _ hp3), rfl, flat9 ⟨i, hi⟩, ix9 ⟨i, hi⟩, rfl, fun m z hm hz => no9 hm hi hz, ?_⟩
        refine ⟨pw, _, _, .str wd9[i], rfl, rfl, .of kw, at_of (j := i) rfl ew, ?_⟩
        exact q1 _ _ (List.getElem?_eq_getElem lw) (s3.trans u4)

end
end Rf5
namespace K43
open PySem PySem.Spec PyProof.Rows L2 GxR Nw Dr Kp Se Cl Co Sl Sn Sic Few Od Dtr Tab42 Un Sh43 Tb43 Rf Rf5
theorem lt0 {n m : Nat} (h : n + 64 < m) : n < m := by omega
theorem lt2 {n m : Nat} (h : n + 64 < m) : n + 2 < m := by omega
structure Zk (mg : Str → Option Value) : Prop where
  z_dict : mg "dict" = none
  z_sorted : mg "sorted" = none
  z_len : mg "len" = none
  z_range : mg "range" = none
  z_tuple : mg "tuple" = none
  z_repr : mg "repr" = none
  z_isinstance : mg "isinstance" = none
  z_bool : mg "bool" = none
/-- the tables of code objects -/
structure Tb (Pi Ph Pa : Addr) (H : Hp) : Prop where
  i : TabG H Pi
  h : TabG H Ph
  a : TabG H Pa
theorem Tb.ke {F : Addr → Prop} {Pi Ph Pa : Addr} {H H' : Hp} (x : Tb Pi Ph Pa H) (k : Ke F H H') : Tb Pi Ph Pa H' := ⟨k.tabs _ x.i, k.tabs _ x.h, k.tabs _ x.a⟩
/-- things, a book, a claim -/
structure Ca (H : Hp) (fe t : Addr) (b x : V) (css : List (List Int)) (cs ks : List Int) : Prop where
  bk : Bk H b css
  ic : ∀ c ∈ css, Of ks c
  l1 : 1 ≤ css.length
  l8 : css.length ≤ 8
  cl : TupI H x cs
  ii : Of ks cs
  ev : H t = some (.lst (ks.map V.int))
  tk : Thg ks
  ne : t ≠ fe
theorem Ca.ke {F : Addr → Prop} {H H' : Hp} {fe t : Addr} {b x : V} {css : List (List Int)} {cs ks : List Int} (c : Ca H fe t b x css cs ks) (k : Ke F H H') (n : ¬ F t) : Ca H' fe t b x css cs ks := ⟨c.bk.ke k, c.ic, c.l1, c.l8, c.cl.ke k, c.ii, k.lst c.ev n, c.tk, c.ne⟩
/-- claims that are some of a book's -/
theorem rep_mem {css : List (List Int)} {m n : Nat} : ∀ c ∈ ((List.replicate m css).flatten.take n), c ∈ css := fun c h => by
  obtain ⟨l, hl, hc⟩ := List.mem_flatten.mp (List.mem_of_mem_take h)
  rw [List.eq_of_mem_replicate hl] at hc
  exact hc
theorem rep_at {H : Hp} {vs : List V} {css : List (List Int)} (l : vs.length = css.length) (h : ∀ (i : Nat) (x : V) (cs : List Int), vs[i]? = some x → css[i]? = some cs → TupI H x cs) (m : Nat) : (List.replicate m vs).flatten.length = (List.replicate m css).flatten.length ∧ ∀ (i : Nat) (x : V) (cs : List Int), (List.replicate m vs).flatten[i]? = some x → (List.replicate m css).flatten[i]? = some cs → TupI H x cs := by
  induction m with
  | zero => exact ⟨rfl, fun i x cs h => by simp at h⟩
  | succ m ih =>
    rw [List.replicate_succ, List.replicate_succ, List.flatten_cons, List.flatten_cons]
    refine ⟨by rw [List.length_append, List.length_append, l, ih.1], fun i x cs h1 h2 => ?_⟩
    by_cases z : i < vs.length
    · rw [List.getElem?_append_left z] at h1
      rw [List.getElem?_append_left (by omega)] at h2
      exact h i x cs h1 h2
    · rw [List.getElem?_append_right (by omega)] at h1 h2
      rw [l] at h1
      exact ih.2 _ x cs h1 h2
theorem cut10 (xs : List V) (n : Nat) : cutV xs none (some (n : Int)) = xs.take n := by
  unfold cutV
  rw [HT.sIx_none, HT.sIx_nat, List.drop_zero, Nat.sub_zero]
  rcases Nat.le_total n xs.length with h | h
  · rw [Nat.min_eq_left h]
  · rw [Nat.min_eq_right h, List.take_length, List.take_of_length_le h]
theorem frs_nf {H : Hp} {f c p : Addr} {B : Nat} (h : Frs H p) (hF : Feed H f c B) : p ≠ f := by
  obtain ⟨_, _, _, h1, _⟩ := hF
  exact Ne.symm (h f _ h1 fun ps z => by cases z)
theorem bl_sz (b : Bool) : (PyData.shown (.bool b)).length ≤ sizeLine := by cases b <;> decide +kernel
theorem paired_map {α β γ : Type} {R : α → γ → Prop} {f : β → γ} : ∀ {l : List α} {m : List β}, Paired (fun a b => R a (f b)) l m → Paired R l (m.map f)
  | _, _, .nil => .nil
  | _, _, .cons h t => .cons h (paired_map t)
theorem paired_maps {α β γ : Type} {R : α → γ → Prop} {f : β → α} {g : β → γ} : ∀ {l : List β}, (∀ b ∈ l, R (f b) (g b)) → Paired R (l.map f) (l.map g)
  | [], _ => .nil
  | b :: l, h => .cons (h b List.mem_cons_self) (paired_maps fun c hc => h c (List.mem_cons_of_mem _ hc))
theorem ones_key {ag : V} (k : Nat) : (((List.range k).map fun n : Nat => (kT [(n : Int)], ag)).map (·.1)).Nodup := by
  rw [List.map_map, List.nodup_iff_pairwise_ne, List.pairwise_map]
  refine (List.pairwise_lt_range (n := k)).imp fun {a b} h e => ?_
  have e : kT [(a : Int)] = kT [(b : Int)] := e
  have := To.kT_inj e
  have : (a : Int) = b := by injection this
  omega
theorem ones_hash : ((List.range 17).map fun n : Nat => hT [(n : Int)]).Nodup := by decide +kernel
/-- a row (many, table) of the last asking -/
def Row (G : Hp) (y : V) : Prop := ∃ (p : Addr) (m : Int) (d : Addr) (kvs : List (List Key × V)) (D : List (List Int × List Bool)), y = .ref p ∧ G p = some (.tup [.int m, .ref d]) ∧ G d = some (.dT kvs) ∧ DtR G kvs D ∧ D.length ≤ 40 ∧ (∀ d ∈ D, (∀ n ∈ d.1, -60 ≤ n ∧ n < 70) ∧ d.1.length ≤ 20 ∧ d.2.length = 8) ∧ (D.map fun d => hT d.1).Nodup
theorem Row.ke {G G' : Hp} {y : V} (x : Row G y) (k : Ke Nof G G') : Row G' y := by
  obtain ⟨p, m, d, kvs, D, h1, h2, h3, h4, h5, h6, h7⟩ := x
  exact ⟨p, m, d, kvs, D, h1, k.tups _ _ h2, k.keep d _ h3 (fun ps z => by cases z) id, dtr_ke k h4, h5, h6, h7⟩
theorem row_hash {P : Program} {w : World} {G : Hp} : ∀ {kvs : List (List Key × V)} {D : List (List Int × List Bool)}, DtR G kvs D → (D.map fun d => hT d.1).Nodup → (kvs.map fun p => tupleKeyHash (mixKind P w) p.1).Nodup := fun {kvs D} r nd => by
  have e : (kvs.map fun p => tupleKeyHash (mixKind P w) p.1) = D.map fun d => hT d.1 := by
    clear nd
    induction r with
    | nil => rfl
    | cons h _ ih =>
      rw [List.map_cons, List.map_cons, ih, h.1, hash_kT]
  rw [e]
  exact nd
/-- a tables' list -/
structure Tl (G : Hp) (L : Addr) (as : List Addr) : Prop where
  l : G L = some (.lst (as.map V.ref))
  t : ∀ a ∈ as, ∃ kvs, G a = some (.dT kvs) ∧ Tv G kvs
theorem Tl.ke {G G' : Hp} {L : Addr} {as : List Addr} (x : Tl G L as) (k : Ke Nof G G') : Tl G' L as := ⟨k.lst x.l id, fun a m => by
  obtain ⟨kvs, h1, h2⟩ := x.t a m
  exact ⟨kvs, k.keep a _ h1 (fun ps z => by cases z) id, h2.ke k⟩⟩
section
variable {P : Program} {w : World} {K : PySem.W.Frag} {mg : Str → Option Value} {base : Heap} {Pi Ph Pa : Addr}
abbrev sLaw : Stmt := topS 45
abbrev nLaw : List Str := ["script", "feed", "turn", "things", "book", "claim", "many", "table", "handed", "found", "many_more", "great", "against", "ones", "k", "number"]
theorem scL : FnScope nLaw ["script"] (defScope sLaw) := ⟨rfl, rfl, rfl, by decide +kernel, rfl, by decide +kernel, by decide +kernel⟩
def spLaw (Pi Ph Pa : Addr) (K : PySem.W.Frag) : Sp := fun vs H Q _ => ∃ (a : Addr) (ns : List Int), vs = [.ref a] ∧ SqL K H a (ns.map V.int) ∧ TabG H Pi ∧ TabG H Ph ∧ TabG H Pa ∧ ∀ H', Q (.bl true) H'
theorem ok_law {f fO fD fT fC fB fA fS fU fR : Addr} {cs : Nat → Addr} {fd fdO fdD fdT fdC fdB fdA fdS fdU fdR : FuncData} (FL : Fun K "law" "law" sLaw f fd) (T : Zk mg)
    (FO : Fun K "_law_sopen" "_law_sopen" sOpn fO fdO) (bO : Binds K fdO ["script"] []) (gO : mg "_law_sopen" = some (.ref fO)) (GO : FnOk P w K mg base CX0 1 fO fdO ["script"] (spOpn K))
    (FD : Fun K "_law_sdraw" "_law_sdraw" sDrw fD fdD) (bD : Binds K fdD ["feed", "many"] []) (gD : mg "_law_sdraw" = some (.ref fD)) (GD : FnOk P w K mg base CX0 2 fD fdD ["feed", "many"] spDrw)
    (FT : Fun K "_law_sthings" "_law_sthings" sThg fT fdT) (bT : Binds K fdT ["feed", "least", "most"] []) (gT : mg "_law_sthings" = some (.ref fT)) (GT : FnOk P w K mg base CX0 3 fT fdT ["feed", "least", "most"] spThg)
    (FC : Fun K "_law_sclaim" "_law_sclaim" sClm fC fdC) (bC : Binds K fdC ["feed", "things", "most"] []) (gC : mg "_law_sclaim" = some (.ref fC)) (GC : FnOk P w K mg base CX0 3 fC fdC ["feed", "things", "most"] spClm)
    (FB : Fun K "_law_sbook" "_law_sbook" sBok fB fdB) (bB : Binds K fdB ["feed", "things", "most"] []) (gB : mg "_law_sbook" = some (.ref fB)) (GB : FnOk P w K mg base CX0 4 fB fdB ["feed", "things", "most"] spBok)
    (FA : Fun K "_law_s_tables" "_law_s_tables" sTbs fA fdA) (bA : Binds K fdA ["feed", "book", "claim", "every", "many"] []) (gA : mg "_law_s_tables" = some (.ref fA)) (GA : FnOk P w K mg base CX0 4 fA fdA ["feed", "book", "claim", "every", "many"] spTbs)
    (FS : Fun K "shows_needed" "shows_needed" sShn fS fdS) (bS : Binds K fdS ["book", "claim", "many", "table"] []) (gS : mg "shows_needed" = some (.ref fS)) (GS : FnOk P w K mg base CX0 7 fS fdS ["book", "claim", "many", "table"] (spShG Pi Ph Pa))
    (FU : Fun K "_law_s_due" "_law_s_due" sDue fU fdU) (bU : Binds K fdU ["book", "claim", "many", "table"] []) (gU : mg "_law_s_due" = some (.ref fU)) (GU : FnOk P w K mg base CX0 4 fU fdU ["book", "claim", "many", "table"] spDue)
    (FR : Fun K "_law_srefused" "_law_srefused" sRef fR fdR) (bR : Binds K fdR ["act"] []) (gR : mg "_law_srefused" = some (.ref fR)) (GR : Gx2.FnX P w K mg base CX0 3 fR fdR ["act"] (spRef5 fS cs (spShX (cs 4)))) :
    Gd.FnG P w K mg base 10 f fd ["script"] (spLaw Pi Ph Pa K) := by
  refine Gd.okG FL scL (fun vs H Q E h => ?_) (fun cdv A outer s H vs Q E gd0 hr h => ?_)
  · obtain ⟨a, ns, rfl, _⟩ := h
    rfl
  · obtain ⟨a, ns, rfl, hS0, t1, t2, t3, q⟩ := h
    have hr1 : Room 1 _ := hr.mono (by decide)
    have hr2 : Room 2 _ := hr.mono (by decide)
    have hr3 : Room 3 _ := hr.mono (by decide)
    have hr4 : Room 4 _ := hr.mono (by decide)
    have hr7 : Room 7 _ := hr.mono (by decide)
    have gd : (A.deeper (envOfC "law" (defScope sLaw) s.heap.objs.size f cdv)).guards = some [] := gd0
    have hu : (A.deeper (envOfC "law" (defScope sLaw) s.heap.objs.size f cdv)).units + 70 < cLine := by
      have := hr.un
      omega
    refine ⟨_, (Evl.pss_cut (ps_set (i := 1) scL.nd rfl (.inl rfl) (pe_call GO hr1 (by rfl) gO FO.kp bO .nil pass0 (pa_cons (pv 0) pa_nil)))
      (Evl.pss_cut (ps_for PassesOwn.never rfl (pi_range1 (by rfl) T.z_range (pa_cons pe_int pa_nil)) (pg_name (i := 2) scL.nd rfl (.inl rfl)) (Evl.pss_cut (ps_set (i := 3) scL.nd rfl (.inl rfl) (pe_call GT hr3 (by rfl) gT FT.kp bT .nil pass0 (pa_cons (pv 1) (pa_cons pe_int (pa_cons pe_int pa_nil)))))
      (Evl.pss_cut (ps_set (i := 4) scL.nd rfl (.inl rfl) (pe_op op_catTN (pe_call GB hr4 (by rfl) gB FB.kp bB .nil pass0 (pa_cons (pv 1) (pa_cons (pv 3) (pa_cons pe_int pa_nil)))) (pe_tupN (pa_cons (pe_call GC hr3 (by rfl) gC FC.kp bC .nil pass0 (pa_cons (pv 1) (pa_cons (pv 3) (pa_cons pe_int pa_nil)))) pa_nil))))
      (Evl.pss_cut (ps_set (i := 5) scL.nd rfl (.inr rfl) (pe_ix ix_list (pe_lstN (pa_cons (pe_tupN pa_nil) (pa_cons (pe_call GC hr3 (by rfl) gC FC.kp bC .nil pass0 (pa_cons (pv 1) (pa_cons (pv 3) (pa_cons pe_int pa_nil)))) pa_nil))) (pe_call GD hr2 (by rfl) gD FD.kp bD .nil pass0 (pa_cons (pv 1) (pa_cons pe_int pa_nil))) (fun _ _ => rfl)))
      (pss_one (ps_for PassesOwn.never rfl (pi_range2 (by rfl) T.z_range (pa_cons pe_int (pa_cons (pe_op op_add (pe_callB call_len_seq (by rfl) T.z_len (by decide +kernel) (pa_cons (pv 4) pa_nil)) pe_int) pa_nil))) (pg_name (i := 6) scL.nd rfl (.inl rfl)) (pss_one (ps_for PassesOwn.never rfl (pi_list (pe_call GA hr4 (by rfl) gA FA.kp bA .nil pass0 (pa_cons (pv 1) (pa_cons (pv 4) (pa_cons (pv 5) (pa_cons (pe_callB cr_sortedN (by rfl) T.z_sorted (by decide +kernel) (pa_cons (pv 3) pa_nil)) (pa_cons (pv 6) pa_nil))))))) (pg_name (i := 7) scL.nd rfl (.inl rfl)) (Evl.pss_cut (ps_set (i := 8) scL.nd rfl (.inl rfl) (pe_callTy (Dtx.cr_copyT (Tb43.lt4 hr.units)) (by rfl) T.z_dict (by decide +kernel) (pa_cons (pv 7) pa_nil)))
      (Evl.pss_cut (ps_set (i := 9) scL.nd rfl (.inl rfl) (pe_call GS hr7 (by rfl) gS FS.kp bS .nil pass0 (pa_cons (pv 4) (pa_cons (pv 5) (pa_cons (pv 6) (pa_cons (pv 8) pa_nil))))))
      (Evl.pss_cut (ps_if (PW.pt (pw_or (pt_not (pt_val (pe_callB call_isi (by rfl) T.z_isinstance (by decide +kernel) (pa_cons (pv 9) (pa_cons (pe_bltn (v := .ty "bool") (u := .type "bool") (by rfl) T.z_bool (by decide +kernel) rfl) pa_nil))))) (pw_or1 (pt_cmpR (Dtx.op_neT (K43.lt2 hr.units)) (pv 8) (pv 7) (nomark _))))) (pss_one (ps_ret pe_bl)) pss_nil)
      (pss_one (ps_if (pt_cmpR op_ne (pv 9) (pe_call GU hr4 (by rfl) gU FU.kp bU .nil pass0 (pa_cons (pv 4) (pa_cons (pv 5) (pa_cons (pv 6) (pa_cons (pv 7) pa_nil))))) (nomark _)) (pss_one (ps_ret pe_bl)) pss_nil)))))))))))))
      (Evl.pss_cut (ps_if (pt_cmpR op_eq (pe_call GD hr2 (by rfl) gD FD.kp bD .nil pass0 (pa_cons (pv 1) (pa_cons pe_int pa_nil))) pe_int (nomark _)) (Evl.pss_cut (ps_set (i := 10) scL.nd rfl (.inl rfl) (pe_slice sl_tupN (pe_op op_repTN (pv 4) pe_int) po_none (po_some (pe_op op_add pe_int (pe_call GD hr2 (by rfl) gD FD.kp bD .nil pass0 (pa_cons (pv 1) (pa_cons pe_int pa_nil)))))))
      (pss_one (ps_for PassesOwn.never rfl (pi_tup (pe_tupN (pa_cons pe_int (pa_cons pe_int (pa_cons pe_int pa_nil))))) (pg_name (i := 6) scL.nd rfl (.inl rfl)) (pss_one (ps_for PassesOwn.never rfl (pi_list (pe_call GA hr4 (by rfl) gA FA.kp bA .nil pass0 (pa_cons (pv 1) (pa_cons (pv 10) (pa_cons (pv 5) (pa_cons (pe_callB cr_sortedN (by rfl) T.z_sorted (by decide +kernel) (pa_cons (pv 3) pa_nil)) (pa_cons (pv 6) pa_nil))))))) (pg_name (i := 7) scL.nd rfl (.inl rfl)) (Evl.pss_cut (ps_set (i := 9) scL.nd rfl (.inl rfl) (pe_call GS hr7 (by rfl) gS FS.kp bS .nil pass0 (pa_cons (pv 10) (pa_cons (pv 5) (pa_cons (pv 6) (pa_cons (pe_callTy (Dtx.cr_copyT (Tb43.lt4 hr.units)) (by rfl) T.z_dict (by decide +kernel) (pa_cons (pv 7) pa_nil)) pa_nil))))))
      (pss_one (ps_if (pt_cmpR op_ne (pe_callB (Rpa.cr_reprA gd hu) (by rfl) T.z_repr (by decide +kernel) (pa_cons (pv 9) pa_nil)) (pe_callB (Rpa.cr_reprA gd hu) (by rfl) T.z_repr (by decide +kernel) (pa_cons (pe_call GU hr4 (by rfl) gU FU.kp bU .nil pass0 (pa_cons (pv 10) (pa_cons (pv 5) (pa_cons (pv 6) (pa_cons (pv 7) pa_nil))))) pa_nil)) (nomark _)) (pss_one (ps_ret pe_bl)) pss_nil)))))))) pss_nil)
      (Evl.pss_cut (ps_set (i := 11) scL.nd rfl (.inl rfl) (pe_slice sl_tupN (pe_op op_repTN (pv 4) pe_int) po_none (po_some (pe_op op_add pe_int (pe_call GD hr2 (by rfl) gD FD.kp bD .nil pass0 (pa_cons (pv 1) (pa_cons pe_int pa_nil)))))))
      (Evl.pss_cut (ps_set (i := 12) scL.nd rfl (.inr rfl) (pe_callTy call_tuple_ofN (by rfl) T.z_tuple (by decide +kernel) (pa_cons (pe_lc (own := [("k", 14)]) (g := (gName 14)) (tt := tYes) rfl scL.nd (pi_range2 (by rfl) T.z_range (pa_cons pe_int (pa_cons pe_int pa_nil))) (blkOk_by (N := nLaw) (sc := defScope sLaw) (by decide +kernel)) (fun _ _ _ _ _ => (pg_name (i := 14) scL.nd rfl (.inl rfl))) (fun _ _ _ _ _ => pts_nil) (fun _ _ _ _ _ => (pe_cmpR (op_in_seqB (K := K) rfl) (pe_op op_sub pe_int (pv 14)) (pv 5) (by rfl)))) pa_nil)))
      (Evl.pss_cut (ps_set (i := 13) scL.nd rfl (.inl rfl) (pe_callTy (Dtx.cr_pairsT rfl (Tb43.lt4 hr.units)) (by rfl) T.z_dict (by decide +kernel) (pa_cons (pe_lc (own := [("number", 15)]) (g := (gName 15)) (tt := tYes) rfl scL.nd (pi_range1 (by rfl) T.z_range (pa_cons (pe_callB call_len_seq (by rfl) T.z_len (by decide +kernel) (pa_cons (pv 11) pa_nil)) pa_nil)) (blkOk_by (N := nLaw) (sc := defScope sLaw) (by decide +kernel)) (fun _ _ _ _ _ => (pg_name (i := 15) scL.nd rfl (.inl rfl))) (fun _ _ _ _ _ => pts_nil) (fun _ _ _ _ _ => (pe_tupN (pa_cons (pe_tupN (pa_cons (pv 15) pa_nil)) (pa_cons (pv 12) pa_nil))))) pa_nil)))
      (Evl.pss_cut (ps_for PassesOwn.never rfl (pi_tup (pe_tupN (pa_cons (pe_tupN (pa_cons pe_int (pa_cons pe_dnewT pa_nil))) (pa_cons (pe_tupN (pa_cons pe_int (pa_cons (Dtx.pe_disT (K43.lt0 hr.units) (pps_cons (pe_tupN pa_nil) (pv 12) pps_nil) rfl rfl (by simp) (by decide)) pa_nil))) (pa_cons (pe_tupN (pa_cons pe_int (pa_cons (pv 13) pa_nil))) pa_nil))))) (pg_tup rfl (pgs_cons (pg_name (i := 6) scL.nd rfl (.inl rfl)) (pgs_cons (pg_name (i := 7) scL.nd rfl (.inl rfl)) pgs_nil))) (Evl.pss_cut (ps_set (i := 8) scL.nd rfl (.inl rfl) (pe_callTy (Dtx.cr_copyT (Tb43.lt4 hr.units)) (by rfl) T.z_dict (by decide +kernel) (pa_cons (pv 7) pa_nil)))
      (Evl.pss_cut (ps_if (pt_cmpR op_ne (Gx2.pe_callX GR gd hr3 (by rfl) gR FR.kp bR .nil pass0 (pa_cons (pe_tupN (pa_cons (pe_glob (v := .ref fS) rfl gS rfl) (pa_cons (pv 11) (pa_cons (pv 5) (pa_cons (pv 6) (pa_cons (pv 8) pa_nil)))))) pa_nil)) pe_str (nomark _)) (pss_one (ps_ret pe_bl)) pss_nil)
      (pss_one (ps_if (pt_cmpR op_ne (pe_callB (Dtr.cr_reprT gd hu) (by rfl) T.z_repr (by decide +kernel) (pa_cons (pv 8) pa_nil)) (pe_callB (Dtr.cr_reprT gd hu) (by rfl) T.z_repr (by decide +kernel) (pa_cons (pv 7) pa_nil)) (nomark _)) (pss_one (ps_ret pe_bl)) pss_nil)))))
      (pss_one (ps_ret pe_bl))))))))), ?_⟩
    have tb0 : Tb Pi Ph Pa H := ⟨t1, t2, t3⟩
    -- feed
    refine Evl.q_cut (M := fun σ' G => ∃ fe c : Addr, σ' = [some (.ref a), some (.ref fe), none, none, none, none, none, none, none, none, none, none, none, none, none, none] ∧ Feed G fe c 0 ∧ Tb Pi Ph Pa G) ?_ ?_
    · exact ⟨.ref a, rfl, a, ns, rfl, hS0, fun fe c H1 nf nc s1 F1 => ⟨fe, c, rfl, F1, tb0.ke (Ke.same (F := Nof) s1)⟩⟩
    rintro σ' H1 ⟨fe, c, rfl, F1, tb1⟩
    -- two turns
    refine Evl.q_cut (M := fun σ' G => ∃ (y2 y6 y7 y8 y9 : Option V) (t : Addr) (b x : V) (css : List (List Int)) (cs ks : List Int), σ' = [some (.ref a), some (.ref fe), y2, some (.ref t), some b, some x, y6, y7, y8, y9, none, none, none, none, none, none] ∧ Feed G fe c 20000 ∧ Tb Pi Ph Pa G ∧ Ca G fe t b x css cs ks) ?_ ?_
    · refine ⟨2, rfl, by decide, by decide, for_range (Pv := fun i σ G => ∃ y2 y3 y4 y5 y6 y7 y8 y9 : Option V, σ = [some (.ref a), some (.ref fe), y2, y3, y4, y5, y6, y7, y8, y9, none, none, none, none, none, none] ∧ Feed G fe c (10000 * i) ∧ Tb Pi Ph Pa G ∧ (0 < i → ∃ (t : Addr) (b x : V) (css : List (List Int)) (cs ks : List Int), y3 = some (.ref t) ∧ y4 = some b ∧ y5 = some x ∧ Ca G fe t b x css cs ks)) ?_ ?_ ?_⟩
      · exact ⟨none, none, none, none, none, none, none, none, rfl, F1, tb1, fun h => absurd h (by decide)⟩
      · clear F1 tb1 H1
        rintro i σ H1 hi ⟨y2, y3, y4, y5, y6, y7, y8, y9, rfl, F1, tb1, -⟩
        have hi : i < 2 := hi
        -- things
        refine Evl.q_cut (M := fun σ' G => ∃ (y2 : Option V) (t : Addr) (ks : List Int), σ' = [some (.ref a), some (.ref fe), y2, some (.ref t), y4, y5, y6, y7, y8, y9, none, none, none, none, none, none] ∧ Feed G fe c (10000 * i + 10) ∧ Tb Pi Ph Pa G ∧ G t = some (.lst (ks.map V.int)) ∧ t ≠ fe ∧ Thg ks ∧ ks ≠ []) ?_ ?_
        · refine ⟨_, rfl, fe, c, 2, 4, _, rfl, by decide, by decide, by decide, F1, by omega, fun ks p G F2 k2 fr hp Tk l1 l2 => ?_⟩
          exact ⟨_, p, ks, rfl, F2, tb1.ke k2, hp, frs_nf fr F1, Tk, fun z => by rw [z] at l1; exact absurd l1 (by decide)⟩
        clear F1 tb1 H1 y2
        rintro σ' H1 ⟨y2, t, ks, rfl, F1, tb1, ht, ntf, Tk, kn⟩
        -- book
        refine Evl.q_cut (M := fun σ' G => ∃ (b : V) (css : List (List Int)), σ' = [some (.ref a), some (.ref fe), y2, some (.ref t), some b, y5, y6, y7, y8, y9, none, none, none, none, none, none] ∧ Feed G fe c (10000 * i + 600) ∧ Tb Pi Ph Pa G ∧ G t = some (.lst (ks.map V.int)) ∧ Bk G b css ∧ (∀ c ∈ css, Of ks c) ∧ 1 ≤ css.length ∧ css.length ≤ 8) ?_ ?_
        · refine ⟨_, rfl, _, rfl, fe, c, t, 6, _, ks, rfl, by decide, by decide, ht, Tk, kn, ntf, F1, by omega, fun css p G F2 k2 fr hb oc c1 c7 => ?_⟩
          have ht2 := k2.lst ht ntf
          refine ⟨_, rfl, _, rfl, fe, c, t, 2, _, ks, rfl, by decide, by decide, ht2, Tk, F2, by omega, fun ds u G3 F3 k3 fr3 hu icl am le => ?_⟩
          refine ⟨by show 1 ≤ sizeLine; decide, fun a1 G4 na1 s4 ha1 _ => ?_⟩
          have k34 : Ke (· = fe) G G4 := k3.trans (.same s4)
          obtain ⟨ba, bvs, eb, hB, lB, aB⟩ := (hb.ke k34)
          cases eb
          refine ⟨_, _, bvs, [.ref u], rfl, rfl, hB, ha1, small1000 (by omega), fun q G5 s5 hq => ?_⟩
          have k5 : Ke (· = fe) H1 G5 := (k2.trans k34).trans (.same s5)
          refine ⟨.ref q, css ++ [ds], rfl, ((F3.same s4).same s5).mono (by omega), tb1.ke k5, k5.lst ht ntf, ⟨q, _, rfl, hq, by rw [List.length_append, List.length_append, lB]; rfl, fun i x cs e1 e2 => ?_⟩, fun cs hc => ?_, by rw [List.length_append]; omega, by rw [List.length_append, List.length_singleton]; omega⟩
          · by_cases z : i < bvs.length
            · rw [List.getElem?_append_left z] at e1
              rw [List.getElem?_append_left (by omega)] at e2
              exact (aB i x cs e1 e2).ke (Ke.same (F := Nof) s5)
            · rw [List.getElem?_append_right (by omega)] at e1 e2
              rw [lB] at e1
              obtain ⟨rfl, _⟩ : x = .ref u ∧ True := by
                rcases h : i - css.length with _ | n
                · rw [h] at e1
                  exact ⟨(Option.some.inj e1).symm, trivial⟩
                · rw [h] at e1
                  simp at e1
              have ez : cs = ds := by
                rcases h : i - css.length with _ | n
                · rw [h] at e2
                  exact (Option.some.inj e2).symm
                · rw [h] at e2
                  simp at e2
              subst ez
              exact ⟨u, rfl, (s4.trans s5) _ _ hu⟩
          · rcases List.mem_append.mp hc with z | z
            · exact oc cs z
            · rw [List.mem_singleton.mp z]
              exact ⟨icl, am⟩
        clear F1 tb1 ht H1 y4
        rintro σ' H1 ⟨b, css, rfl, F1, tb1, ht, hb, oc, c1, c8⟩
        -- claim
        refine Evl.q_cut (M := fun σ' G => ∃ (x : V) (cs : List Int), σ' = [some (.ref a), some (.ref fe), y2, some (.ref t), some b, some x, y6, y7, y8, y9, none, none, none, none, none, none] ∧ Feed G fe c (10000 * i + 700) ∧ Tb Pi Ph Pa G ∧ Ca G fe t b x css cs ks) ?_ ?_
        · refine ⟨Nat.zero_le _, fun a0 G0 n0 s0 h0 _ => ?_⟩
          refine ⟨_, rfl, _, rfl, fe, c, t, 3, _, ks, rfl, by decide, by decide, s0 _ _ ht, Tk, F1.same s0, by omega, fun ds u G3 F3 k3 fr3 hu icl am le => ?_⟩
          refine ⟨by show 2 ≤ sizeLine; decide, fun L G4 nL s4 hL _ => ?_⟩
          refine ⟨_, rfl, fe, c, 2, _, rfl, by decide, by decide, F3.same s4, by omega, fun d G5 d0 d1 F5 b5 => ?_⟩
          have k5 : Ke (· = fe) G4 G5 := .but (F3.same s4) b5
          have k15 : Ke (· = fe) H1 G5 := ((Ke.same s0).trans k3).trans ((Ke.same s4).trans k5)
          have nLf : L ≠ fe := F3.nf nL
          have hL5 := k5.lst hL nLf
          have h05 := ((k3.trans (.same s4)).trans k5).tups _ _ h0
          have hu5 := ((Ke.same (F := (· = fe)) s4).trans k5).tups _ _ hu
          obtain rfl | rfl : d = 0 ∨ d = 1 := by omega
          · exact ⟨_, _, 0, _, rfl, rfl, .of hL5, rfl, _, [], rfl, F5.mono (by omega), tb1.ke k15, ⟨hb.ke k15, oc, c1, c8, ⟨_, rfl, h05⟩, ⟨IsCl.nil, fun s hs => nomatch hs⟩, k15.lst ht ntf, Tk, ntf⟩⟩
          · exact ⟨_, _, 1, _, rfl, rfl, .of hL5, rfl, _, ds, rfl, F5.mono (by omega), tb1.ke k15, ⟨hb.ke k15, oc, c1, c8, ⟨_, rfl, hu5⟩, ⟨icl, am⟩, k15.lst ht ntf, Tk, ntf⟩⟩
        clear F1 tb1 ht hb oc c1 c8 H1 y5
        rintro σ' H1 ⟨x, cs, rfl, F1, tb1, ca⟩
        obtain ⟨ba, bvs, rfl, hB, lB, aB⟩ := id ca.bk
        -- many
        have l8 := ca.l8
        have cb2 : css.length ≤ 10 := by omega
        refine ⟨_, rfl, ba, _, rfl, .inr (.of hB), _, _, rfl, rfl, 1, _, rfl, ⟨by decide, by decide, by omega, by omega⟩, for_range (n := ((((bvs.length : Nat) : Int) + 1) - 1).toNat) (Pv := fun j σ G => ∃ y6 y7 y8 y9 : Option V, σ = [some (.ref a), some (.ref fe), y2, some (.ref t), some (.ref ba), some x, y6, y7, y8, y9, none, none, none, none, none, none] ∧ Feed G fe c (10000 * i + 700 + 200 * j) ∧ Tb Pi Ph Pa G ∧ Ca G fe t (.ref ba) x css cs ks) ?_ ?_ ?_⟩
        · exact ⟨y6, y7, y8, y9, rfl, F1, tb1, ca⟩
        · clear F1 tb1 ca hB aB H1 y6 y7 y8 y9
          rintro j σ H1 hj ⟨y6, y7, y8, y9, rfl, F1, tb1, ca⟩
          have hj : j < css.length := by omega
          refine ⟨_, rfl, _, rfl, _, rfl, _, rfl, t, ks, rfl, .of ca.ev, fun es pm up e G5 ne s5 he sx => ?_⟩
          clear sx
          have k5 : Ke (· = fe) H1 G5 := .same s5
          have lk := ca.tk.len
          have el := pm.length_eq
          have ca5 := ca.ke k5 ca.ne
          refine ⟨_, rfl, fe, c, .ref ba, x, e, 1 + j, _, css, cs, es, rfl, F1.same s5, by omega, ca5.bk, ca5.cl, cb2, by omega, by omega, he, (F1.nf ne), fun k hk => ca.tk.one k (pm.mem_iff.mp hk), by omega, fun c hc => (ca.ic c hc).1, ca.ii.1, fun L as G6 F6 k6 fL hL las alt => ?_⟩
          have tl6 : Tl G6 L as := ⟨hL, fun a m => (alt a m).2⟩
          have tb6 := (tb1.ke k5).ke k6
          have ca6 := ca5.ke k6 ca.ne
          refine ⟨L, rfl, ⟨_, .of hL⟩, for_list (xs := as.map V.ref) (Pv := fun n σ G => ∃ y7 y8 y9 : Option V, σ = [some (.ref a), some (.ref fe), y2, some (.ref t), some (.ref ba), some x, some (.int (1 + (j : Nat))), y7, y8, y9, none, none, none, none, none, none] ∧ Feed G fe c (10000 * i + 700 + 200 * j + 200) ∧ Tb Pi Ph Pa G ∧ Ca G fe t (.ref ba) x css cs ks ∧ Tl G L as) ⟨y7, y8, y9, rfl, F6, tb6, ca6, tl6⟩ (fun n σ G _ z => .of z.choose_spec.choose_spec.choose_spec.2.2.2.2.l) ?_ ?_⟩
          · clear F1 tb1 ca F6 k6 fL hL alt tl6 tb6 ca6 ca5 k5 he s5 ne H1 y7 y8 y9 G6 G5 e pm up lk el es
            rintro n y σ G hy ⟨y7, y8, y9, rfl, F1, tb1, ca, tl⟩
            obtain ⟨T', mT, rfl⟩ := List.mem_map.mp (List.mem_of_getElem? hy)
            obtain ⟨kvs, hT, tv⟩ := tl.t T' mT
            -- handed
            refine Evl.q_cut (M := fun σ' G' => ∃ p, σ' = [some (.ref a), some (.ref fe), y2, some (.ref t), some (.ref ba), some x, some (.int (1 + (j : Nat))), some (.ref T'), some (.ref p), y9, none, none, none, none, none, none] ∧ Ke Nof G G' ∧ G' p = some (.dT kvs)) ?_ ?_
            · exact ⟨_, rfl, T', kvs, rfl, hT, fun nd => nodup_hash tv.keys nd, fun _ p np => ⟨p, rfl, .same (same_new np), upd_same⟩⟩
            rintro σ' G1 ⟨p, rfl, k1, hp⟩
            obtain ⟨D, dr, dD⟩ := (tv.ke k1).dtr
            have hT1 : G1 T' = some (.dT kvs) := k1.keep T' _ hT (fun ps z => by cases z) id
            have ca1 := ca.ke k1 id
            have tb2 := tb1.ke k1
            have d8 : ∀ d ∈ D, d.2.length = 8 := fun d hd => (dD d hd).2
            -- found
            refine Evl.q_cut (M := fun σ' G' => ∃ fo, σ' = [some (.ref a), some (.ref fe), y2, some (.ref t), some (.ref ba), some x, some (.int (1 + (j : Nat))), some (.ref T'), some (.ref p), some (.bl fo), none, none, none, none, none, none] ∧ Ke Nof G1 G' ∧ (fo = true ↔ Due css cs D (1 + j - 1))) ?_ ?_
            · exact ⟨_, rfl, _, rfl, _, rfl, _, rfl, .ref ba, x, p, 1 + j, kvs, D, css, cs, rfl, ca1.bk, ca1.cl, ca1.ii.1.says, fun c hc => (ca1.ic c hc).1.says, cb2, by omega, by omega, hp, dr, d8, tb2.i, tb2.h, tb2.a, fun b G' k2 hb => ⟨b, rfl, k2, hb⟩⟩
            rintro σ' G2 ⟨fo, rfl, k2, hfo⟩
            have kdd : ∀ {a ks}, G1 a = some (HO.dT ks) → G2 a = some (.dT ks) := fun {a ks} h => k2.keep a _ h (fun ps z => by cases z) id
            refine Evl.q_cut (M := fun σ' G' => σ' = [some (.ref a), some (.ref fe), y2, some (.ref t), some (.ref ba), some x, some (.int (1 + (j : Nat))), some (.ref T'), some (.ref p), some (.bl fo), none, none, none, none, none, none] ∧ G' = G2) ?_ ?_
            · refine ⟨_, rfl, .bl fo, .ty "bool", .type "bool", .type "bool", true, rfl, .ty _, .base (.bl fo), kit_ty (by decide +kernel), true, rfl, ?_⟩
              refine ⟨_, rfl, _, rfl, p, T', kvs, rfl, rfl, kdd hp, kdd hT1, fun q hq => ?_, false, rfl, rfl, rfl⟩
              obtain ⟨_, bs, _, _, ⟨b, eb, _⟩, _⟩ := tv q hq
              exact ⟨b, eb⟩
            rintro σ' G2' ⟨rfl, rfl⟩
            have ca2 := ca1.ke k2 id
            refine ⟨_, rfl, _, rfl, _, rfl, _, rfl, _, rfl, .ref ba, x, T', 1 + j, kvs, D, css, cs, rfl, ca2.bk, ca2.cl, ca2.ii.1, fun c hc => (ca2.ic c hc).1, cb2, by omega, kdd hT1, dtr_ke k2 dr, d8, fun b G3 k3 hb => ?_⟩
            have eb : fo = b := by
              have := hfo.trans hb.symm
              cases fo <;> cases b <;> simp_all
            have k13 := (k1.trans k2).trans k3
            refine ⟨rfl, false, by rw [eb, decide_eq_true rfl]; rfl, ?_⟩
            exact ⟨_, _, _, rfl, k13.feed F1, tb1.ke k13, ca.ke k13 id, tl.ke k13⟩
          · rintro σ G ⟨y7, y8, y9, rfl, FG, tbG, caG, _⟩
            exact ⟨_, y7, y8, y9, rfl, FG.mono (by omega), tbG, caG⟩
        · rintro σ G ⟨y6, y7, y8, y9, rfl, FG, tbG, caG⟩
          exact ⟨y2, _, _, _, y6, y7, y8, y9, rfl, FG.mono (by omega), tbG, fun _ => ⟨t, .ref ba, x, css, cs, ks, rfl, rfl, rfl, caG⟩⟩
      · rintro σ G ⟨y2, y3, y4, y5, y6, y7, y8, y9, rfl, FG, tbG, h⟩
        obtain ⟨t, b, x, css, cs, ks, rfl, rfl, rfl, ca⟩ := h (by decide)
        exact ⟨y2, y6, y7, y8, y9, t, b, x, css, cs, ks, rfl, FG, tbG, ca⟩
    clear F1 tb1 H1
    rintro σ' H1 ⟨y2, y6, y7, y8, y9, t, b, x, css, cs, ks, rfl, F1, tb1, ca⟩
    obtain ⟨ba, bvs, rfl, hB, lB, aB⟩ := id ca.bk
    have l1 := ca.l1
    have l8 := ca.l8
    have bne : bvs ≠ [] := fun z => by
      rw [z] at lB
      simp at lB
      omega
    -- many more
    refine Evl.q_cut (M := fun σ' G => ∃ (y6 y7 y8 y9 y10 : Option V), σ' = [some (.ref a), some (.ref fe), y2, some (.ref t), some (.ref ba), some x, y6, y7, y8, y9, y10, none, none, none, none, none] ∧ Feed G fe c 40000 ∧ Tb Pi Ph Pa G ∧ Ca G fe t (.ref ba) x css cs ks) ?_ ?_
    · refine ⟨_, rfl, fe, c, 4, _, rfl, by decide, by decide, F1, by omega, fun d G4 d0 d1 F4 b4 => ?_⟩
      have k4 : Ke (· = fe) H1 G4 := .but F1 b4
      have ca4 := ca.ke k4 ca.ne
      by_cases z2 : d = 0
      · refine ⟨rfl, true, congrArg V.bl (decide_eq_true (by rw [z2])), ?_⟩
        have tb4 := tb1.ke k4
        have hB4 := k4.tups _ _ hB
        clear F1 tb1 k4 b4 z2 d0 d1 d
        refine Evl.q_cut (M := fun σ' G => ∃ (q2 : Addr) (dss : List (List Int)), σ' = [some (.ref a), some (.ref fe), y2, some (.ref t), some (.ref ba), some x, y6, y7, y8, y9, some (.ref q2), none, none, none, none, none] ∧ Feed G fe c 20010 ∧ Tb Pi Ph Pa G ∧ Ca G fe t (.ref ba) x css cs ks ∧ Bk G (.ref q2) dss ∧ 9 ≤ dss.length ∧ dss.length ≤ 10 ∧ ∀ d ∈ dss, d ∈ css) ?_ ?_
        · refine ⟨_, rfl, ba, 10, bvs, rfl, rfl, hB4, bne, by decide, by decide, by omega, fun p G5 s5 hp => ?_⟩
          refine ⟨_, rfl, fe, c, 2, _, rfl, by decide, by decide, F4.same s5, by omega, fun d G6 d0 d1 F6 b6 => ?_⟩
          have k6 : Ke (· = fe) G5 G6 := .but (F4.same s5) b6
          obtain ⟨n, rfl⟩ := Int.eq_ofNat_of_zero_le d0
          refine ⟨_, _, rfl, rfl, _, rfl, p, _, rfl, k6.tups _ _ hp, fun q G7 s7 hq => ?_⟩
          have aB4 : ∀ (i : Nat) (x : V) (cs : List Int), bvs[i]? = some x → css[i]? = some cs → TupI G4 x cs := by
            obtain ⟨ba', bvs', e1, e2, _, e4⟩ := ca4.bk
            cases e1
            rw [hB4] at e2
            cases e2
            exact e4
          have rl := rep_at lB aB4 10
          have ll : (List.replicate 10 css).flatten.length = 10 * css.length := by
            rw [List.length_flatten, List.map_replicate, List.sum_replicate_nat]
          rw [show (9 : Int) + (n : Int) = ((9 + n : Nat) : Int) by omega, cut10] at hq
          have k7 : Ke (· = fe) G4 G7 := ((Ke.same s5).trans k6).trans (.same s7)
          refine ⟨q, (List.replicate 10 css).flatten.take (9 + n), rfl, (F6.same s7).mono (by omega), tb4.ke k7, ca4.ke k7 ca.ne, ⟨q, _, rfl, hq, by rw [List.length_take, List.length_take]; exact congrArg (min (9 + n)) rl.1, fun i y ds h1 h2 => ?_⟩, by rw [List.length_take, ll]; omega, by rw [List.length_take, ll]; omega, rep_mem⟩
          rw [List.getElem?_take] at h1 h2
          split at h1
          · rename_i z
            rw [if_pos z] at h2
            exact (rl.2 i y ds h1 h2).ke k7
          · cases h1
        clear F4 tb4 hB4 ca4 G4 ca hB aB H1
        rintro σ' H1 ⟨q2, dss, rfl, F1, tb1, ca, bq, d9, d10, dm⟩
        -- three
        refine ⟨by show 3 ≤ sizeLine; decide, fun a1 G1 n1 s1 h1 sx => ?_⟩
        clear sx
        refine ⟨a1, rfl, ⟨_, .of h1⟩, for_tup (xs := [.int 1, .int 2, .int 3]) (Pv := fun j σ G => ∃ y6 y7 y8 y9 : Option V, σ = [some (.ref a), some (.ref fe), y2, some (.ref t), some (.ref ba), some x, y6, y7, y8, y9, some (.ref q2), none, none, none, none, none] ∧ Feed G fe c (20010 + 200 * j) ∧ Tb Pi Ph Pa G ∧ Ca G fe t (.ref ba) x css cs ks ∧ Bk G (.ref q2) dss ∧ G a1 = some (.tup [.int 1, .int 2, .int 3])) ⟨y6, y7, y8, y9, rfl, F1.same s1, tb1.ke (Ke.same (F := Nof) s1), ca.ke (Ke.same (F := Nof) s1) id, bq.ke (Ke.same (F := Nof) s1), h1⟩ (fun i σ G _ z => .of z.choose_spec.choose_spec.choose_spec.choose_spec.2.2.2.2.2) ?_ ?_⟩
        · clear F1 tb1 ca bq s1 h1 n1 H1 y6 y7 y8 y9
          rintro j y σ H1 hy ⟨y6, y7, y8, y9, rfl, F1, tb1, ca, bq, h1⟩
          obtain ⟨m, rfl, m1, m3⟩ : ∃ m : Nat, y = .int (m : Nat) ∧ 1 ≤ m ∧ m ≤ 3 := by
            rcases j with _ | _ | _ | j
            · exact ⟨1, (Option.some.inj hy).symm, by decide, by decide⟩
            · exact ⟨2, (Option.some.inj hy).symm, by decide, by decide⟩
            · exact ⟨3, (Option.some.inj hy).symm, by decide, by decide⟩
            · cases hy
          have hj : j < 3 := (List.getElem?_eq_some_iff.mp hy).1
          refine ⟨_, rfl, _, rfl, _, rfl, _, rfl, t, ks, rfl, .of ca.ev, fun es pm up e G5 ne s5 he sx => ?_⟩
          clear sx
          have k5 : Ke (· = fe) H1 G5 := .same s5
          have lk := ca.tk.len
          have el := pm.length_eq
          have ca5 := ca.ke k5 ca.ne
          refine ⟨_, rfl, fe, c, .ref q2, x, e, m, _, dss, cs, es, rfl, F1.same s5, by omega, bq.ke k5, ca5.cl, d10, m1, by omega, he, (F1.nf ne), fun k hk => ca.tk.one k (pm.mem_iff.mp hk), by omega, fun c hc => (ca.ic c (dm c hc)).1, ca.ii.1, fun L as G6 F6 k6 fL hL las alt => ?_⟩
          have tl6 : Tl G6 L as := ⟨hL, fun a m => (alt a m).2⟩
          have tb6 := (tb1.ke k5).ke k6
          have ca6 := ca5.ke k6 ca.ne
          have bq6 := (bq.ke k5).ke k6
          have h16 := k6.tups _ _ (s5 _ _ h1)
          refine ⟨L, rfl, ⟨_, .of hL⟩, for_list (xs := as.map V.ref) (Pv := fun n σ G => ∃ y7 y8 y9 : Option V, σ = [some (.ref a), some (.ref fe), y2, some (.ref t), some (.ref ba), some x, some (.int (m : Nat)), y7, y8, y9, some (.ref q2), none, none, none, none, none] ∧ Feed G fe c (20010 + 200 * j + 200) ∧ Tb Pi Ph Pa G ∧ Ca G fe t (.ref ba) x css cs ks ∧ Tl G L as ∧ Bk G (.ref q2) dss ∧ G a1 = some (.tup [.int 1, .int 2, .int 3])) ⟨y7, y8, y9, rfl, F6, tb6, ca6, tl6, bq6, h16⟩ (fun n σ G _ z => .of z.choose_spec.choose_spec.choose_spec.2.2.2.2.1.l) ?_ ?_⟩
          · clear F1 tb1 ca F6 k6 fL hL alt tl6 tb6 ca6 ca5 k5 he s5 ne H1 y7 y8 y9 G6 G5 e pm up lk el es bq bq6 h16 h1
            rintro n y σ G hy' ⟨y7, y8, y9, rfl, F1, tb1, ca, tl, bq, h1⟩
            obtain ⟨T', mT, rfl⟩ := List.mem_map.mp (List.mem_of_getElem? hy')
            obtain ⟨kvs, hT, tv⟩ := tl.t T' mT
            -- found
            refine Evl.q_cut (M := fun σ' G' => ∃ (fo : Bool) (D : List (List Int × List Bool)), σ' = [some (.ref a), some (.ref fe), y2, some (.ref t), some (.ref ba), some x, some (.int (m : Nat)), some (.ref T'), y8, some (.bl fo), some (.ref q2), none, none, none, none, none] ∧ Ke Nof G G' ∧ DtR G' kvs D ∧ (∀ d ∈ D, d.2.length = 8) ∧ (fo = true ↔ Due dss cs D (m - 1))) ?_ ?_
            · refine ⟨_, rfl, _, rfl, _, rfl, _, rfl, T', kvs, rfl, hT, fun nd => nodup_hash tv.keys nd, fun _ p np => ?_⟩
              have s1 : Same G (upd G p (.dT kvs)) := same_new np
              have k1 : Ke Nof G (upd G p (.dT kvs)) := .same s1
              obtain ⟨D, dr, dD⟩ := (tv.ke k1).dtr
              have ca1 := ca.ke k1 id
              have tb2 := tb1.ke k1
              exact ⟨.ref q2, x, p, m, kvs, D, dss, cs, rfl, bq.ke k1, ca1.cl, ca1.ii.1.says, fun c hc => (ca1.ic c (dm c hc)).1.says, d10, by omega, by omega, upd_same, dr, fun d hd => (dD d hd).2, tb2.i, tb2.h, tb2.a, fun b G' k2 hb => ⟨b, D, rfl, k1.trans k2, dtr_ke k2 dr, fun d hd => (dD d hd).2, hb⟩⟩
            rintro σ' G2 ⟨fo, D, rfl, k2, dr, d8, hfo⟩
            have hT2 : G2 T' = some (.dT kvs) := k2.keep T' _ hT (fun ps z => by cases z) id
            have ca2 := ca.ke k2 id
            refine ⟨_, rfl, .bl fo, .bool fo, rfl, .bl fo, rfl, rfl, by show 0 ≤ 64; decide, bl_sz fo, ?_⟩
            refine ⟨_, rfl, _, rfl, _, rfl, _, rfl, .ref q2, x, T', m, kvs, D, dss, cs, rfl, bq.ke k2, ca2.cl, ca2.ii.1, fun c hc => (ca2.ic c (dm c hc)).1, d10, by omega, hT2, dr, d8, fun b G3 k3 hb => ?_⟩
            have eb : fo = b := by
              have := hfo.trans hb.symm
              cases fo <;> cases b <;> simp_all
            refine ⟨.bl b, .bool b, rfl, .bl b, rfl, rfl, by show 0 ≤ 64; decide, bl_sz b, ?_⟩
            have k13 := k2.trans k3
            refine ⟨rfl, false, by rw [eb, decide_eq_true rfl]; rfl, ?_⟩
            exact ⟨_, _, _, rfl, k13.feed F1, tb1.ke k13, ca.ke k13 id, tl.ke k13, bq.ke k13, k13.tups _ _ h1⟩
          · rintro σ G ⟨y7, y8, y9, rfl, FG, tbG, caG, _, bqG, hG⟩
            exact ⟨_, y7, y8, y9, rfl, FG.mono (by omega), tbG, caG, bqG, hG⟩
        · rintro σ G ⟨y6, y7, y8, y9, rfl, FG, tbG, caG, _, _⟩
          exact ⟨y6, y7, y8, y9, _, rfl, FG.mono (by show 20010 + 200 * 3 ≤ 40000; decide), tbG, caG⟩
      · refine ⟨rfl, false, congrArg V.bl (decide_eq_false fun e => z2 (V.int.inj e)), ?_⟩
        exact ⟨_, _, _, _, _, rfl, F4.mono (by omega), tb1.ke k4, ca4⟩
    clear F1 tb1 ca hB aB H1 y6 y7 y8 y9
    rintro σ' H1 ⟨y6, y7, y8, y9, y10, rfl, F1, tb1, ca⟩
    obtain ⟨ba', bvs', e1, hB, lB', aB⟩ := id ca.bk
    cases e1
    have bne' : bvs' ≠ [] := fun z => by
      rw [z] at lB'
      simp at lB'
      omega
    -- great
    refine Evl.q_cut (M := fun σ' G => ∃ (g : Addr) (dss : List (List Int)), σ' = [some (.ref a), some (.ref fe), y2, some (.ref t), some (.ref ba), some x, y6, y7, y8, y9, y10, some (.ref g), none, none, none, none] ∧ Tb Pi Ph Pa G ∧ TupI G x cs ∧ Bk G (.ref g) dss ∧ 10 < dss.length ∧ dss.length ≤ 16) ?_ ?_
    · refine ⟨_, rfl, ba, 11, bvs', rfl, rfl, hB, bne', by decide, by decide, by omega, fun p G4 s4 hp => ?_⟩
      refine ⟨_, rfl, fe, c, 6, _, rfl, by decide, by decide, F1.same s4, by omega, fun d G5 d0 d1 F5 b5 => ?_⟩
      have k5 : Ke (· = fe) G4 G5 := .but (F1.same s4) b5
      obtain ⟨n, rfl⟩ := Int.eq_ofNat_of_zero_le d0
      refine ⟨_, _, rfl, rfl, _, rfl, p, _, rfl, k5.tups _ _ hp, fun q G6 s6 hq => ?_⟩
      have rl := rep_at lB' aB 11
      have ll : (List.replicate 11 css).flatten.length = 11 * css.length := by
        rw [List.length_flatten, List.map_replicate, List.sum_replicate_nat]
      rw [show (11 : Int) + (n : Int) = ((11 + n : Nat) : Int) by omega, cut10] at hq
      have k46 : Ke (· = fe) H1 G6 := ((Ke.same s4).trans k5).trans (.same s6)
      refine ⟨q, (List.replicate 11 css).flatten.take (11 + n), rfl, tb1.ke k46, ca.cl.ke k46, ⟨q, _, rfl, hq, by rw [List.length_take, List.length_take]; exact congrArg (min (11 + n)) rl.1, fun i y ds h1 h2 => ?_⟩, by rw [List.length_take, ll]; omega, by rw [List.length_take]; omega⟩
      rw [List.getElem?_take] at h1 h2
      split at h1
      · rename_i z
        rw [if_pos z] at h2
        exact (rl.2 i y ds h1 h2).ke k46
      · cases h1
    have ii := ca.ii
    clear F1 tb1 ca hB aB H1
    rintro σ' H1 ⟨g, dss, rfl, tb1, hx, bg, l11, l16⟩
    -- against
    refine Evl.q_cut (M := fun σ' G => ∃ (ag : Addr) (bs : List Bool), σ' = [some (.ref a), some (.ref fe), y2, some (.ref t), some (.ref ba), some x, y6, y7, y8, y9, y10, some (.ref g), some (.ref ag), none, none, none] ∧ Tb Pi Ph Pa G ∧ Bk G (.ref g) dss ∧ G ag = some (.tup (bs.map V.bl)) ∧ bs.length = 8) ?_ ?_
    · obtain ⟨xa, rfl, hxa⟩ := hx
      refine ⟨1, 9, rfl, ⟨by decide, by decide, by decide, by decide⟩, fun D nD => ?_⟩
      refine lc_range (n := ((9 : Int) - 1).toNat) (Pv := fun i H' => Same H1 H' ∧ ∃ bs : List Bool, H' D = some (.lst (bs.map V.bl)) ∧ bs.length = i) ⟨same_new nD, [], upd_same, rfl⟩ ?_ ?_
      · rintro i H' hi ⟨s1, bs, hD, lb⟩
        have hi : i < 8 := hi
        refine ⟨rfl, _, rfl, _, _, rfl, rfl, _, rfl, xa, _, rfl, .inr (.of (s1 _ _ hxa)), rfl, Kc.ints_flat cs, ?_⟩
        refine ⟨_, hD, ?_, same_wr s1 nD, bs ++ [inV (V.int (0 - (1 + (i : Int)))) (cs.map V.int)], ?_, by rw [List.length_append, lb]; rfl⟩
        · rw [List.length_map]
          exact small1000 (by omega)
        · rw [upd_same, List.map_append]
          rfl
      · rintro H' ⟨s1, bs, hD, lb⟩
        refine ⟨D, _, rfl, .of hD, fun p G np s2 hp _ => ?_⟩
        have k : Ke Nof H1 G := .same (s1.trans s2)
        exact ⟨p, bs, rfl, tb1.ke k, bg.ke k, hp, lb⟩
    clear tb1 bg hx H1
    rintro σ' H1 ⟨ag, bs, rfl, tb1, bg, hag, b8⟩
    -- ones
    refine Evl.q_cut (M := fun σ' G => ∃ (on : Addr), σ' = [some (.ref a), some (.ref fe), y2, some (.ref t), some (.ref ba), some x, y6, y7, y8, y9, y10, some (.ref g), some (.ref ag), some (.ref on), none, none] ∧ Tb Pi Ph Pa G ∧ Bk G (.ref g) dss ∧ G ag = some (.tup (bs.map V.bl)) ∧ G on = some (.dT ((List.range dss.length).map fun n : Nat => (kT [(n : Int)], .ref ag)))) ?_ ?_
    · obtain ⟨ga, gvs, e1, hG, lG, aG⟩ := id bg
      cases e1
      refine ⟨_, rfl, g, _, rfl, .inr (.of hG), ((gvs.length : Nat) : Int), rfl, by omega, by omega, fun D nD => ?_⟩
      refine lc_range (n := ((gvs.length : Nat) : Int).toNat) (Pv := fun i H' => Same H1 H' ∧ ∃ ps : List Addr, H' D = some (.lst (ps.map V.ref)) ∧ Paired (fun p (n : Nat) => ∃ b, H' p = some (.tup [.ref b, .ref ag]) ∧ H' b = some (.tup [.int (n : Nat)])) ps (List.range i)) ⟨same_new nD, [], upd_same, .nil⟩ ?_ ?_
      · rintro i H' hi ⟨s1, ps, hD, pr⟩
        have hi : i < ((gvs.length : Nat) : Int).toNat := hi
        rw [show (0 : Int) + (i : Int) = (i : Int) from Int.zero_add _]
        refine ⟨rfl, _, rfl, by show 1 ≤ sizeLine; decide, fun b1 G1 n1 s2 h1 _ => ⟨_, rfl, by show 2 ≤ sizeLine; decide, fun p1 G2 n2 s3 h2 _ => ?_⟩⟩
        have s23 := s2.trans s3
        have hD2 := s23 _ _ hD
        have nb : ∀ {b xs}, G2 b = some (HO.tup xs) → b ≠ D := fun {b xs} h z => by
          rw [z, hD2] at h
          cases h
        have lp := pr.length
        rw [List.length_range] at lp
        refine ⟨_, hD2, ?_, same_wr (s1.trans s23) nD, ps ++ [p1], ?_, ?_⟩
        · rw [List.length_map]
          exact small1000 (by omega)
        · rw [upd_same, List.map_append]
          rfl
        · rw [List.range_succ]
          refine Paired.snoc (Paired.mapP pr fun p n ⟨b, e1, e2⟩ => ⟨b, ?_, ?_⟩) ⟨b1, ?_, ?_⟩
          · rw [upd_ne (nb (s23 _ _ e1))]
            exact s23 _ _ e1
          · rw [upd_ne (nb (s23 _ _ e2))]
            exact s23 _ _ e2
          · rw [upd_ne (nb h2)]
            exact h2
          · rw [upd_ne (nb (s3 _ _ h1))]
            exact s3 _ _ h1
      · rintro H' ⟨s1, ps, hD, pr⟩
        rw [show ((gvs.length : Nat) : Int).toNat = dss.length by omega] at pr
        refine ⟨D, ps, (List.range dss.length).map fun n : Nat => (kT [(n : Int)], .ref ag), rfl, .of hD, paired_map (Paired.mapP pr fun p n ⟨b, e1, e2⟩ => ⟨b, .of e1, e2⟩), ones_key _, fun p np => ?_⟩
        have sx : Same H1 (upd H' p (.dT ((List.range dss.length).map fun n : Nat => (kT [(n : Int)], V.ref ag)))) := s1.trans (same_new np)
        have k : Ke Nof H1 _ := .same sx
        exact ⟨p, rfl, tb1.ke k, bg.ke k, sx _ _ hag, upd_same⟩
    clear tb1 bg hag H1
    rintro σ' H1 ⟨on, rfl, tb1, bg, hag, hon⟩
    -- three tables
    refine Evl.q_cut (M := fun σ' G => ∃ y6 y7 y8 : Option V, σ' = [some (.ref a), some (.ref fe), y2, some (.ref t), some (.ref ba), some x, y6, y7, y8, y9, y10, some (.ref g), some (.ref ag), some (.ref on), none, none]) ?_ ?_
    · refine fun e0 ne0 => ⟨by show 2 ≤ sizeLine; decide, fun p1 G1 n1 s1 h1 _ => ?_⟩
      refine fun e1 ne1 => ⟨Nat.zero_le _, fun k1 G2 nk s2 hk _ => ⟨_, rfl, s2 _ _ upd_same, k1, [], .ref ag, rfl, hk, ?_⟩⟩
      have sg : Same H1 G1 := (same_new ne0).trans s1
      have kG : Ke Nof G1 (upd G2 e1 (.dT [([], .ref ag)])) := ((Ke.same (F := Nof) (same_new ne1)).trans (.same s2)).upd ne1
      have kH : Ke Nof H1 (upd G2 e1 (.dT [([], .ref ag)])) := (Ke.same sg).trans kG
      have he1 : (upd G2 e1 (.dT [([], V.ref ag)])) e1 = some (.dT [([], V.ref ag)]) := upd_same
      have he0 := s1 e0 (.dT []) upd_same
      generalize upd G2 e1 (.dT [([], V.ref ag)]) = G6 at kG kH he1
      refine ⟨by show 2 ≤ sizeLine; decide, fun p2 G3 n3 s3 h3 _ => ⟨_, rfl, by show 2 ≤ sizeLine; decide, fun p3 G4 n4 s4 h4 _ => ⟨by show 3 ≤ sizeLine; decide, fun a1 G5 n5 s5 h5 _ => ?_⟩⟩⟩
      have k65 : Ke Nof G6 G5 := .same ((s3.trans s4).trans s5)
      have kH5 := kH.trans k65
      have ta : TupB G5 (.ref ag) bs := ⟨ag, rfl, kH5.tups _ _ hag⟩
      have rows : ∀ y ∈ [V.ref p1, .ref p2, .ref p3], Row G5 y := by
        intro y hy
        have keep : ∀ {d kvs}, G6 d = some (HO.dT kvs) → G5 d = some (.dT kvs) := fun {d kvs} h => k65.keep d _ h (fun ps z => by cases z) id
        rcases List.mem_cons.mp hy with rfl | hy
        · refine ⟨p1, 1, e0, [], [], rfl, (kG.trans k65).tups _ _ h1, (kG.trans k65).keep e0 _ he0 (fun ps z => by cases z) id, .nil, by decide, fun _ h => (nomatch h), .nil⟩
        rcases List.mem_cons.mp hy with rfl | hy
        · refine ⟨p2, 1, e1, _, [([], bs)], rfl, s5 _ _ (s4 _ _ h3), keep he1, .cons ⟨rfl, ta⟩ .nil, by show 1 ≤ 40; decide, fun d hd => ?_, List.nodup_cons.mpr ⟨fun m => (nomatch m), .nil⟩⟩
          rw [List.mem_singleton.mp hd]
          exact ⟨fun _ h => (nomatch h), by show 0 ≤ 20; decide, b8⟩
        · rw [List.mem_singleton.mp hy]
          refine ⟨p3, 2, on, _, (List.range dss.length).map fun n : Nat => ([(n : Int)], bs), rfl, s5 _ _ h4, kH5.keep on _ hon (fun ps z => by cases z) id, paired_maps fun n _ => ⟨rfl, ta⟩, by rw [List.length_map, List.length_range]; omega, fun d hd => ?_, ?_⟩
          · obtain ⟨n, hn, rfl⟩ := List.mem_map.mp hd
            have := List.mem_range.mp hn
            refine ⟨fun i hi => ?_, by show 1 ≤ 20; decide, b8⟩
            rw [List.mem_singleton.mp hi]
            omega
          · rw [List.map_map]
            exact ones_hash.sublist ((List.range_sublist.mpr (by omega : dss.length ≤ 17)).map _)
      refine ⟨a1, rfl, ⟨_, .of h5⟩, for_tup (xs := [.ref p1, .ref p2, .ref p3]) (Pv := fun j σ G => ∃ y6 y7 y8 : Option V, σ = [some (.ref a), some (.ref fe), y2, some (.ref t), some (.ref ba), some x, y6, y7, y8, y9, y10, some (.ref g), some (.ref ag), some (.ref on), none, none] ∧ Bk G (.ref g) dss ∧ G a1 = some (.tup [.ref p1, .ref p2, .ref p3]) ∧ ∀ y ∈ [V.ref p1, .ref p2, .ref p3], Row G y) ⟨y6, y7, y8, rfl, bg.ke kH5, h5, rows⟩ (fun i σ G _ z => .of z.choose_spec.choose_spec.choose_spec.2.2.1) ?_ ?_⟩
      · clear rows ta kH5 k65 h5 h4 h3 he0 he1 kG kH
        rintro j y σ G hy ⟨y6, y7, y8, rfl, bg, h5, rows⟩
        obtain ⟨p, m, T', kvs, D, rfl, hp, hT, dr, l40, sm, nd⟩ := rows y (List.mem_of_getElem? hy)
        refine ⟨p, _, rfl, .of hp, rfl, _, _, rfl, _, _, rfl, rfl, ?_⟩
        -- handed
        refine Evl.q_cut (M := fun σ' G' => ∃ hd, σ' = [some (.ref a), some (.ref fe), y2, some (.ref t), some (.ref ba), some x, some (.int m), some (.ref T'), some (.ref hd), y9, y10, some (.ref g), some (.ref ag), some (.ref on), none, none] ∧ Ke Nof G G' ∧ G' hd = some (.dT kvs)) ?_ ?_
        · exact ⟨_, rfl, T', kvs, rfl, hT, fun _ => row_hash dr nd, fun _ p np => ⟨p, rfl, .same (same_new np), upd_same⟩⟩
        rintro σ' G1' ⟨hd, rfl, k1, hhd⟩
        have bg1 := bg.ke k1
        -- refused
        refine Evl.q_cut (M := fun σ' G' => σ' = [some (.ref a), some (.ref fe), y2, some (.ref t), some (.ref ba), some x, some (.int m), some (.ref T'), some (.ref hd), y9, y10, some (.ref g), some (.ref ag), some (.ref on), none, none] ∧ Ke Nof G1' G') ?_ ?_
        · refine ⟨_, rfl, _, rfl, _, rfl, _, rfl, by show 5 ≤ sizeLine; decide, fun a2 G2' n2 s2' h2 _ => ?_⟩
          refine ⟨a2, .ref g, x, .int m, .ref hd, rfl, h2, .ref g, x, .int m, .ref hd, dss, rfl, bg1.ke (Ke.same (F := Nof) s2'), l11, 4, by decide, rfl, .inl rfl, fun wd G3' e2 s3' => ?_⟩
          obtain rfl : ("many" : Str) = wd := Option.some.inj ((rfl : wd9[4]? = some ("many" : Str)).symm.trans e2)
          exact ⟨rfl, false, by rw [decide_eq_true rfl]; rfl, rfl, .same (s2'.trans s3')⟩
        rintro σ' G3' ⟨rfl, k3⟩
        have keep : ∀ {d kvs}, G1' d = some (HO.dT kvs) → G3' d = some (.dT kvs) := fun {d kvs} h => k3.keep d _ h (fun ps z => by cases z) id
        have hT3 : G3' T' = some (.dT kvs) := keep (k1.keep T' _ hT (fun ps z => by cases z) id)
        have dr3 := dtr_ke (k1.trans k3) dr
        refine ⟨_, rfl, hd, kvs, D, rfl, keep hhd, dr3, l40, sm, _, rfl, T', kvs, D, rfl, hT3, dr3, l40, sm, rfl, false, by rw [decide_eq_true rfl]; rfl, ?_⟩
        have k13 := k1.trans k3
        exact ⟨_, _, _, rfl, bg.ke k13, k13.tups _ _ h5, fun y hy => (rows y hy).ke k13⟩
      · rintro σ G ⟨y6, y7, y8, rfl, _⟩
        exact ⟨y6, y7, y8, rfl⟩
    rintro σ' G ⟨y6, y7, y8, rfl⟩
    exact q G
end
end K43
namespace Eg
open PySem PySem.Spec PyProof.Rows L2 GxR Nw Dr Kp
/-! ### the end of a law that shows lists: defs whose code objects have tables -/
/-- what stands where a def's code object has its table -/
abbrev Own (K : PySem.W.Frag) (h : Heap) (mg : Str → Option Value) (ys : List Str) : Prop := ∀ y ∈ ys, ∀ f, mg y = some (.ref f) → LamX.OwnTab K f h
/-- what is to be known of a law at the heap h -/
def LawG (l : PySem.W.OpenLaw) (w : World) (K : PySem.W.Frag) (k m : Nat) (x : Str) (mg : Str → Option Value) (g : Addr) (h : Heap) : Prop :=
  ∃ (fd : FuncData) (cs : List (Addr × Addr)) (sp : Sp), (∀ p ∈ cs, h.get? p.2 = some (PySem.W.tabObj #[])) ∧ (∀ p ∈ cs, K.lookup p.2 = none) ∧ (∀ p ∈ cs, PySem.W.CodeHd h p.1 p.2) ∧ (∀ (s : Shared) (u : Value), BindsTo s fd ⟨[u], []⟩ [(x, u)]) ∧
    (∀ (H : Hp) (a : Addr) (ns : List Int), ns.length ≤ m → (∀ p ∈ cs, H p.2 = some (.tbl #[])) → SqL K H a (ns.map V.int) → sp [.ref a] H (fun v _ => v = .bl true) fun _ _ _ => False) ∧
    ∀ base : Heap, K.In base → base.Ns mainGlobals mg → (∀ p ∈ cs, LamX.TabB base mg p.1 p.2) → Gd.FnG l.prog w K mg base k g fd [x] sp
theorem walk_own {l : PySem.W.OpenLaw} {m k : Nat} {pr : Program} {ls : List Str} {XP : (Str → Option Value) → Heap → Prop} {YP : World → Heap → Prop} {d : DefRec} {K : Params → PySem.W.Frag} {x : Str} (ys : List Str)
    (e1 : l.most = some m) (e2 : m ≤ sizeLine) (e3 : d.params.defaults = []) (room : Room k callerA) (named : ∀ y ∈ ys, ((recsOf pr).any fun e => e.name == y) = true) (inK : ∀ (w : World) (h : Heap), YP w h → (K w.params).In h)
    (go : ∀ (w : World) (mg : Str → Option Value) (g : Addr) (h : Heap), YP w h → (K w.params).In h → h.Ns mainGlobals mg → mg d.name = some (.ref g) → Own (K w.params) h mg ys → LawG l w (K w.params) k m x mg g h) :
    PySem.W.WalkO pr ls XP YP l.row.toRowW d [] (fun f vs => PySem.call f vs) := by
  refine Att.attach_callB e1 e3 fun w s0 s1 mg mb fa o pm cd doc a us ns G Y ho hd hcd hmg hobj hints hlen hbits hg => ?_
  have inH := inK w _ Y
  have tabs : Own (K w.params) s1.heap mg ys := fun y hy f hf c P ob fd e dd vs sl q1 q2 q3 q4 q5 => by
    obtain ⟨r, hr1, hr2⟩ := List.any_eq_true.mp (named y hy)
    obtain ⟨f', ob', fd', c', P', t1, t2, t3, t4, t5, ⟨⟨oc, vc, u1, _, u3, u4⟩, u5⟩⟩ := G.T.tab r hr1
    rw [show r.name = y from beq_iff_eq.mp hr2, hf] at t1
    cases t1
    rw [inH _ _ q1] at t2
    cases t2
    rw [q2] at t3
    cases t3
    rw [q3] at t4
    cases t4
    rw [inH _ _ q4] at u1
    cases u1
    cases u3
    rw [q5] at u4
    cases u4
    exact u5
  obtain ⟨fd, cs, sp, h1, h2, h3, h4, h5, h6⟩ := go w mg fa _ Y inH G.T.g hmg tabs
  exact Gd.law_at inH G.T.g G.T.b G.T.builtins G.T.nolimit hg h1 h2 h3 G.T.bmain hobj hints (Nat.le_trans hlen e2) room h6 h4 fun H z1 z2 => h5 H a ns hlen z1 z2
end Eg
namespace Cf
open PySem PySem.Spec PyProof.Rows L2
/-! ### classes of the program: isinstance, except -/
theorem cls_s {K : PySem.W.Frag} {C : Addr} (h : PySem.W.isClsIn K C = true) : (PySem.W.clsIn K C).isSome = true := h
theorem kit_cls {K : PySem.W.Frag} {t : Value} {D : Addr} {b : Bool} (h1 : (PySem.W.clsIn K D).isSome = true) (h2 : PySem.W.typeIn K (.ref D) = some (.type "type")) (h : PySem.W.subIn K t (.ref D) = some b) : PySem.W.kitCls K t (.ref D) = some b := by
  have e : ((PySem.W.clsIn K D).isSome && PySem.W.typeIn K (.ref D) == some (.type "type")) = true := by
    rw [h1, h2]
    rfl
  show (if ((PySem.W.clsIn K D).isSome && PySem.W.typeIn K (.ref D) == some (.type "type")) = true then PySem.W.subIn K t (.ref D) else none) = some b
  rw [if_pos e, h]
theorem kit_t {K : PySem.W.Frag} {t : Value} {D : Addr} (h1 : (PySem.W.clsIn K D).isSome = true) (h2 : PySem.W.typeIn K (.ref D) = some (.type "type")) (h : PySem.W.subIn K t (.ref D) = some true) : PySem.W.kitOne K t (.ref D) = some true := by
  unfold PySem.W.kitOne
  split
  · rfl
  · exact kit_cls h1 h2 h
theorem kit_f {K : PySem.W.Frag} {C D : Addr} (h1 : (PySem.W.clsIn K D).isSome = true) (h2 : PySem.W.typeIn K (.ref D) = some (.type "type")) (h : PySem.W.subIn K (.ref C) (.ref D) = some false) (hs : PySem.W.subIn K (.ref C) (.ref C) = some true) : PySem.W.kitOne K (.ref C) (.ref D) = some false := by
  unfold PySem.W.kitOne
  split
  · rename_i e
    have z : C = D := Value.ref.inj (beq_iff_eq.mp e)
    subst z
    rw [h] at hs
    cases hs
  · exact kit_cls h1 h2 h
theorem kit_v {K : PySem.W.Frag} {C : Addr} (h : PySem.W.subIn K (.ref C) (.type "ValueError") = some true) : PySem.W.kitOne K (.ref C) (.type "ValueError") = some true := by
  unfold PySem.W.kitOne
  split
  · rfl
  · show (if PySem.W.kitMeta "ValueError" = true then PySem.W.subIn K (.ref C) (.type "ValueError") else none) = some true
    rw [if_pos (by decide +kernel), h]
theorem exm_t {K : PySem.W.Frag} {t : Value} {D : Addr} (hb : PySem.W.subIn K (.ref D) (.type "BaseException") = some true) (h1 : (PySem.W.clsIn K D).isSome = true) (h2 : PySem.W.typeIn K (.ref D) = some (.type "type")) (h : PySem.W.subIn K t (.ref D) = some true) : PySem.W.exmOne K t (.ref D) = some true := by
  unfold PySem.W.exmOne
  rw [hb, if_pos (by decide)]
  exact kit_cls h1 h2 h
end Cf
namespace K43
open PySem PySem.Spec PyProof.Rows L2 GxR Nw Dr Kp Se Cl Eg
theorem mono_shx (C : Addr) : ∀ (vs : List V) (H : Hp) (Q Q' : VK) (E E' : XK), Few.spShX C vs H Q E → (∀ v H', Q v H' → Q' v H') → (∀ c d H', E c d H' → E' c d H') → Few.spShX C vs H Q' E' := fun vs H Q Q' E E' ⟨v, u, x, y, css, e, hb, l, q⟩ _ m => ⟨v, u, x, y, css, e, hb, l, m _ _ _ q⟩
theorem all_mk {l : PySem.W.OpenLaw} {w : World} {K : PySem.W.Frag} {h : Heap} {mg : Str → Option Value} {top : Addr} (X : K.In h) (G : h.Ns mainGlobals mg) (htop : mg "law" = some (.ref top)) (ow : Own K h mg ["holds", "all_hold", "is_setting"]) {fM fD fO fT fC fB fs fo fv fg fi fR fa fh fj fu fd fA fL gS gY gD wC wB wR wN hH hA hI cH PH cA PA cI PI S c0 c1 c2 c3 c4 c5 c6 c7 c8 : Addr}
    {od_fM an_fM : Option Addr} {sl_fM : Array (Option Value)} {oc_fM kV_fM dc_fM pm_fM ct_fM : Value} {cd_fM : Value} {od_fD an_fD : Option Addr} {sl_fD : Array (Option Value)} {oc_fD kV_fD dc_fD pm_fD ct_fD : Value} {cd_fD : Value} {od_fO an_fO : Option Addr} {sl_fO : Array (Option Value)} {oc_fO kV_fO dc_fO pm_fO ct_fO : Value} {cd_fO : Value} {od_fT an_fT : Option Addr} {sl_fT : Array (Option Value)} {oc_fT kV_fT dc_fT pm_fT ct_fT : Value} {cd_fT : Value} {od_fC an_fC : Option Addr} {sl_fC : Array (Option Value)} {oc_fC kV_fC dc_fC pm_fC ct_fC : Value} {cd_fC : Value} {od_fB an_fB : Option Addr} {sl_fB : Array (Option Value)} {oc_fB kV_fB dc_fB pm_fB ct_fB : Value} {cd_fB : Value} {od_fs an_fs : Option Addr} {sl_fs : Array (Option Value)} {oc_fs kV_fs dc_fs pm_fs ct_fs : Value} {cd_fs : Value} {od_fo an_fo : Option Addr} {sl_fo : Array (Option Value)} {oc_fo kV_fo dc_fo pm_fo ct_fo : Value} {cd_fo : Value} {od_fv an_fv : Option Addr} {sl_fv : Array (Option Value)} {oc_fv kV_fv dc_fv pm_fv ct_fv : Value} {cd_fv : Value} {od_fg an_fg : Option Addr} {sl_fg : Array (Option Value)} {oc_fg kV_fg dc_fg pm_fg ct_fg : Value} {cd_fg : Value} {od_fi an_fi : Option Addr} {sl_fi : Array (Option Value)} {oc_fi kV_fi dc_fi pm_fi ct_fi : Value} {cd_fi : Value} {od_fR an_fR : Option Addr} {sl_fR : Array (Option Value)} {oc_fR kV_fR dc_fR pm_fR ct_fR : Value} {cd_fR : Value} {od_fa an_fa : Option Addr} {sl_fa : Array (Option Value)} {oc_fa kV_fa dc_fa pm_fa ct_fa : Value} {cd_fa : Value} {od_fh an_fh : Option Addr} {sl_fh : Array (Option Value)} {oc_fh kV_fh dc_fh pm_fh ct_fh : Value} {cd_fh : Value} {od_fj an_fj : Option Addr} {sl_fj : Array (Option Value)} {oc_fj kV_fj dc_fj pm_fj ct_fj : Value} {cd_fj : Value} {od_fu an_fu : Option Addr} {sl_fu : Array (Option Value)} {oc_fu kV_fu dc_fu pm_fu ct_fu : Value} {cd_fu : Value} {od_fd an_fd : Option Addr} {sl_fd : Array (Option Value)} {oc_fd kV_fd dc_fd pm_fd ct_fd : Value} {cd_fd : Value} {od_fA an_fA : Option Addr} {sl_fA : Array (Option Value)} {oc_fA kV_fA dc_fA pm_fA ct_fA : Value} {cd_fA : Value} {od_fL an_fL : Option Addr} {sl_fL : Array (Option Value)} {oc_fL kV_fL dc_fL pm_fL ct_fL : Value} {cd_fL : Value} {od_gS an_gS : Option Addr} {sl_gS : Array (Option Value)} {oc_gS kV_gS dc_gS pm_gS ct_gS : Value} {cd_gS : Value} {od_gY an_gY : Option Addr} {sl_gY : Array (Option Value)} {oc_gY kV_gY dc_gY pm_gY ct_gY : Value} {cd_gY : Value} {od_gD an_gD : Option Addr} {sl_gD : Array (Option Value)} {oc_gD kV_gD dc_gD pm_gD ct_gD : Value} {cd_gD : Value} {od_wC an_wC : Option Addr} {sl_wC : Array (Option Value)} {oc_wC kV_wC dc_wC pm_wC ct_wC : Value} {cd_wC : Value} {od_wB an_wB : Option Addr} {sl_wB : Array (Option Value)} {oc_wB kV_wB dc_wB pm_wB ct_wB : Value} {cd_wB : Value} {od_wR an_wR : Option Addr} {sl_wR : Array (Option Value)} {oc_wR kV_wR dc_wR pm_wR ct_wR : Value} {cd_wR : Value} {od_wN an_wN : Option Addr} {sl_wN : Array (Option Value)} {oc_wN kV_wN dc_wN pm_wN ct_wN : Value} {cd_wN : Value} {od_hH an_hH : Option Addr} {sl_hH : Array (Option Value)} {oc_hH kV_hH dc_hH pm_hH ct_hH : Value} {od_hA an_hA : Option Addr} {sl_hA : Array (Option Value)} {oc_hA kV_hA dc_hA pm_hA ct_hA : Value} {od_hI an_hI : Option Addr} {sl_hI : Array (Option Value)} {oc_hI kV_hI dc_hI pm_hI ct_hI : Value} {e_H : Value} {dd_H : Option Addr} {vs_H : Array Value} {sf_H : Array (Option Value)} {e_A : Value} {dd_A : Option Addr} {vs_A : Array Value} {sf_A : Array (Option Value)} {e_I : Value} {dd_I : Option Addr} {vs_I : Array Value} {sf_I : Array (Option Value)} {tk_MOST_THINGS : Tok} {tk_MOST_LOOKED_THROUGH : Tok}
    (b_fM : PySem.W.nsIn K mainGlobals "_law_smixed" = some (some (.ref fM)))
    (l_fM : K.lookup fM = some ⟨oc_fM, od_fM, .func (PySem.W.fnOf "_law_smixed" "_law_smixed" (defArgs sMix) (defBody sMix) (defScope sMix) .none kV_fM dc_fM pm_fM an_fM cd_fM ct_fM), sl_fM⟩)
    (c_fM : PySem.W.codeIn K cd_fM "_law_smixed" = true)
    (k_fM : PySem.W.keepIn K (.ref fM) = true)
    (b_fD : PySem.W.nsIn K mainGlobals "_law_sdraw" = some (some (.ref fD)))
    (l_fD : K.lookup fD = some ⟨oc_fD, od_fD, .func (PySem.W.fnOf "_law_sdraw" "_law_sdraw" (defArgs sDrw) (defBody sDrw) (defScope sDrw) .none kV_fD dc_fD pm_fD an_fD cd_fD ct_fD), sl_fD⟩)
    (c_fD : PySem.W.codeIn K cd_fD "_law_sdraw" = true)
    (k_fD : PySem.W.keepIn K (.ref fD) = true)
    (b_fO : PySem.W.nsIn K mainGlobals "_law_sopen" = some (some (.ref fO)))
    (l_fO : K.lookup fO = some ⟨oc_fO, od_fO, .func (PySem.W.fnOf "_law_sopen" "_law_sopen" (defArgs sOpn) (defBody sOpn) (defScope sOpn) .none kV_fO dc_fO pm_fO an_fO cd_fO ct_fO), sl_fO⟩)
    (c_fO : PySem.W.codeIn K cd_fO "_law_sopen" = true)
    (k_fO : PySem.W.keepIn K (.ref fO) = true)
    (b_fT : PySem.W.nsIn K mainGlobals "_law_sthings" = some (some (.ref fT)))
    (l_fT : K.lookup fT = some ⟨oc_fT, od_fT, .func (PySem.W.fnOf "_law_sthings" "_law_sthings" (defArgs sThg) (defBody sThg) (defScope sThg) .none kV_fT dc_fT pm_fT an_fT cd_fT ct_fT), sl_fT⟩)
    (c_fT : PySem.W.codeIn K cd_fT "_law_sthings" = true)
    (k_fT : PySem.W.keepIn K (.ref fT) = true)
    (b_fC : PySem.W.nsIn K mainGlobals "_law_sclaim" = some (some (.ref fC)))
    (l_fC : K.lookup fC = some ⟨oc_fC, od_fC, .func (PySem.W.fnOf "_law_sclaim" "_law_sclaim" (defArgs sClm) (defBody sClm) (defScope sClm) .none kV_fC dc_fC pm_fC an_fC cd_fC ct_fC), sl_fC⟩)
    (c_fC : PySem.W.codeIn K cd_fC "_law_sclaim" = true)
    (k_fC : PySem.W.keepIn K (.ref fC) = true)
    (b_fB : PySem.W.nsIn K mainGlobals "_law_sbook" = some (some (.ref fB)))
    (l_fB : K.lookup fB = some ⟨oc_fB, od_fB, .func (PySem.W.fnOf "_law_sbook" "_law_sbook" (defArgs sBok) (defBody sBok) (defScope sBok) .none kV_fB dc_fB pm_fB an_fB cd_fB ct_fB), sl_fB⟩)
    (c_fB : PySem.W.codeIn K cd_fB "_law_sbook" = true)
    (k_fB : PySem.W.keepIn K (.ref fB) = true)
    (b_fs : PySem.W.nsIn K mainGlobals "_law_ssetting" = some (some (.ref fs)))
    (l_fs : K.lookup fs = some ⟨oc_fs, od_fs, .func (PySem.W.fnOf "_law_ssetting" "_law_ssetting" (defArgs Wd.sSst) (defBody Wd.sSst) (defScope Wd.sSst) .none kV_fs dc_fs pm_fs an_fs cd_fs ct_fs), sl_fs⟩)
    (c_fs : PySem.W.codeIn K cd_fs "_law_ssetting" = true)
    (k_fs : PySem.W.keepIn K (.ref fs) = true)
    (b_fo : PySem.W.nsIn K mainGlobals "_law_sholds" = some (some (.ref fo)))
    (l_fo : K.lookup fo = some ⟨oc_fo, od_fo, .func (PySem.W.fnOf "_law_sholds" "_law_sholds" (defArgs Sl.sSho) (defBody Sl.sSho) (defScope Sl.sSho) .none kV_fo dc_fo pm_fo an_fo cd_fo ct_fo), sl_fo⟩)
    (c_fo : PySem.W.codeIn K cd_fo "_law_sholds" = true)
    (k_fo : PySem.W.keepIn K (.ref fo) = true)
    (b_fv : PySem.W.nsIn K mainGlobals "_law_severy" = some (some (.ref fv)))
    (l_fv : K.lookup fv = some ⟨oc_fv, od_fv, .func (PySem.W.fnOf "_law_severy" "_law_severy" (defArgs Sl.sSev) (defBody Sl.sSev) (defScope Sl.sSev) .none kV_fv dc_fv pm_fv an_fv cd_fv ct_fv), sl_fv⟩)
    (c_fv : PySem.W.codeIn K cd_fv "_law_severy" = true)
    (k_fv : PySem.W.keepIn K (.ref fv) = true)
    (b_fg : PySem.W.nsIn K mainGlobals "_law_sagainst" = some (some (.ref fg)))
    (l_fg : K.lookup fg = some ⟨oc_fg, od_fg, .func (PySem.W.fnOf "_law_sagainst" "_law_sagainst" (defArgs Sl.sSag) (defBody Sl.sSag) (defScope Sl.sSag) .none kV_fg dc_fg pm_fg an_fg cd_fg ct_fg), sl_fg⟩)
    (c_fg : PySem.W.codeIn K cd_fg "_law_sagainst" = true)
    (k_fg : PySem.W.keepIn K (.ref fg) = true)
    (b_fi : PySem.W.nsIn K mainGlobals "_law_sis_setting" = some (some (.ref fi)))
    (l_fi : K.lookup fi = some ⟨oc_fi, od_fi, .func (PySem.W.fnOf "_law_sis_setting" "_law_sis_setting" (defArgs Sic.sSis) (defBody Sic.sSis) (defScope Sic.sSis) .none kV_fi dc_fi pm_fi an_fi cd_fi ct_fi), sl_fi⟩)
    (c_fi : PySem.W.codeIn K cd_fi "_law_sis_setting" = true)
    (k_fi : PySem.W.keepIn K (.ref fi) = true)
    (b_fR : PySem.W.nsIn K mainGlobals "_law_srefused" = some (some (.ref fR)))
    (l_fR : K.lookup fR = some ⟨oc_fR, od_fR, .func (PySem.W.fnOf "_law_srefused" "_law_srefused" (defArgs Rf.sRef) (defBody Rf.sRef) (defScope Rf.sRef) .none kV_fR dc_fR pm_fR an_fR cd_fR ct_fR), sl_fR⟩)
    (c_fR : PySem.W.codeIn K cd_fR "_law_srefused" = true)
    (k_fR : PySem.W.keepIn K (.ref fR) = true)
    (b_fa : PySem.W.nsIn K mainGlobals "_law_sall_hold" = some (some (.ref fa)))
    (l_fa : K.lookup fa = some ⟨oc_fa, od_fa, .func (PySem.W.fnOf "_law_sall_hold" "_law_sall_hold" (defArgs Sl.sSah) (defBody Sl.sSah) (defScope Sl.sSah) .none kV_fa dc_fa pm_fa an_fa cd_fa ct_fa), sl_fa⟩)
    (c_fa : PySem.W.codeIn K cd_fa "_law_sall_hold" = true)
    (k_fa : PySem.W.keepIn K (.ref fa) = true)
    (b_fh : PySem.W.nsIn K mainGlobals "_law_sthose" = some (some (.ref fh)))
    (l_fh : K.lookup fh = some ⟨oc_fh, od_fh, .func (PySem.W.fnOf "_law_sthose" "_law_sthose" (defArgs Sic.sSth) (defBody Sic.sSth) (defScope Sic.sSth) .none kV_fh dc_fh pm_fh an_fh cd_fh ct_fh), sl_fh⟩)
    (c_fh : PySem.W.codeIn K cd_fh "_law_sthose" = true)
    (k_fh : PySem.W.keepIn K (.ref fh) = true)
    (b_fj : PySem.W.nsIn K mainGlobals "_law_sis_against" = some (some (.ref fj)))
    (l_fj : K.lookup fj = some ⟨oc_fj, od_fj, .func (PySem.W.fnOf "_law_sis_against" "_law_sis_against" (defArgs Sic.sSia) (defBody Sic.sSia) (defScope Sic.sSia) .none kV_fj dc_fj pm_fj an_fj cd_fj ct_fj), sl_fj⟩)
    (c_fj : PySem.W.codeIn K cd_fj "_law_sis_against" = true)
    (k_fj : PySem.W.keepIn K (.ref fj) = true)
    (b_fu : PySem.W.nsIn K mainGlobals "_law_s_tuples" = some (some (.ref fu)))
    (l_fu : K.lookup fu = some ⟨oc_fu, od_fu, .func (PySem.W.fnOf "_law_s_tuples" "_law_s_tuples" (defArgs Tab42.sTup) (defBody Tab42.sTup) (defScope Tab42.sTup) .none kV_fu dc_fu pm_fu an_fu cd_fu ct_fu), sl_fu⟩)
    (c_fu : PySem.W.codeIn K cd_fu "_law_s_tuples" = true)
    (k_fu : PySem.W.keepIn K (.ref fu) = true)
    (b_fd : PySem.W.nsIn K mainGlobals "_law_s_due" = some (some (.ref fd)))
    (l_fd : K.lookup fd = some ⟨oc_fd, od_fd, .func (PySem.W.fnOf "_law_s_due" "_law_s_due" (defArgs Sh43.sDue) (defBody Sh43.sDue) (defScope Sh43.sDue) .none kV_fd dc_fd pm_fd an_fd cd_fd ct_fd), sl_fd⟩)
    (c_fd : PySem.W.codeIn K cd_fd "_law_s_due" = true)
    (k_fd : PySem.W.keepIn K (.ref fd) = true)
    (b_fA : PySem.W.nsIn K mainGlobals "_law_s_tables" = some (some (.ref fA)))
    (l_fA : K.lookup fA = some ⟨oc_fA, od_fA, .func (PySem.W.fnOf "_law_s_tables" "_law_s_tables" (defArgs Tb43.sTbs) (defBody Tb43.sTbs) (defScope Tb43.sTbs) .none kV_fA dc_fA pm_fA an_fA cd_fA ct_fA), sl_fA⟩)
    (c_fA : PySem.W.codeIn K cd_fA "_law_s_tables" = true)
    (k_fA : PySem.W.keepIn K (.ref fA) = true)
    (b_fL : PySem.W.nsIn K mainGlobals "law" = some (some (.ref fL)))
    (l_fL : K.lookup fL = some ⟨oc_fL, od_fL, .func (PySem.W.fnOf "law" "law" (defArgs K43.sLaw) (defBody K43.sLaw) (defScope K43.sLaw) .none kV_fL dc_fL pm_fL an_fL cd_fL ct_fL), sl_fL⟩)
    (c_fL : PySem.W.codeIn K cd_fL "law" = true)
    (k_fL : PySem.W.keepIn K (.ref fL) = true)
    (b_gS : PySem.W.nsIn K mainGlobals "say_holds" = some (some (.ref gS)))
    (l_gS : K.lookup gS = some ⟨oc_gS, od_gS, .func (PySem.W.fnOf "say_holds" "say_holds" (defArgs sShd) (defBody sShd) (defScope sShd) .none kV_gS dc_gS pm_gS an_gS cd_gS ct_gS), sl_gS⟩)
    (c_gS : PySem.W.codeIn K cd_gS "say_holds" = true)
    (k_gS : PySem.W.keepIn K (.ref gS) = true)
    (b_gY : PySem.W.nsIn K mainGlobals "claims_by" = some (some (.ref gY)))
    (l_gY : K.lookup gY = some ⟨oc_gY, od_gY, .func (PySem.W.fnOf "claims_by" "claims_by" (defArgs Co.sCby) (defBody Co.sCby) (defScope Co.sCby) .none kV_gY dc_gY pm_gY an_gY cd_gY ct_gY), sl_gY⟩)
    (c_gY : PySem.W.codeIn K cd_gY "claims_by" = true)
    (k_gY : PySem.W.keepIn K (.ref gY) = true)
    (b_gD : PySem.W.nsIn K mainGlobals "shows_need" = some (some (.ref gD)))
    (l_gD : K.lookup gD = some ⟨oc_gD, od_gD, .func (PySem.W.fnOf "shows_need" "shows_need" (defArgs Sn.sSnd) (defBody Sn.sSnd) (defScope Sn.sSnd) .none kV_gD dc_gD pm_gD an_gD cd_gD ct_gD), sl_gD⟩)
    (c_gD : PySem.W.codeIn K cd_gD "shows_need" = true)
    (k_gD : PySem.W.keepIn K (.ref gD) = true)
    (b_wC : PySem.W.nsIn K mainGlobals "check_few_claims" = some (some (.ref wC)))
    (l_wC : K.lookup wC = some ⟨oc_wC, od_wC, .func (PySem.W.fnOf "check_few_claims" "check_few_claims" (defArgs Few.sCfc) (defBody Few.sCfc) (defScope Few.sCfc) .none kV_wC dc_wC pm_wC an_wC cd_wC ct_wC), sl_wC⟩)
    (c_wC : PySem.W.codeIn K cd_wC "check_few_claims" = true)
    (k_wC : PySem.W.keepIn K (.ref wC) = true)
    (b_wB : PySem.W.nsIn K mainGlobals "numbers_behind" = some (some (.ref wB)))
    (l_wB : K.lookup wB = some ⟨oc_wB, od_wB, .func (PySem.W.fnOf "numbers_behind" "numbers_behind" (defArgs Few.sNbh) (defBody Few.sNbh) (defScope Few.sNbh) .none kV_wB dc_wB pm_wB an_wB cd_wB ct_wB), sl_wB⟩)
    (c_wB : PySem.W.codeIn K cd_wB "numbers_behind" = true)
    (k_wB : PySem.W.keepIn K (.ref wB) = true)
    (b_wR : PySem.W.nsIn K mainGlobals "rising_tuples" = some (some (.ref wR)))
    (l_wR : K.lookup wR = some ⟨oc_wR, od_wR, .func (PySem.W.fnOf "rising_tuples" "rising_tuples" (defArgs Few.sRis) (defBody Few.sRis) (defScope Few.sRis) .none kV_wR dc_wR pm_wR an_wR cd_wR ct_wR), sl_wR⟩)
    (c_wR : PySem.W.codeIn K cd_wR "rising_tuples" = true)
    (k_wR : PySem.W.keepIn K (.ref wR) = true)
    (b_wN : PySem.W.nsIn K mainGlobals "shows_needed" = some (some (.ref wN)))
    (l_wN : K.lookup wN = some ⟨oc_wN, od_wN, .func (PySem.W.fnOf "shows_needed" "shows_needed" (defArgs Few.sShn) (defBody Few.sShn) (defScope Few.sShn) .none kV_wN dc_wN pm_wN an_wN cd_wN ct_wN), sl_wN⟩)
    (c_wN : PySem.W.codeIn K cd_wN "shows_needed" = true)
    (k_wN : PySem.W.keepIn K (.ref wN) = true)
    (b_hH : PySem.W.nsIn K mainGlobals "holds" = some (some (.ref hH)))
    (l_hH : K.lookup hH = some ⟨oc_hH, od_hH, .func (PySem.W.fnOf "holds" "holds" (defArgs sHol) (defBody sHol) (defScope sHol) .none kV_hH dc_hH pm_hH an_hH (.ref cH) ct_hH), sl_hH⟩)
    (c_hH : PySem.W.codeIn K (.ref cH) "holds" = true)
    (k_hH : PySem.W.keepIn K (.ref hH) = true)
    (b_hA : PySem.W.nsIn K mainGlobals "all_hold" = some (some (.ref hA)))
    (l_hA : K.lookup hA = some ⟨oc_hA, od_hA, .func (PySem.W.fnOf "all_hold" "all_hold" (defArgs sAhd) (defBody sAhd) (defScope sAhd) .none kV_hA dc_hA pm_hA an_hA (.ref cA) ct_hA), sl_hA⟩)
    (c_hA : PySem.W.codeIn K (.ref cA) "all_hold" = true)
    (k_hA : PySem.W.keepIn K (.ref hA) = true)
    (b_hI : PySem.W.nsIn K mainGlobals "is_setting" = some (some (.ref hI)))
    (l_hI : K.lookup hI = some ⟨oc_hI, od_hI, .func (PySem.W.fnOf "is_setting" "is_setting" (defArgs Sn.sIss) (defBody Sn.sIss) (defScope Sn.sIss) .none kV_hI dc_hI pm_hI an_hI (.ref cI) ct_hI), sl_hI⟩)
    (c_hI : PySem.W.codeIn K (.ref cI) "is_setting" = true)
    (k_hI : PySem.W.keepIn K (.ref hI) = true)
    (lc_H : K.lookup cH = some ⟨e_H, dd_H, .fields vs_H, sf_H⟩)
    (v_H : vs_H[11]? = some (Value.ref PH))
    (hd_H : PySem.W.codeHdIn K cH PH = true)
    (np_H : K.lookup PH = none)
    (lc_A : K.lookup cA = some ⟨e_A, dd_A, .fields vs_A, sf_A⟩)
    (v_A : vs_A[11]? = some (Value.ref PA))
    (hd_A : PySem.W.codeHdIn K cA PA = true)
    (np_A : K.lookup PA = none)
    (lc_I : K.lookup cI = some ⟨e_I, dd_I, .fields vs_I, sf_I⟩)
    (v_I : vs_I[11]? = some (Value.ref PI))
    (hd_I : PySem.W.codeHdIn K cI PI = true)
    (np_I : K.lookup PI = none)
    (b_MOST_THINGS : PySem.W.nsIn K mainGlobals "MOST_THINGS" = some (some (.int 8 tk_MOST_THINGS)))
    (b_MOST_LOOKED_THROUGH : PySem.W.nsIn K mainGlobals "MOST_LOOKED_THROUGH" = some (some (.int 10 tk_MOST_LOOKED_THROUGH)))
    (z_zip : PySem.W.nsIn K mainGlobals "zip" = some none)
    (z_range : PySem.W.nsIn K mainGlobals "range" = some none)
    (z_isinstance : PySem.W.nsIn K mainGlobals "isinstance" = some none)
    (z_len : PySem.W.nsIn K mainGlobals "len" = some none)
    (z_list : PySem.W.nsIn K mainGlobals "list" = some none)
    (z_min : PySem.W.nsIn K mainGlobals "min" = some none)
    (z_max : PySem.W.nsIn K mainGlobals "max" = some none)
    (z_tuple : PySem.W.nsIn K mainGlobals "tuple" = some none)
    (z_sorted : PySem.W.nsIn K mainGlobals "sorted" = some none)
    (z_all : PySem.W.nsIn K mainGlobals "all" = some none)
    (z_any : PySem.W.nsIn K mainGlobals "any" = some none)
    (z_bool : PySem.W.nsIn K mainGlobals "bool" = some none)
    (z_int : PySem.W.nsIn K mainGlobals "int" = some none)
    (z_repr : PySem.W.nsIn K mainGlobals "repr" = some none)
    (z_abs : PySem.W.nsIn K mainGlobals "abs" = some none)
    (z_set : PySem.W.nsIn K mainGlobals "set" = some none)
    (z_enumerate : PySem.W.nsIn K mainGlobals "enumerate" = some none)
    (z_dict : PySem.W.nsIn K mainGlobals "dict" = some none)
    (z_ValueError : PySem.W.nsIn K mainGlobals "ValueError" = some none)
    (aS : PySem.W.nsIn K mainGlobals "SpareError" = some (some (.ref S)))
    (bS : PySem.W.subIn K (.ref S) (.type "BaseException") = some true)
    (hn : PySem.W.specialIn K (.builtin "object.__class__") "__get__" = some (some (.builtin "getset_descriptor.__get__")))
    (ht : PySem.W.takesIn K (.builtin "object.__class__") = some true)
    (lS : PySem.W.isClsIn K S = true)
    (tS : PySem.W.typeIn K (.ref S) = some (.type "type"))
    (a0 : PySem.W.nsIn K mainGlobals "NoCut" = some (some (.ref c0)))
    (hg0 : PySem.W.findIn K (.ref c0) "__getattribute__" = some (some (.builtin "BaseException.__getattribute__")))
    (hk0 : PySem.W.findIn K (.ref c0) "__getattr__" = some none)
    (hs0 : PySem.W.subIn K (.ref c0) (.type "BaseException") = some true)
    (hd0 : PySem.W.hasDictIn K c0 = true)
    (ha0 : PySem.W.findIn K (.ref c0) "__class__" = some (some (.builtin "object.__class__")))
    (hm0 : PySem.W.mroIn K c0 (.type "object") = some true)
    (lc0 : PySem.W.isClsIn K c0 = true)
    (ty0 : PySem.W.typeIn K (.ref c0) = some (.type "type"))
    (ss0 : PySem.W.subIn K (.ref c0) (.ref S) = some true)
    (sv0 : PySem.W.subIn K (.ref c0) (.type "ValueError") = some true)
    (a1 : PySem.W.nsIn K mainGlobals "NoLadder" = some (some (.ref c1)))
    (hg1 : PySem.W.findIn K (.ref c1) "__getattribute__" = some (some (.builtin "BaseException.__getattribute__")))
    (hk1 : PySem.W.findIn K (.ref c1) "__getattr__" = some none)
    (hs1 : PySem.W.subIn K (.ref c1) (.type "BaseException") = some true)
    (hd1 : PySem.W.hasDictIn K c1 = true)
    (ha1 : PySem.W.findIn K (.ref c1) "__class__" = some (some (.builtin "object.__class__")))
    (hm1 : PySem.W.mroIn K c1 (.type "object") = some true)
    (lc1 : PySem.W.isClsIn K c1 = true)
    (ty1 : PySem.W.typeIn K (.ref c1) = some (.type "type"))
    (ss1 : PySem.W.subIn K (.ref c1) (.ref S) = some true)
    (sv1 : PySem.W.subIn K (.ref c1) (.type "ValueError") = some true)
    (a2 : PySem.W.nsIn K mainGlobals "NoInstead" = some (some (.ref c2)))
    (hg2 : PySem.W.findIn K (.ref c2) "__getattribute__" = some (some (.builtin "BaseException.__getattribute__")))
    (hk2 : PySem.W.findIn K (.ref c2) "__getattr__" = some none)
    (hs2 : PySem.W.subIn K (.ref c2) (.type "BaseException") = some true)
    (hd2 : PySem.W.hasDictIn K c2 = true)
    (ha2 : PySem.W.findIn K (.ref c2) "__class__" = some (some (.builtin "object.__class__")))
    (hm2 : PySem.W.mroIn K c2 (.type "object") = some true)
    (lc2 : PySem.W.isClsIn K c2 = true)
    (ty2 : PySem.W.typeIn K (.ref c2) = some (.type "type"))
    (ss2 : PySem.W.subIn K (.ref c2) (.ref S) = some true)
    (sv2 : PySem.W.subIn K (.ref c2) (.type "ValueError") = some true)
    (a3 : PySem.W.nsIn K mainGlobals "TooGreat" = some (some (.ref c3)))
    (hg3 : PySem.W.findIn K (.ref c3) "__getattribute__" = some (some (.builtin "BaseException.__getattribute__")))
    (hk3 : PySem.W.findIn K (.ref c3) "__getattr__" = some none)
    (hs3 : PySem.W.subIn K (.ref c3) (.type "BaseException") = some true)
    (hd3 : PySem.W.hasDictIn K c3 = true)
    (ha3 : PySem.W.findIn K (.ref c3) "__class__" = some (some (.builtin "object.__class__")))
    (hm3 : PySem.W.mroIn K c3 (.type "object") = some true)
    (lc3 : PySem.W.isClsIn K c3 = true)
    (ty3 : PySem.W.typeIn K (.ref c3) = some (.type "type"))
    (ss3 : PySem.W.subIn K (.ref c3) (.ref S) = some true)
    (sv3 : PySem.W.subIn K (.ref c3) (.type "ValueError") = some true)
    (a4 : PySem.W.nsIn K mainGlobals "TooMany" = some (some (.ref c4)))
    (hg4 : PySem.W.findIn K (.ref c4) "__getattribute__" = some (some (.builtin "BaseException.__getattribute__")))
    (hk4 : PySem.W.findIn K (.ref c4) "__getattr__" = some none)
    (hs4 : PySem.W.subIn K (.ref c4) (.type "BaseException") = some true)
    (hd4 : PySem.W.hasDictIn K c4 = true)
    (ha4 : PySem.W.findIn K (.ref c4) "__class__" = some (some (.builtin "object.__class__")))
    (hm4 : PySem.W.mroIn K c4 (.type "object") = some true)
    (lc4 : PySem.W.isClsIn K c4 = true)
    (ty4 : PySem.W.typeIn K (.ref c4) = some (.type "type"))
    (ss4 : PySem.W.subIn K (.ref c4) (.ref S) = some true)
    (sv4 : PySem.W.subIn K (.ref c4) (.type "ValueError") = some true)
    (a5 : PySem.W.nsIn K mainGlobals "NoTelling" = some (some (.ref c5)))
    (hg5 : PySem.W.findIn K (.ref c5) "__getattribute__" = some (some (.builtin "BaseException.__getattribute__")))
    (hk5 : PySem.W.findIn K (.ref c5) "__getattr__" = some none)
    (hs5 : PySem.W.subIn K (.ref c5) (.type "BaseException") = some true)
    (hd5 : PySem.W.hasDictIn K c5 = true)
    (ha5 : PySem.W.findIn K (.ref c5) "__class__" = some (some (.builtin "object.__class__")))
    (hm5 : PySem.W.mroIn K c5 (.type "object") = some true)
    (lc5 : PySem.W.isClsIn K c5 = true)
    (ty5 : PySem.W.typeIn K (.ref c5) = some (.type "type"))
    (ss5 : PySem.W.subIn K (.ref c5) (.ref S) = some true)
    (sv5 : PySem.W.subIn K (.ref c5) (.type "ValueError") = some true)
    (a6 : PySem.W.nsIn K mainGlobals "NoText" = some (some (.ref c6)))
    (hg6 : PySem.W.findIn K (.ref c6) "__getattribute__" = some (some (.builtin "BaseException.__getattribute__")))
    (hk6 : PySem.W.findIn K (.ref c6) "__getattr__" = some none)
    (hs6 : PySem.W.subIn K (.ref c6) (.type "BaseException") = some true)
    (hd6 : PySem.W.hasDictIn K c6 = true)
    (ha6 : PySem.W.findIn K (.ref c6) "__class__" = some (some (.builtin "object.__class__")))
    (hm6 : PySem.W.mroIn K c6 (.type "object") = some true)
    (lc6 : PySem.W.isClsIn K c6 = true)
    (ty6 : PySem.W.typeIn K (.ref c6) = some (.type "type"))
    (ss6 : PySem.W.subIn K (.ref c6) (.ref S) = some true)
    (sv6 : PySem.W.subIn K (.ref c6) (.type "ValueError") = some true)
    (a7 : PySem.W.nsIn K mainGlobals "NoRow" = some (some (.ref c7)))
    (hg7 : PySem.W.findIn K (.ref c7) "__getattribute__" = some (some (.builtin "BaseException.__getattribute__")))
    (hk7 : PySem.W.findIn K (.ref c7) "__getattr__" = some none)
    (hs7 : PySem.W.subIn K (.ref c7) (.type "BaseException") = some true)
    (hd7 : PySem.W.hasDictIn K c7 = true)
    (ha7 : PySem.W.findIn K (.ref c7) "__class__" = some (some (.builtin "object.__class__")))
    (hm7 : PySem.W.mroIn K c7 (.type "object") = some true)
    (lc7 : PySem.W.isClsIn K c7 = true)
    (ty7 : PySem.W.typeIn K (.ref c7) = some (.type "type"))
    (ss7 : PySem.W.subIn K (.ref c7) (.ref S) = some true)
    (sv7 : PySem.W.subIn K (.ref c7) (.type "ValueError") = some true)
    (a8 : PySem.W.nsIn K mainGlobals "NoBack" = some (some (.ref c8)))
    (hg8 : PySem.W.findIn K (.ref c8) "__getattribute__" = some (some (.builtin "BaseException.__getattribute__")))
    (hk8 : PySem.W.findIn K (.ref c8) "__getattr__" = some none)
    (hs8 : PySem.W.subIn K (.ref c8) (.type "BaseException") = some true)
    (hd8 : PySem.W.hasDictIn K c8 = true)
    (ha8 : PySem.W.findIn K (.ref c8) "__class__" = some (some (.builtin "object.__class__")))
    (hm8 : PySem.W.mroIn K c8 (.type "object") = some true)
    (lc8 : PySem.W.isClsIn K c8 = true)
    (ty8 : PySem.W.typeIn K (.ref c8) = some (.type "type"))
    (ss8 : PySem.W.subIn K (.ref c8) (.ref S) = some true)
    (sv8 : PySem.W.subIn K (.ref c8) (.type "ValueError") = some true)
    (s00 : PySem.W.subIn K (.ref c0) (.ref c0) = some true)
    (s01 : PySem.W.subIn K (.ref c0) (.ref c1) = some false)
    (s02 : PySem.W.subIn K (.ref c0) (.ref c2) = some false)
    (s03 : PySem.W.subIn K (.ref c0) (.ref c3) = some false)
    (s04 : PySem.W.subIn K (.ref c0) (.ref c4) = some false)
    (s05 : PySem.W.subIn K (.ref c0) (.ref c5) = some false)
    (s06 : PySem.W.subIn K (.ref c0) (.ref c6) = some false)
    (s07 : PySem.W.subIn K (.ref c0) (.ref c7) = some false)
    (s08 : PySem.W.subIn K (.ref c0) (.ref c8) = some false)
    (s10 : PySem.W.subIn K (.ref c1) (.ref c0) = some false)
    (s11 : PySem.W.subIn K (.ref c1) (.ref c1) = some true)
    (s12 : PySem.W.subIn K (.ref c1) (.ref c2) = some false)
    (s13 : PySem.W.subIn K (.ref c1) (.ref c3) = some false)
    (s14 : PySem.W.subIn K (.ref c1) (.ref c4) = some false)
    (s15 : PySem.W.subIn K (.ref c1) (.ref c5) = some false)
    (s16 : PySem.W.subIn K (.ref c1) (.ref c6) = some false)
    (s17 : PySem.W.subIn K (.ref c1) (.ref c7) = some false)
    (s18 : PySem.W.subIn K (.ref c1) (.ref c8) = some false)
    (s20 : PySem.W.subIn K (.ref c2) (.ref c0) = some false)
    (s21 : PySem.W.subIn K (.ref c2) (.ref c1) = some false)
    (s22 : PySem.W.subIn K (.ref c2) (.ref c2) = some true)
    (s23 : PySem.W.subIn K (.ref c2) (.ref c3) = some false)
    (s24 : PySem.W.subIn K (.ref c2) (.ref c4) = some false)
    (s25 : PySem.W.subIn K (.ref c2) (.ref c5) = some false)
    (s26 : PySem.W.subIn K (.ref c2) (.ref c6) = some false)
    (s27 : PySem.W.subIn K (.ref c2) (.ref c7) = some false)
    (s28 : PySem.W.subIn K (.ref c2) (.ref c8) = some false)
    (s30 : PySem.W.subIn K (.ref c3) (.ref c0) = some false)
    (s31 : PySem.W.subIn K (.ref c3) (.ref c1) = some false)
    (s32 : PySem.W.subIn K (.ref c3) (.ref c2) = some false)
    (s33 : PySem.W.subIn K (.ref c3) (.ref c3) = some true)
    (s34 : PySem.W.subIn K (.ref c3) (.ref c4) = some false)
    (s35 : PySem.W.subIn K (.ref c3) (.ref c5) = some false)
    (s36 : PySem.W.subIn K (.ref c3) (.ref c6) = some false)
    (s37 : PySem.W.subIn K (.ref c3) (.ref c7) = some false)
    (s38 : PySem.W.subIn K (.ref c3) (.ref c8) = some false)
    (s40 : PySem.W.subIn K (.ref c4) (.ref c0) = some false)
    (s41 : PySem.W.subIn K (.ref c4) (.ref c1) = some false)
    (s42 : PySem.W.subIn K (.ref c4) (.ref c2) = some false)
    (s43 : PySem.W.subIn K (.ref c4) (.ref c3) = some false)
    (s44 : PySem.W.subIn K (.ref c4) (.ref c4) = some true)
    (s45 : PySem.W.subIn K (.ref c4) (.ref c5) = some false)
    (s46 : PySem.W.subIn K (.ref c4) (.ref c6) = some false)
    (s47 : PySem.W.subIn K (.ref c4) (.ref c7) = some false)
    (s48 : PySem.W.subIn K (.ref c4) (.ref c8) = some false)
    (s50 : PySem.W.subIn K (.ref c5) (.ref c0) = some false)
    (s51 : PySem.W.subIn K (.ref c5) (.ref c1) = some false)
    (s52 : PySem.W.subIn K (.ref c5) (.ref c2) = some false)
    (s53 : PySem.W.subIn K (.ref c5) (.ref c3) = some false)
    (s54 : PySem.W.subIn K (.ref c5) (.ref c4) = some false)
    (s55 : PySem.W.subIn K (.ref c5) (.ref c5) = some true)
    (s56 : PySem.W.subIn K (.ref c5) (.ref c6) = some false)
    (s57 : PySem.W.subIn K (.ref c5) (.ref c7) = some false)
    (s58 : PySem.W.subIn K (.ref c5) (.ref c8) = some false)
    (s60 : PySem.W.subIn K (.ref c6) (.ref c0) = some false)
    (s61 : PySem.W.subIn K (.ref c6) (.ref c1) = some false)
    (s62 : PySem.W.subIn K (.ref c6) (.ref c2) = some false)
    (s63 : PySem.W.subIn K (.ref c6) (.ref c3) = some false)
    (s64 : PySem.W.subIn K (.ref c6) (.ref c4) = some false)
    (s65 : PySem.W.subIn K (.ref c6) (.ref c5) = some false)
    (s66 : PySem.W.subIn K (.ref c6) (.ref c6) = some true)
    (s67 : PySem.W.subIn K (.ref c6) (.ref c7) = some false)
    (s68 : PySem.W.subIn K (.ref c6) (.ref c8) = some false)
    (s70 : PySem.W.subIn K (.ref c7) (.ref c0) = some false)
    (s71 : PySem.W.subIn K (.ref c7) (.ref c1) = some false)
    (s72 : PySem.W.subIn K (.ref c7) (.ref c2) = some false)
    (s73 : PySem.W.subIn K (.ref c7) (.ref c3) = some false)
    (s74 : PySem.W.subIn K (.ref c7) (.ref c4) = some false)
    (s75 : PySem.W.subIn K (.ref c7) (.ref c5) = some false)
    (s76 : PySem.W.subIn K (.ref c7) (.ref c6) = some false)
    (s77 : PySem.W.subIn K (.ref c7) (.ref c7) = some true)
    (s78 : PySem.W.subIn K (.ref c7) (.ref c8) = some false)
    (s80 : PySem.W.subIn K (.ref c8) (.ref c0) = some false)
    (s81 : PySem.W.subIn K (.ref c8) (.ref c1) = some false)
    (s82 : PySem.W.subIn K (.ref c8) (.ref c2) = some false)
    (s83 : PySem.W.subIn K (.ref c8) (.ref c3) = some false)
    (s84 : PySem.W.subIn K (.ref c8) (.ref c4) = some false)
    (s85 : PySem.W.subIn K (.ref c8) (.ref c5) = some false)
    (s86 : PySem.W.subIn K (.ref c8) (.ref c6) = some false)
    (s87 : PySem.W.subIn K (.ref c8) (.ref c7) = some false)
    (s88 : PySem.W.subIn K (.ref c8) (.ref c8) = some true)
    (xc4 : PySem.W.excIn K c4 [.type "ValueError", .type "Exception", .type "BaseException", .type "object"] "ValueError.__new__" = true)
    (kp4 : PySem.W.keepIn K (.ref c4) = true) :
    LawG l w K 10 63 "script" mg top h := by
  have e := htop.symm.trans (PySem.W.mg_of X G b_fL)
  cases e
  have F_fM := fun_mk (st := sMix) l_fM c_fM k_fM
  have B_fM := F_fM.binds (ps := ["cell", "at"]) fun _ _ _ _ _ _ us hl => match us, hl with | [_, _], _ => rfl
  have g_fM := PySem.W.mg_of X G b_fM
  have F_fD := fun_mk (st := sDrw) l_fD c_fD k_fD
  have B_fD := F_fD.binds (ps := ["feed", "many"]) fun _ _ _ _ _ _ us hl => match us, hl with | [_, _], _ => rfl
  have g_fD := PySem.W.mg_of X G b_fD
  have F_fO := fun_mk (st := sOpn) l_fO c_fO k_fO
  have B_fO := F_fO.binds (ps := ["script"]) fun _ _ _ _ _ _ us hl => match us, hl with | [_], _ => rfl
  have g_fO := PySem.W.mg_of X G b_fO
  have F_fT := fun_mk (st := sThg) l_fT c_fT k_fT
  have B_fT := F_fT.binds (ps := ["feed", "least", "most"]) fun _ _ _ _ _ _ us hl => match us, hl with | [_, _, _], _ => rfl
  have g_fT := PySem.W.mg_of X G b_fT
  have F_fC := fun_mk (st := sClm) l_fC c_fC k_fC
  have B_fC := F_fC.binds (ps := ["feed", "things", "most"]) fun _ _ _ _ _ _ us hl => match us, hl with | [_, _, _], _ => rfl
  have g_fC := PySem.W.mg_of X G b_fC
  have F_fB := fun_mk (st := sBok) l_fB c_fB k_fB
  have B_fB := F_fB.binds (ps := ["feed", "things", "most"]) fun _ _ _ _ _ _ us hl => match us, hl with | [_, _, _], _ => rfl
  have g_fB := PySem.W.mg_of X G b_fB
  have F_fs := fun_mk (st := Wd.sSst) l_fs c_fs k_fs
  have B_fs := F_fs.binds (ps := ["feed"]) fun _ _ _ _ _ _ us hl => match us, hl with | [_], _ => rfl
  have g_fs := PySem.W.mg_of X G b_fs
  have F_fo := fun_mk (st := Sl.sSho) l_fo c_fo k_fo
  have B_fo := F_fo.binds (ps := ["claim", "setting"]) fun _ _ _ _ _ _ us hl => match us, hl with | [_, _], _ => rfl
  have g_fo := PySem.W.mg_of X G b_fo
  have F_fv := fun_mk (st := Sl.sSev) l_fv c_fv k_fv
  have B_fv := F_fv.binds (ps := ["things"]) fun _ _ _ _ _ _ us hl => match us, hl with | [_], _ => rfl
  have g_fv := PySem.W.mg_of X G b_fv
  have F_fg := fun_mk (st := Sl.sSag) l_fg c_fg k_fg
  have B_fg := F_fg.binds (ps := ["claims", "claim", "things"]) fun _ _ _ _ _ _ us hl => match us, hl with | [_, _, _], _ => rfl
  have g_fg := PySem.W.mg_of X G b_fg
  have F_fi := fun_mk (st := Sic.sSis) l_fi c_fi k_fi
  have B_fi := F_fi.binds (ps := ["thing"]) fun _ _ _ _ _ _ us hl => match us, hl with | [_], _ => rfl
  have g_fi := PySem.W.mg_of X G b_fi
  have F_fR := fun_mk (st := Rf.sRef) l_fR c_fR k_fR
  have B_fR := F_fR.binds (ps := ["act"]) fun _ _ _ _ _ _ us hl => match us, hl with | [_], _ => rfl
  have g_fR := PySem.W.mg_of X G b_fR
  have F_fa := fun_mk (st := Sl.sSah) l_fa c_fa k_fa
  have B_fa := F_fa.binds (ps := ["claims", "setting"]) fun _ _ _ _ _ _ us hl => match us, hl with | [_, _], _ => rfl
  have g_fa := PySem.W.mg_of X G b_fa
  have F_fh := fun_mk (st := Sic.sSth) l_fh c_fh k_fh
  have B_fh := F_fh.binds (ps := ["book", "numbers"]) fun _ _ _ _ _ _ us hl => match us, hl with | [_, _], _ => rfl
  have g_fh := PySem.W.mg_of X G b_fh
  have F_fj := fun_mk (st := Sic.sSia) l_fj c_fj k_fj
  have B_fj := F_fj.binds (ps := ["claims", "claim", "setting"]) fun _ _ _ _ _ _ us hl => match us, hl with | [_, _, _], _ => rfl
  have g_fj := PySem.W.mg_of X G b_fj
  have F_fu := fun_mk (st := Tab42.sTup) l_fu c_fu k_fu
  have B_fu := F_fu.binds (ps := ["count", "many"]) fun _ _ _ _ _ _ us hl => match us, hl with | [_, _], _ => rfl
  have g_fu := PySem.W.mg_of X G b_fu
  have F_fd := fun_mk (st := Sh43.sDue) l_fd c_fd k_fd
  have B_fd := F_fd.binds (ps := ["book", "claim", "many", "table"]) fun _ _ _ _ _ _ us hl => match us, hl with | [_, _, _, _], _ => rfl
  have g_fd := PySem.W.mg_of X G b_fd
  have F_fA := fun_mk (st := Tb43.sTbs) l_fA c_fA k_fA
  have B_fA := F_fA.binds (ps := ["feed", "book", "claim", "every", "many"]) fun _ _ _ _ _ _ us hl => match us, hl with | [_, _, _, _, _], _ => rfl
  have g_fA := PySem.W.mg_of X G b_fA
  have F_fL := fun_mk (st := K43.sLaw) l_fL c_fL k_fL
  have B_fL := F_fL.binds (ps := ["script"]) fun _ _ _ _ _ _ us hl => match us, hl with | [_], _ => rfl
  have g_fL := PySem.W.mg_of X G b_fL
  have F_gS := fun_mk (st := sShd) l_gS c_gS k_gS
  have B_gS := F_gS.binds (ps := ["say", "setting"]) fun _ _ _ _ _ _ us hl => match us, hl with | [_, _], _ => rfl
  have g_gS := PySem.W.mg_of X G b_gS
  have F_gY := fun_mk (st := Co.sCby) l_gY c_gY k_gY
  have B_gY := F_gY.binds (ps := ["book", "numbers"]) fun _ _ _ _ _ _ us hl => match us, hl with | [_, _], _ => rfl
  have g_gY := PySem.W.mg_of X G b_gY
  have F_gD := fun_mk (st := Sn.sSnd) l_gD c_gD k_gD
  have B_gD := F_gD.binds (ps := ["book", "claim", "numbers", "thing"]) fun _ _ _ _ _ _ us hl => match us, hl with | [_, _, _, _], _ => rfl
  have g_gD := PySem.W.mg_of X G b_gD
  have F_wC := fun_mk (st := Few.sCfc) l_wC c_wC k_wC
  have B_wC := F_wC.binds (ps := ["book"]) fun _ _ _ _ _ _ us hl => match us, hl with | [_], _ => rfl
  have g_wC := PySem.W.mg_of X G b_wC
  have F_wB := fun_mk (st := Few.sNbh) l_wB c_wB k_wB
  have B_wB := F_wB.binds (ps := ["numbers", "many"]) fun _ _ _ _ _ _ us hl => match us, hl with | [_, _], _ => rfl
  have g_wB := PySem.W.mg_of X G b_wB
  have F_wR := fun_mk (st := Few.sRis) l_wR c_wR k_wR
  have B_wR := F_wR.binds (ps := ["many", "length"]) fun _ _ _ _ _ _ us hl => match us, hl with | [_, _], _ => rfl
  have g_wR := PySem.W.mg_of X G b_wR
  have F_wN := fun_mk (st := Few.sShn) l_wN c_wN k_wN
  have B_wN := F_wN.binds (ps := ["book", "claim", "many", "table"]) fun _ _ _ _ _ _ us hl => match us, hl with | [_, _, _, _], _ => rfl
  have g_wN := PySem.W.mg_of X G b_wN
  have F_hH := fun_mk (st := sHol) l_hH c_hH k_hH
  have B_hH := F_hH.binds (ps := ["claim", "setting"]) fun _ _ _ _ _ _ us hl => match us, hl with | [_, _], _ => rfl
  have g_hH := PySem.W.mg_of X G b_hH
  have F_hA := fun_mk (st := sAhd) l_hA c_hA k_hA
  have B_hA := F_hA.binds (ps := ["book", "setting"]) fun _ _ _ _ _ _ us hl => match us, hl with | [_, _], _ => rfl
  have g_hA := PySem.W.mg_of X G b_hA
  have F_hI := fun_mk (st := Sn.sIss) l_hI c_hI k_hI
  have B_hI := F_hI.binds (ps := ["thing"]) fun _ _ _ _ _ _ us hl => match us, hl with | [_], _ => rfl
  have g_hI := PySem.W.mg_of X G b_hI
  have C_hH : Se.FunC K "holds" "holds" sHol hH cH _ := ⟨⟨_, _, _, _, _, _, _, _, rfl, l_hH, c_hH⟩, k_hH⟩
  have C_hA : Se.FunC K "all_hold" "all_hold" sAhd hA cA _ := ⟨⟨_, _, _, _, _, _, _, _, rfl, l_hA, c_hA⟩, k_hA⟩
  have C_hI : Se.FunC K "is_setting" "is_setting" Sn.sIss hI cI _ := ⟨⟨_, _, _, _, _, _, _, _, rfl, l_hI, c_hI⟩, k_hI⟩
  have M_MOST_THINGS := PySem.W.mg_of X G b_MOST_THINGS
  have M_MOST_LOOKED_THROUGH := PySem.W.mg_of X G b_MOST_LOOKED_THROUGH
  have Z_zip := PySem.W.mg_none_of X G z_zip
  have Z_range := PySem.W.mg_none_of X G z_range
  have Z_isinstance := PySem.W.mg_none_of X G z_isinstance
  have Z_len := PySem.W.mg_none_of X G z_len
  have Z_list := PySem.W.mg_none_of X G z_list
  have Z_min := PySem.W.mg_none_of X G z_min
  have Z_max := PySem.W.mg_none_of X G z_max
  have Z_tuple := PySem.W.mg_none_of X G z_tuple
  have Z_sorted := PySem.W.mg_none_of X G z_sorted
  have Z_all := PySem.W.mg_none_of X G z_all
  have Z_any := PySem.W.mg_none_of X G z_any
  have Z_bool := PySem.W.mg_none_of X G z_bool
  have Z_int := PySem.W.mg_none_of X G z_int
  have Z_repr := PySem.W.mg_none_of X G z_repr
  have Z_abs := PySem.W.mg_none_of X G z_abs
  have Z_set := PySem.W.mg_none_of X G z_set
  have Z_enumerate := PySem.W.mg_none_of X G z_enumerate
  have Z_dict := PySem.W.mg_none_of X G z_dict
  have Z_ValueError := PySem.W.mg_none_of X G z_ValueError
  have Tx : Rf.Txt K mg (fun i => [c0, c1, c2, c3, c4, c5, c6, c7, c8].getD i 0) S := {
    g := fun i x e => match i, e with
    | 0, e => by cases e; exact PySem.W.mg_of X G a0
    | 1, e => by cases e; exact PySem.W.mg_of X G a1
    | 2, e => by cases e; exact PySem.W.mg_of X G a2
    | 3, e => by cases e; exact PySem.W.mg_of X G a3
    | 4, e => by cases e; exact PySem.W.mg_of X G a4
    | 5, e => by cases e; exact PySem.W.mg_of X G a5
    | 6, e => by cases e; exact PySem.W.mg_of X G a6
    | 7, e => by cases e; exact PySem.W.mg_of X G a7
    | 8, e => by cases e; exact PySem.W.mg_of X G a8
    | n + 9, e => by cases e
    gS := PySem.W.mg_of X G aS
    ec := fun i hi => match i, hi with
    | 0, _ => ⟨hg0, hk0, hs0, hd0, ha0, hn, ht, hm0⟩
    | 1, _ => ⟨hg1, hk1, hs1, hd1, ha1, hn, ht, hm1⟩
    | 2, _ => ⟨hg2, hk2, hs2, hd2, ha2, hn, ht, hm2⟩
    | 3, _ => ⟨hg3, hk3, hs3, hd3, ha3, hn, ht, hm3⟩
    | 4, _ => ⟨hg4, hk4, hs4, hd4, ha4, hn, ht, hm4⟩
    | 5, _ => ⟨hg5, hk5, hs5, hd5, ha5, hn, ht, hm5⟩
    | 6, _ => ⟨hg6, hk6, hs6, hd6, ha6, hn, ht, hm6⟩
    | 7, _ => ⟨hg7, hk7, hs7, hd7, ha7, hn, ht, hm7⟩
    | 8, _ => ⟨hg8, hk8, hs8, hd8, ha8, hn, ht, hm8⟩
    ap := fun i j hi hj => match i, hi, j, hj with
    | 0, _, 0, _ => Cf.kit_t (Cf.cls_s lc0) ty0 s00
    | 0, _, 1, _ => Cf.kit_f (Cf.cls_s lc1) ty1 s01 s00
    | 0, _, 2, _ => Cf.kit_f (Cf.cls_s lc2) ty2 s02 s00
    | 0, _, 3, _ => Cf.kit_f (Cf.cls_s lc3) ty3 s03 s00
    | 0, _, 4, _ => Cf.kit_f (Cf.cls_s lc4) ty4 s04 s00
    | 0, _, 5, _ => Cf.kit_f (Cf.cls_s lc5) ty5 s05 s00
    | 0, _, 6, _ => Cf.kit_f (Cf.cls_s lc6) ty6 s06 s00
    | 0, _, 7, _ => Cf.kit_f (Cf.cls_s lc7) ty7 s07 s00
    | 0, _, 8, _ => Cf.kit_f (Cf.cls_s lc8) ty8 s08 s00
    | 1, _, 0, _ => Cf.kit_f (Cf.cls_s lc0) ty0 s10 s11
    | 1, _, 1, _ => Cf.kit_t (Cf.cls_s lc1) ty1 s11
    | 1, _, 2, _ => Cf.kit_f (Cf.cls_s lc2) ty2 s12 s11
    | 1, _, 3, _ => Cf.kit_f (Cf.cls_s lc3) ty3 s13 s11
    | 1, _, 4, _ => Cf.kit_f (Cf.cls_s lc4) ty4 s14 s11
    | 1, _, 5, _ => Cf.kit_f (Cf.cls_s lc5) ty5 s15 s11
    | 1, _, 6, _ => Cf.kit_f (Cf.cls_s lc6) ty6 s16 s11
    | 1, _, 7, _ => Cf.kit_f (Cf.cls_s lc7) ty7 s17 s11
    | 1, _, 8, _ => Cf.kit_f (Cf.cls_s lc8) ty8 s18 s11
    | 2, _, 0, _ => Cf.kit_f (Cf.cls_s lc0) ty0 s20 s22
    | 2, _, 1, _ => Cf.kit_f (Cf.cls_s lc1) ty1 s21 s22
    | 2, _, 2, _ => Cf.kit_t (Cf.cls_s lc2) ty2 s22
    | 2, _, 3, _ => Cf.kit_f (Cf.cls_s lc3) ty3 s23 s22
    | 2, _, 4, _ => Cf.kit_f (Cf.cls_s lc4) ty4 s24 s22
    | 2, _, 5, _ => Cf.kit_f (Cf.cls_s lc5) ty5 s25 s22
    | 2, _, 6, _ => Cf.kit_f (Cf.cls_s lc6) ty6 s26 s22
    | 2, _, 7, _ => Cf.kit_f (Cf.cls_s lc7) ty7 s27 s22
    | 2, _, 8, _ => Cf.kit_f (Cf.cls_s lc8) ty8 s28 s22
    | 3, _, 0, _ => Cf.kit_f (Cf.cls_s lc0) ty0 s30 s33
    | 3, _, 1, _ => Cf.kit_f (Cf.cls_s lc1) ty1 s31 s33
    | 3, _, 2, _ => Cf.kit_f (Cf.cls_s lc2) ty2 s32 s33
    | 3, _, 3, _ => Cf.kit_t (Cf.cls_s lc3) ty3 s33
    | 3, _, 4, _ => Cf.kit_f (Cf.cls_s lc4) ty4 s34 s33
    | 3, _, 5, _ => Cf.kit_f (Cf.cls_s lc5) ty5 s35 s33
    | 3, _, 6, _ => Cf.kit_f (Cf.cls_s lc6) ty6 s36 s33
    | 3, _, 7, _ => Cf.kit_f (Cf.cls_s lc7) ty7 s37 s33
    | 3, _, 8, _ => Cf.kit_f (Cf.cls_s lc8) ty8 s38 s33
    | 4, _, 0, _ => Cf.kit_f (Cf.cls_s lc0) ty0 s40 s44
    | 4, _, 1, _ => Cf.kit_f (Cf.cls_s lc1) ty1 s41 s44
    | 4, _, 2, _ => Cf.kit_f (Cf.cls_s lc2) ty2 s42 s44
    | 4, _, 3, _ => Cf.kit_f (Cf.cls_s lc3) ty3 s43 s44
    | 4, _, 4, _ => Cf.kit_t (Cf.cls_s lc4) ty4 s44
    | 4, _, 5, _ => Cf.kit_f (Cf.cls_s lc5) ty5 s45 s44
    | 4, _, 6, _ => Cf.kit_f (Cf.cls_s lc6) ty6 s46 s44
    | 4, _, 7, _ => Cf.kit_f (Cf.cls_s lc7) ty7 s47 s44
    | 4, _, 8, _ => Cf.kit_f (Cf.cls_s lc8) ty8 s48 s44
    | 5, _, 0, _ => Cf.kit_f (Cf.cls_s lc0) ty0 s50 s55
    | 5, _, 1, _ => Cf.kit_f (Cf.cls_s lc1) ty1 s51 s55
    | 5, _, 2, _ => Cf.kit_f (Cf.cls_s lc2) ty2 s52 s55
    | 5, _, 3, _ => Cf.kit_f (Cf.cls_s lc3) ty3 s53 s55
    | 5, _, 4, _ => Cf.kit_f (Cf.cls_s lc4) ty4 s54 s55
    | 5, _, 5, _ => Cf.kit_t (Cf.cls_s lc5) ty5 s55
    | 5, _, 6, _ => Cf.kit_f (Cf.cls_s lc6) ty6 s56 s55
    | 5, _, 7, _ => Cf.kit_f (Cf.cls_s lc7) ty7 s57 s55
    | 5, _, 8, _ => Cf.kit_f (Cf.cls_s lc8) ty8 s58 s55
    | 6, _, 0, _ => Cf.kit_f (Cf.cls_s lc0) ty0 s60 s66
    | 6, _, 1, _ => Cf.kit_f (Cf.cls_s lc1) ty1 s61 s66
    | 6, _, 2, _ => Cf.kit_f (Cf.cls_s lc2) ty2 s62 s66
    | 6, _, 3, _ => Cf.kit_f (Cf.cls_s lc3) ty3 s63 s66
    | 6, _, 4, _ => Cf.kit_f (Cf.cls_s lc4) ty4 s64 s66
    | 6, _, 5, _ => Cf.kit_f (Cf.cls_s lc5) ty5 s65 s66
    | 6, _, 6, _ => Cf.kit_t (Cf.cls_s lc6) ty6 s66
    | 6, _, 7, _ => Cf.kit_f (Cf.cls_s lc7) ty7 s67 s66
    | 6, _, 8, _ => Cf.kit_f (Cf.cls_s lc8) ty8 s68 s66
    | 7, _, 0, _ => Cf.kit_f (Cf.cls_s lc0) ty0 s70 s77
    | 7, _, 1, _ => Cf.kit_f (Cf.cls_s lc1) ty1 s71 s77
    | 7, _, 2, _ => Cf.kit_f (Cf.cls_s lc2) ty2 s72 s77
    | 7, _, 3, _ => Cf.kit_f (Cf.cls_s lc3) ty3 s73 s77
    | 7, _, 4, _ => Cf.kit_f (Cf.cls_s lc4) ty4 s74 s77
    | 7, _, 5, _ => Cf.kit_f (Cf.cls_s lc5) ty5 s75 s77
    | 7, _, 6, _ => Cf.kit_f (Cf.cls_s lc6) ty6 s76 s77
    | 7, _, 7, _ => Cf.kit_t (Cf.cls_s lc7) ty7 s77
    | 7, _, 8, _ => Cf.kit_f (Cf.cls_s lc8) ty8 s78 s77
    | 8, _, 0, _ => Cf.kit_f (Cf.cls_s lc0) ty0 s80 s88
    | 8, _, 1, _ => Cf.kit_f (Cf.cls_s lc1) ty1 s81 s88
    | 8, _, 2, _ => Cf.kit_f (Cf.cls_s lc2) ty2 s82 s88
    | 8, _, 3, _ => Cf.kit_f (Cf.cls_s lc3) ty3 s83 s88
    | 8, _, 4, _ => Cf.kit_f (Cf.cls_s lc4) ty4 s84 s88
    | 8, _, 5, _ => Cf.kit_f (Cf.cls_s lc5) ty5 s85 s88
    | 8, _, 6, _ => Cf.kit_f (Cf.cls_s lc6) ty6 s86 s88
    | 8, _, 7, _ => Cf.kit_f (Cf.cls_s lc7) ty7 s87 s88
    | 8, _, 8, _ => Cf.kit_t (Cf.cls_s lc8) ty8 s88
    kv := fun i hi => match i, hi with
    | 0, _ => Cf.kit_v sv0
    | 1, _ => Cf.kit_v sv1
    | 2, _ => Cf.kit_v sv2
    | 3, _ => Cf.kit_v sv3
    | 4, _ => Cf.kit_v sv4
    | 5, _ => Cf.kit_v sv5
    | 6, _ => Cf.kit_v sv6
    | 7, _ => Cf.kit_v sv7
    | 8, _ => Cf.kit_v sv8
    xm := fun i hi => match i, hi with
    | 0, _ => Cf.exm_t bS (Cf.cls_s lS) tS ss0
    | 1, _ => Cf.exm_t bS (Cf.cls_s lS) tS ss1
    | 2, _ => Cf.exm_t bS (Cf.cls_s lS) tS ss2
    | 3, _ => Cf.exm_t bS (Cf.cls_s lS) tS ss3
    | 4, _ => Cf.exm_t bS (Cf.cls_s lS) tS ss4
    | 5, _ => Cf.exm_t bS (Cf.cls_s lS) tS ss5
    | 6, _ => Cf.exm_t bS (Cf.cls_s lS) tS ss6
    | 7, _ => Cf.exm_t bS (Cf.cls_s lS) tS ss7
    | 8, _ => Cf.exm_t bS (Cf.cls_s lS) tS ss8
    z_isinstance := Z_isinstance
    z_ValueError := Z_ValueError
    z_len := Z_len }
  refine ⟨PySem.W.fnOf "law" "law" (defArgs sLaw) (defBody sLaw) (defScope sLaw) .none kV_fL dc_fL pm_fL an_fL cd_fL ct_fL, [(cH, PH), (cA, PA), (cI, PI)], spLaw PI PH PA K, ?_, ?_, ?_, fun s u => .of_eq rfl, fun H a ns _ hT hS => ?_, fun base hb hn hT => ?_⟩
  · intro p hp
    simp only [List.mem_cons, List.not_mem_nil, or_false] at hp
    rcases hp with rfl | rfl | rfl
    · exact ow "holds" (by simp) _ g_hH cH PH _ _ _ _ _ _ l_hH rfl rfl lc_H v_H
    · exact ow "all_hold" (by simp) _ g_hA cA PA _ _ _ _ _ _ l_hA rfl rfl lc_A v_A
    · exact ow "is_setting" (by simp) _ g_hI cI PI _ _ _ _ _ _ l_hI rfl rfl lc_I v_I
  · intro p hp
    simp only [List.mem_cons, List.not_mem_nil, or_false] at hp
    rcases hp with rfl | rfl | rfl
    · exact np_H
    · exact np_A
    · exact np_I
  · intro p hp
    simp only [List.mem_cons, List.not_mem_nil, or_false] at hp
    rcases hp with rfl | rfl | rfl
    · exact PySem.W.codeHd_of_K X hd_H
    · exact PySem.W.codeHd_of_K X hd_A
    · exact PySem.W.codeHd_of_K X hd_I
  · exact ⟨a, ns, rfl, hS, ⟨#[], hT (cI, PI) (by simp), trivial⟩, ⟨#[], hT (cH, PH) (by simp), trivial⟩, ⟨#[], hT (cA, PA) (by simp), trivial⟩, fun _ => rfl⟩
  · have t_H := hT (cH, PH) (by simp)
    have T_H : TabB base mg cH PH := ⟨t_H.code, t_H.bm, t_H.gP⟩
    have t_A := hT (cA, PA) (by simp)
    have T_A : TabB base mg cA PA := ⟨t_A.code, t_A.bm, t_A.gP⟩
    have t_I := hT (cI, PI) (by simp)
    have T_I : TabB base mg cI PI := ⟨t_I.code, t_I.bm, t_I.gP⟩
    have Ts : Cl.Zs mg := by constructor <;> assumption
    have Tst : Se.Zt mg := by constructor <;> assumption
    have Tl : Sl.Zl mg := by constructor <;> assumption
    have Tq : Sic.Zq mg := by constructor <;> assumption
    have Tw : Wd.Zw mg := by constructor <;> assumption
    have Tff : Few.Zf mg := by constructor <;> assumption
    have Ttb : Tab42.Zt mg := by constructor <;> assumption
    have Tzb : Tb43.Zb mg := by constructor <;> assumption
    have Tsn : Sn.Zn mg := by constructor <;> assumption
    have Tco : Co.Zc mg := by constructor <;> assumption
    have Tk : K43.Zk mg := by constructor <;> assumption
    have GD : FnOk l.prog w K mg base CX0 2 fD _ ["feed", "many"] spDrw := ok_drw F_fD F_fM B_fM g_fM Z_len
    have GO : FnOk l.prog w K mg base CX0 1 fO _ ["script"] (spOpn K) := ok_opn F_fO Z_list
    have GT : FnOk l.prog w K mg base CX0 3 fT _ ["feed", "least", "most"] spThg := ok_thg F_fT Ts F_fD B_fD g_fD GD
    have GC : FnOk l.prog w K mg base CX0 3 fC _ ["feed", "things", "most"] spClm := ok_clm F_fC Ts F_fD B_fD g_fD GD
    have GB : FnOk l.prog w K mg base CX0 4 fB _ ["feed", "things", "most"] spBok := ok_bok F_fB Ts F_fD B_fD g_fD GD F_fC B_fC g_fC GC
    have Gs : FnOk l.prog w K mg base CX0 3 fs _ ["feed"] Wd.spSst := Wd.ok_sst F_fs Tw F_fD B_fD g_fD GD
    have Go : FnOk l.prog w K mg base CX0 1 fo _ ["claim", "setting"] Sl.spSho := Sl.ok_sho F_fo Tl
    have Ga : FnOk l.prog w K mg base CX0 2 fa _ ["claims", "setting"] Sl.spSah := Sl.ok_sah F_fa Tl F_fo B_fo g_fo Go
    have Gv : FnOk l.prog w K mg base CX0 1 fv _ ["things"] Sl.spSev := Sl.ok_sev F_fv
    have Gg : FnOk l.prog w K mg base CX0 3 fg _ ["claims", "claim", "things"] Sl.spSag := Sl.ok_sag F_fg F_fo B_fo g_fo Go F_fa B_fa g_fa Ga F_fv B_fv g_fv Gv
    have Gi : FnOk l.prog w K mg base CX0 1 fi _ ["thing"] Sic.spSsA := Sic.ok_sis F_fi Tq
    have Gh : FnOk l.prog w K mg base CX0 1 fh _ ["book", "numbers"] Sic.spSth := Sic.ok_sth F_fh
    have Gj : FnOk l.prog w K mg base CX0 3 fj _ ["claims", "claim", "setting"] Sic.spSia := Sic.ok_sia F_fj F_fi B_fi g_fi Gi F_fo B_fo g_fo Go F_fa B_fa g_fa Ga
    have Gu : FnOk l.prog w K mg base CX0 1 fu _ ["count", "many"] Tab42.spTup := Tab42.ok_tup F_fu Ttb
    have Gd : FnOk l.prog w K mg base CX0 4 fd _ ["book", "claim", "many", "table"] Sh43.spDue := Sh43.ok_due F_fd Ttb F_fu B_fu g_fu Gu F_fj B_fj g_fj Gj F_fh B_fh g_fh Gh
    have Gt : FnOk l.prog w K mg base CX0 4 fA _ ["feed", "book", "claim", "every", "many"] Tb43.spTbs := Tb43.ok_tbs F_fA Tzb F_fu B_fu g_fu Gu F_fg B_fg g_fg Gg F_fh B_fh g_fh Gh F_fD B_fD g_fD GD F_fs B_fs g_fs Gs
    have JS : FnOk l.prog w K mg base CX0 1 gS _ ["say", "setting"] spShd := ok_shd F_gS Tst
    have JH : FnOk l.prog w K mg base CX0 3 hH _ ["claim", "setting"] (spHol PH) := ok_hol C_hH Tst T_H F_gS B_gS g_gS JS
    have JA : FnOk l.prog w K mg base CX0 5 hA _ ["book", "setting"] (spAhd PH PA) := ok_ahd C_hA Tst T_A k_hH B_hH g_hH JH
    have JI : FnOk l.prog w K mg base CX0 3 hI _ ["thing"] (Sn.spIss PI) := Sn.ok_iss C_hI Tsn M_MOST_THINGS T_I
    have JY : FnOk l.prog w K mg base CX0 1 gY _ ["book", "numbers"] Co.spCby := Co.ok_cby F_gY Tco
    have JD : FnOk l.prog w K mg base CX0 6 gD _ ["book", "claim", "numbers", "thing"] (Sn.spSnd PI PH PA) := Sn.ok_snd F_gD k_hI B_hI g_hI JI k_hA B_hA g_hA JA F_gY B_gY g_gY JY k_hH B_hH g_hH JH
    have WC : FnOk l.prog w K mg base CX0 1 wC _ ["book"] Few.spCfc := Few.ok_cfc F_wC Tff M_MOST_LOOKED_THROUGH
    have WB : FnOk l.prog w K mg base CX0 1 wB _ ["numbers", "many"] Few.spNbh := Few.ok_nbh F_wB Tff
    have WR : FnOk l.prog w K mg base CX0 2 wR _ ["many", "length"] Few.spRis := Few.ok_ris F_wR Tff F_wB B_wB g_wB WB
    have WN : FnOk l.prog w K mg base CX0 7 wN _ ["book", "claim", "many", "table"] (Sh43.spShG PI PH PA) := Sh43.ok_shg F_wN Tff F_wC B_wC g_wC WC F_wR B_wR g_wR WR F_gD B_gD g_gD JD
    have C4 : Few.CM K mg c4 := ⟨xc4, PySem.W.mg_of X G a4, kp4, hs4, ty4⟩
    have X1 : Gx2.FnX l.prog w K mg base (L2.CX l.prog w) 1 wC _ ["book"] (Few.spCfX c4) := Few.ok_cfx F_wC Tff C4 M_MOST_LOOKED_THROUGH
    have X2 : Gx2.FnX l.prog w K mg base (L2.CX l.prog w) 2 wN _ ["book", "claim", "many", "table"] (Few.spShX c4) := Few.ok_shx F_wN F_wC B_wC g_wC X1
    have R1 : Gx2.FnX l.prog w K mg base CX0 3 fR _ ["act"] (Rf5.spRef5 wN (fun i => [c0, c1, c2, c3, c4, c5, c6, c7, c8].getD i 0) (Few.spShX c4)) := Rf5.ok_ref5 F_fR Tx k_wN B_wN X2 (mono_shx c4)
    exact ok_law (cs := (fun i => [c0, c1, c2, c3, c4, c5, c6, c7, c8].getD i 0)) F_fL Tk F_fO B_fO g_fO GO F_fD B_fD g_fD GD F_fT B_fT g_fT GT F_fC B_fC g_fC GC F_fB B_fB g_fB GB F_fA B_fA g_fA Gt F_wN B_wN g_wN WN F_fd B_fd g_fd Gd F_fR B_fR g_fR R1
end K43
open PySem PySem.W PyProof.Rows
set_option maxHeartbeats 0 in
theorem PySem.Challenge.cw_sparecut_k43_how_many_are_needed_holds : PySem.Challenge.rw_sparecut_k43_how_many_are_needed.Holds := by
  w_on; o_law; k_head; (case hw => w_witness2)
  k_fill
  refine Eg.walk_own (l := PySem.Challenge.rw_sparecut_k43_how_many_are_needed) (m := 63) (k := 10) (x := "script") ["holds", "all_hold", "is_setting"] rfl (by decide) rfl ⟨rfl, by decide, by decide⟩ (by decide +kernel) (fun w h Y => PySem.W.kIn_of Y) ?F
  case F =>
    intro w mg fa h Y KX G hmg ow
    refine' K43.all_mk KX G hmg ow ?b_fM ?l_fM ?c_fM ?k_fM ?b_fD ?l_fD ?c_fD ?k_fD ?b_fO ?l_fO ?c_fO ?k_fO ?b_fT ?l_fT ?c_fT ?k_fT ?b_fC ?l_fC ?c_fC ?k_fC ?b_fB ?l_fB ?c_fB ?k_fB ?b_fs ?l_fs ?c_fs ?k_fs ?b_fo ?l_fo ?c_fo ?k_fo ?b_fv ?l_fv ?c_fv ?k_fv ?b_fg ?l_fg ?c_fg ?k_fg ?b_fi ?l_fi ?c_fi ?k_fi ?b_fR ?l_fR ?c_fR ?k_fR ?b_fa ?l_fa ?c_fa ?k_fa ?b_fh ?l_fh ?c_fh ?k_fh ?b_fj ?l_fj ?c_fj ?k_fj ?b_fu ?l_fu ?c_fu ?k_fu ?b_fd ?l_fd ?c_fd ?k_fd ?b_fA ?l_fA ?c_fA ?k_fA ?b_fL ?l_fL ?c_fL ?k_fL ?b_gS ?l_gS ?c_gS ?k_gS ?b_gY ?l_gY ?c_gY ?k_gY ?b_gD ?l_gD ?c_gD ?k_gD ?b_wC ?l_wC ?c_wC ?k_wC ?b_wB ?l_wB ?c_wB ?k_wB ?b_wR ?l_wR ?c_wR ?k_wR ?b_wN ?l_wN ?c_wN ?k_wN ?b_hH ?l_hH ?c_hH ?k_hH ?b_hA ?l_hA ?c_hA ?k_hA ?b_hI ?l_hI ?c_hI ?k_hI ?lc_H ?v_H ?hd_H ?np_H ?lc_A ?v_A ?hd_A ?np_A ?lc_I ?v_I ?hd_I ?np_I ?b_MOST_THINGS ?b_MOST_LOOKED_THROUGH ?z_zip ?z_range ?z_isinstance ?z_len ?z_list ?z_min ?z_max ?z_tuple ?z_sorted ?z_all ?z_any ?z_bool ?z_int ?z_repr ?z_abs ?z_set ?z_enumerate ?z_dict ?z_ValueError ?aS ?bS ?hn ?ht ?lS ?tS ?a0 ?hg0 ?hk0 ?hs0 ?hd0 ?ha0 ?hm0 ?lc0 ?ty0 ?ss0 ?sv0 ?a1 ?hg1 ?hk1 ?hs1 ?hd1 ?ha1 ?hm1 ?lc1 ?ty1 ?ss1 ?sv1 ?a2 ?hg2 ?hk2 ?hs2 ?hd2 ?ha2 ?hm2 ?lc2 ?ty2 ?ss2 ?sv2 ?a3 ?hg3 ?hk3 ?hs3 ?hd3 ?ha3 ?hm3 ?lc3 ?ty3 ?ss3 ?sv3 ?a4 ?hg4 ?hk4 ?hs4 ?hd4 ?ha4 ?hm4 ?lc4 ?ty4 ?ss4 ?sv4 ?a5 ?hg5 ?hk5 ?hs5 ?hd5 ?ha5 ?hm5 ?lc5 ?ty5 ?ss5 ?sv5 ?a6 ?hg6 ?hk6 ?hs6 ?hd6 ?ha6 ?hm6 ?lc6 ?ty6 ?ss6 ?sv6 ?a7 ?hg7 ?hk7 ?hs7 ?hd7 ?ha7 ?hm7 ?lc7 ?ty7 ?ss7 ?sv7 ?a8 ?hg8 ?hk8 ?hs8 ?hd8 ?ha8 ?hm8 ?lc8 ?ty8 ?ss8 ?sv8 ?s00 ?s01 ?s02 ?s03 ?s04 ?s05 ?s06 ?s07 ?s08 ?s10 ?s11 ?s12 ?s13 ?s14 ?s15 ?s16 ?s17 ?s18 ?s20 ?s21 ?s22 ?s23 ?s24 ?s25 ?s26 ?s27 ?s28 ?s30 ?s31 ?s32 ?s33 ?s34 ?s35 ?s36 ?s37 ?s38 ?s40 ?s41 ?s42 ?s43 ?s44 ?s45 ?s46 ?s47 ?s48 ?s50 ?s51 ?s52 ?s53 ?s54 ?s55 ?s56 ?s57 ?s58 ?s60 ?s61 ?s62 ?s63 ?s64 ?s65 ?s66 ?s67 ?s68 ?s70 ?s71 ?s72 ?s73 ?s74 ?s75 ?s76 ?s77 ?s78 ?s80 ?s81 ?s82 ?s83 ?s84 ?s85 ?s86 ?s87 ?s88 ?xc4 ?kp4
    (case b_fM => k_is)
    (case l_fM => k_is)
    (case c_fM => k_is)
    (case k_fM => k_is)
    (case b_fD => k_is)
    (case l_fD => k_is)
    (case c_fD => k_is)
    (case k_fD => k_is)
    (case b_fO => k_is)
    (case l_fO => k_is)
    (case c_fO => k_is)
    (case k_fO => k_is)
    (case b_fT => k_is)
    (case l_fT => k_is)
    (case c_fT => k_is)
    (case k_fT => k_is)
    (case b_fC => k_is)
    (case l_fC => k_is)
    (case c_fC => k_is)
    (case k_fC => k_is)
    (case b_fB => k_is)
    (case l_fB => k_is)
    (case c_fB => k_is)
    (case k_fB => k_is)
    (case b_fs => k_is)
    (case l_fs => k_is)
    (case c_fs => k_is)
    (case k_fs => k_is)
    (case b_fo => k_is)
    (case l_fo => k_is)
    (case c_fo => k_is)
    (case k_fo => k_is)
    (case b_fv => k_is)
    (case l_fv => k_is)
    (case c_fv => k_is)
    (case k_fv => k_is)
    (case b_fg => k_is)
    (case l_fg => k_is)
    (case c_fg => k_is)
    (case k_fg => k_is)
    (case b_fi => k_is)
    (case l_fi => k_is)
    (case c_fi => k_is)
    (case k_fi => k_is)
    (case b_fR => k_is)
    (case l_fR => k_is)
    (case c_fR => k_is)
    (case k_fR => k_is)
    (case b_fa => k_is)
    (case l_fa => k_is)
    (case c_fa => k_is)
    (case k_fa => k_is)
    (case b_fh => k_is)
    (case l_fh => k_is)
    (case c_fh => k_is)
    (case k_fh => k_is)
    (case b_fj => k_is)
    (case l_fj => k_is)
    (case c_fj => k_is)
    (case k_fj => k_is)
    (case b_fu => k_is)
    (case l_fu => k_is)
    (case c_fu => k_is)
    (case k_fu => k_is)
    (case b_fd => k_is)
    (case l_fd => k_is)
    (case c_fd => k_is)
    (case k_fd => k_is)
    (case b_fA => k_is)
    (case l_fA => k_is)
    (case c_fA => k_is)
    (case k_fA => k_is)
    (case b_fL => k_is)
    (case l_fL => k_is)
    (case c_fL => k_is)
    (case k_fL => k_is)
    (case b_gS => k_is)
    (case l_gS => k_is)
    (case c_gS => k_is)
    (case k_gS => k_is)
    (case b_gY => k_is)
    (case l_gY => k_is)
    (case c_gY => k_is)
    (case k_gY => k_is)
    (case b_gD => k_is)
    (case l_gD => k_is)
    (case c_gD => k_is)
    (case k_gD => k_is)
    (case b_wC => k_is)
    (case l_wC => k_is)
    (case c_wC => k_is)
    (case k_wC => k_is)
    (case b_wB => k_is)
    (case l_wB => k_is)
    (case c_wB => k_is)
    (case k_wB => k_is)
    (case b_wR => k_is)
    (case l_wR => k_is)
    (case c_wR => k_is)
    (case k_wR => k_is)
    (case b_wN => k_is)
    (case l_wN => k_is)
    (case c_wN => k_is)
    (case k_wN => k_is)
    (case b_hH => k_is)
    (case l_hH => k_is)
    (case c_hH => k_is)
    (case k_hH => k_is)
    (case b_hA => k_is)
    (case l_hA => k_is)
    (case c_hA => k_is)
    (case k_hA => k_is)
    (case b_hI => k_is)
    (case l_hI => k_is)
    (case c_hI => k_is)
    (case k_hI => k_is)
    (case lc_H => k_is)
    (case v_H => exact rfl)
    (case hd_H => kernel_rfl)
    (case np_H => kernel_rfl)
    (case lc_A => k_is)
    (case v_A => exact rfl)
    (case hd_A => kernel_rfl)
    (case np_A => kernel_rfl)
    (case lc_I => k_is)
    (case v_I => exact rfl)
    (case hd_I => kernel_rfl)
    (case np_I => kernel_rfl)
    (case b_MOST_THINGS => k_is)
    (case b_MOST_LOOKED_THROUGH => k_is)
    (case z_zip => k_is)
    (case z_range => k_is)
    (case z_isinstance => k_is)
    (case z_len => k_is)
    (case z_list => k_is)
    (case z_min => k_is)
    (case z_max => k_is)
    (case z_tuple => k_is)
    (case z_sorted => k_is)
    (case z_all => k_is)
    (case z_any => k_is)
    (case z_bool => k_is)
    (case z_int => k_is)
    (case z_repr => k_is)
    (case z_abs => k_is)
    (case z_set => k_is)
    (case z_enumerate => k_is)
    (case z_dict => k_is)
    (case z_ValueError => k_is)
    (case aS => k_is)
    (case bS => k_is)
    (case hn => k_is)
    (case ht => k_is)
    (case lS => k_is)
    (case tS => k_is)
    (case a0 => k_is)
    (case hg0 => k_is)
    (case hk0 => k_is)
    (case hs0 => k_is)
    (case hd0 => k_is)
    (case ha0 => k_is)
    (case hm0 => k_is)
    (case lc0 => k_is)
    (case ty0 => k_is)
    (case ss0 => k_is)
    (case sv0 => k_is)
    (case a1 => k_is)
    (case hg1 => k_is)
    (case hk1 => k_is)
    (case hs1 => k_is)
    (case hd1 => k_is)
    (case ha1 => k_is)
    (case hm1 => k_is)
    (case lc1 => k_is)
    (case ty1 => k_is)
    (case ss1 => k_is)
    (case sv1 => k_is)
    (case a2 => k_is)
    (case hg2 => k_is)
    (case hk2 => k_is)
    (case hs2 => k_is)
    (case hd2 => k_is)
    (case ha2 => k_is)
    (case hm2 => k_is)
    (case lc2 => k_is)
    (case ty2 => k_is)
    (case ss2 => k_is)
    (case sv2 => k_is)
    (case a3 => k_is)
    (case hg3 => k_is)
    (case hk3 => k_is)
    (case hs3 => k_is)
    (case hd3 => k_is)
    (case ha3 => k_is)
    (case hm3 => k_is)
    (case lc3 => k_is)
    (case ty3 => k_is)
    (case ss3 => k_is)
    (case sv3 => k_is)
    (case a4 => k_is)
    (case hg4 => k_is)
    (case hk4 => k_is)
    (case hs4 => k_is)
    (case hd4 => k_is)
    (case ha4 => k_is)
    (case hm4 => k_is)
    (case lc4 => k_is)
    (case ty4 => k_is)
    (case ss4 => k_is)
    (case sv4 => k_is)
    (case a5 => k_is)
    (case hg5 => k_is)
    (case hk5 => k_is)
    (case hs5 => k_is)
    (case hd5 => k_is)
    (case ha5 => k_is)
    (case hm5 => k_is)
    (case lc5 => k_is)
    (case ty5 => k_is)
    (case ss5 => k_is)
    (case sv5 => k_is)
    (case a6 => k_is)
    (case hg6 => k_is)
    (case hk6 => k_is)
    (case hs6 => k_is)
    (case hd6 => k_is)
    (case ha6 => k_is)
    (case hm6 => k_is)
    (case lc6 => k_is)
    (case ty6 => k_is)
    (case ss6 => k_is)
    (case sv6 => k_is)
    (case a7 => k_is)
    (case hg7 => k_is)
    (case hk7 => k_is)
    (case hs7 => k_is)
    (case hd7 => k_is)
    (case ha7 => k_is)
    (case hm7 => k_is)
    (case lc7 => k_is)
    (case ty7 => k_is)
    (case ss7 => k_is)
    (case sv7 => k_is)
    (case a8 => k_is)
    (case hg8 => k_is)
    (case hk8 => k_is)
    (case hs8 => k_is)
    (case hd8 => k_is)
    (case ha8 => k_is)
    (case hm8 => k_is)
    (case lc8 => k_is)
    (case ty8 => k_is)
    (case ss8 => k_is)
    (case sv8 => k_is)
    (case s00 => k_is)
    (case s01 => k_is)
    (case s02 => k_is)
    (case s03 => k_is)
    (case s04 => k_is)
    (case s05 => k_is)
    (case s06 => k_is)
    (case s07 => k_is)
    (case s08 => k_is)
    (case s10 => k_is)
    (case s11 => k_is)
    (case s12 => k_is)
    (case s13 => k_is)
    (case s14 => k_is)
    (case s15 => k_is)
    (case s16 => k_is)
    (case s17 => k_is)
    (case s18 => k_is)
    (case s20 => k_is)
    (case s21 => k_is)
    (case s22 => k_is)
    (case s23 => k_is)
    (case s24 => k_is)
    (case s25 => k_is)
    (case s26 => k_is)
    (case s27 => k_is)
    (case s28 => k_is)
    (case s30 => k_is)
    (case s31 => k_is)
    (case s32 => k_is)
    (case s33 => k_is)
    (case s34 => k_is)
    (case s35 => k_is)
    (case s36 => k_is)
    (case s37 => k_is)
    (case s38 => k_is)
    (case s40 => k_is)
    (case s41 => k_is)
    (case s42 => k_is)
    (case s43 => k_is)
    (case s44 => k_is)
    (case s45 => k_is)
    (case s46 => k_is)
    (case s47 => k_is)
    (case s48 => k_is)
    (case s50 => k_is)
    (case s51 => k_is)
    (case s52 => k_is)
    (case s53 => k_is)
    (case s54 => k_is)
    (case s55 => k_is)
    (case s56 => k_is)
    (case s57 => k_is)
    (case s58 => k_is)
    (case s60 => k_is)
    (case s61 => k_is)
    (case s62 => k_is)
    (case s63 => k_is)
    (case s64 => k_is)
    (case s65 => k_is)
    (case s66 => k_is)
    (case s67 => k_is)
    (case s68 => k_is)
    (case s70 => k_is)
    (case s71 => k_is)
    (case s72 => k_is)
    (case s73 => k_is)
    (case s74 => k_is)
    (case s75 => k_is)
    (case s76 => k_is)
    (case s77 => k_is)
    (case s78 => k_is)
    (case s80 => k_is)
    (case s81 => k_is)
    (case s82 => k_is)
    (case s83 => k_is)
    (case s84 => k_is)
    (case s85 => k_is)
    (case s86 => k_is)
    (case s87 => k_is)
    (case s88 => k_is)
    (case xc4 => k_exc)
    (case kp4 => k_is)
