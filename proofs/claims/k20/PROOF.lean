import PyProof.Rows.All
import Wide.All
import OpenK.AllK
import Wide.FinOn
import PyProof.EqAt
import PyProof.EqKinds
import PyProof.TupleCall
import PySem.Challenge.RW_sparecut_k20_trees_known
import HandS.ForMost
import HandS.Evl
import HandS.Conv
import HandS.Exc
import HandS.ExcOwn
import HandS.ExcInit
import HandS.ExcValue
import HandS.ExcIs
import KE.KExcIs
import KE.KxText
import HandS.AnyAll
import HandS.GenOver
import HandS.GenList
import HandS.SortInts
import HandS.TupAny
import HandS.TupMul
import HandS.Strs
import HandS.IsInst
import HandS.EndTab
import HandS.EndOwn
import HandS.SetFor
import KE.KNestM
import KE.GoesEnum
import HandS.FStr
import HandS.RaiseMore
import KE.DatumOrd
import HandS.Zip
import HandS.Style
import HandS.RevRange
import HandS.TryOnly
import HandS.WordsExc
import KE.LtData
import HandS.TupLe
import HandS.ExcField
import HandS.Dict
import HandS.More
import HandS.WordsDict
import HandS.DictComp
import HandS.Deep
import HandS.Rev
import HandS.Text
import HandS.StrMore
import KE.IntTextLaws
set_option Elab.async false
set_option linter.all false
set_option maxRecDepth 100000
set_option maxHeartbeats 2000000
namespace Nw
open PySem PySem.Spec PyProof.Rows L2
/-! ### readings that hide the heap: what is new is told by its facts alone -/
theorem same_new {H : Hp} {p : Addr} {o : HO} (h : H p = none) : Same H (upd H p o) := fun b x e => by
  rw [upd_ne (ne_of_none e h)]
  exact e
theorem sqt {K : PySem.W.Frag} {H H' : Hp} {a : Addr} {xs : List V} (e : Same H H') (h : SqT K H a xs) : SqT K H' a xs := by
  rcases h with (h | ⟨o, h⟩) | h
  · exact .inl (.inl (e _ _ h))
  · exact .inl (.inr ⟨o, e _ _ h⟩)
  · exact .inr h
/-- a new object o at a place of its own -/
def New (H : Hp) (o : HO) (Q : VK) : Prop := ∀ p H2, H p = none → Same H H2 → H2 p = some o → (∀ b, b ≠ p → H2 b = H b) → Q (.ref p) H2
theorem New.to {H : Hp} {o : HO} {Q : VK} (h : New H o Q) : ∀ p, H p = none → Q (.ref p) (upd H p o) := fun p n => h p _ n (same_new n) upd_same fun b nb => upd_ne nb
section
variable {X : Cx} {e : Expr} {es : List Expr} {t t' : TE} {ta : TA} {pos : Pos}
theorem pe_weak (h : PE X e t) (i : ∀ σ H Q, t' σ H Q → t σ H Q) : PE X e t' := ⟨fun pins s σ H Q I q => h.run pins s σ H Q I (i σ H Q q)⟩
theorem op_weak {f : Value → Value → Sem Value} {r r' : R2} (h : OpR X f r) (i : ∀ x y H Q, r' x y H Q → r x y H Q) : OpR X f r' := fun pins s σ H x y v u Q I rx ry q => h pins s σ H x y v u Q I rx ry (i x y H Q q)
theorem call_weak {f : Value} {r r' : List V → Hp → VK → Prop} (h : CallR X f r) (i : ∀ xs H Q, r' xs H Q → r xs H Q) : CallR X f r' := fun pins s σ H xs us Q I rx q => h pins s σ H xs us Q I rx (i xs H Q q)
theorem mt_weak {id : String} {r r' : V → List V → Hp → VK → Prop} (h : MtR X id r) (i : ∀ x xs H Q, r' x xs H Q → r x xs H Q) : MtR X id r' := fun pins s σ H x xs v us Q I rx rs q => h pins s σ H x xs v us Q I rx rs (i x xs H Q q)
theorem sl_weak {r r' : V → Option Int → Option Int → Hp → VK → Prop} (h : SlR X r) (i : ∀ x lo hi H Q, r' x lo hi H Q → r x lo hi H Q) : SlR X r' := fun pins s σ H x v vl vu lo hi sl Q I rx a b c q => h pins s σ H x v vl vu lo hi sl Q I rx a b c (i x lo hi H Q q)
/-- what follows may be asked for less -/
def clA (t : TA) : TA := fun σ H R => ∃ R' : List V → Hp → Prop, (∀ xs H1, R' xs H1 → R xs H1) ∧ t σ H R'
theorem pa_cl (h : PA X es ta) : PA X es (clA ta) := ⟨fun ps pins s σ H Q I ⟨R', i, q⟩ => thn (h.run ps pins s σ H R' I q) fun us s1 ⟨vs, H1, I1, r1, q1⟩ => ⟨vs, H1, I1, r1, i vs H1 q1⟩⟩
def clE (t : TE) : TE := fun σ H R => ∃ R' : VK, (∀ v H1, R' v H1 → R v H1) ∧ t σ H R'
theorem pe_cl (h : PE X e t) : PE X e (clE t) := ⟨fun pins s σ H Q I ⟨R', i, q⟩ => thn (h.run pins s σ H R' I q) fun u s1 ⟨v, H1, I1, r1, q1⟩ => ⟨v, H1, I1, r1, i v H1 q1⟩⟩
def nLst (t : TA) : TE := fun σ H Q => t σ H fun xs H1 => xs.length ≤ sizeLine ∧ New H1 (.lst xs) Q
def nTup (t : TA) : TE := fun σ H Q => t σ H fun xs H1 => xs.length ≤ sizeLine ∧ New H1 (.tup xs) Q
theorem pe_lstN (h : PA X es ta) : PE X (.List es pos) (nLst ta) := pe_weak (pe_lst (pa_cl h)) fun _ _ _ q => ⟨_, fun _ _ z => ⟨z.1, z.2.to⟩, q⟩
theorem pe_tupN {x1} (h : PA X es ta) : PE X (.Tuple es x1 pos) (nTup ta) := pe_weak (pe_tup (pa_cl h)) fun _ _ _ q => ⟨_, fun _ _ z => ⟨z.1, z.2.to⟩, q⟩
/-- xs + ys (lists) -/
def rCatN : R2 := fun x y H Q => ∃ p q xs ys, x = .ref p ∧ y = .ref q ∧ H p = some (.lst xs) ∧ H q = some (.lst ys) ∧ xs.length + ys.length ≤ sizeLine ∧ New H (.lst (xs ++ ys)) Q
theorem op_catN : OpR X (binaryOp .Add) rCatN := op_weak op_cat fun x y H Q ⟨p, q, xs, ys, h1, h2, h3, h4, h5, h6⟩ => ⟨p, q, xs, ys, h1, h2, h3, h4, h5, h6.to⟩
/-- a tuple of xs, new or not -/
def ResT (H : Hp) (xs : List V) (Q : VK) : Prop := ∀ p H2, Same H H2 → H2 p = some (.tup xs) → Q (.ref p) H2
theorem call_list_ofN : CallR X (.type "list") (fun xs H Q => ∃ p ys, xs = [.ref p] ∧ (SqL X.K H p ys ∨ SqT X.K H p ys) ∧ New H (.lst ys) Q) := call_weak call_list_of fun _ _ _ ⟨p, ys, h1, h2, h3⟩ => ⟨p, ys, h1, h2, h3.to⟩
theorem call_tuple_ofN : CallR X (.type "tuple") (fun xs H Q => ∃ p ys, xs = [.ref p] ∧ SqL X.K H p ys ∧ New H (.tup ys) Q) := call_weak call_tuple_of fun _ _ _ ⟨p, ys, h1, h2, h3⟩ => ⟨p, ys, h1, .inl ⟨h2, h3.to⟩⟩
theorem sl_listN : SlR X (fun x lo hi H Q => ∃ a xs, x = .ref a ∧ SqL X.K H a xs ∧ New H (.lst (cutV xs lo hi)) Q) := sl_weak sl_list fun _ _ _ _ _ ⟨a, xs, h1, h2, h3⟩ => ⟨a, xs, h1, h2, h3.to⟩
end
/-! ### data by its values -/
theorem dp_bls {K : PySem.W.Frag} {H : Hp} : ∀ bs : List Bool, DpAll K H (bs.map V.bl) (bs.map PyData.bool)
  | [] => .nil
  | b :: r => .cons (.bl b) (dp_bls r)
theorem dp_ints {K : PySem.W.Frag} {H : Hp} : ∀ ns : List Int, DpAll K H (ns.map V.int) (ns.map PyData.int)
  | [] => .nil
  | b :: r => .cons (.int b) (dp_ints r)
/-- flat data: numbers, truths, None -/
def flatD : PyData → Bool
  | .none | .bool _ | .int _ => true
  | _ => false
theorem flat_lay : ∀ ds : List PyData, ds.all flatD = true → PyData.canLayAll0 ds = true
  | [], _ => rfl
  | d :: r, h => by
    rw [List.all_cons, Bool.and_eq_true] at h
    show (PyData.canLay0 d && PyData.canLayAll0 r) = true
    rw [flat_lay r h.2, Bool.and_true]
    cases d <;> first | rfl | exact Bool.noConfusion h.1
theorem flat_depth : ∀ ds : List PyData, ds.all flatD = true → PyData.depthAll ds ≤ 1
  | [], _ => by decide
  | d :: r, h => by
    rw [List.all_cons, Bool.and_eq_true] at h
    have ih := flat_depth r h.2
    have hd : PyData.depth d ≤ 1 := by
      cases d <;> first | decide | exact Bool.noConfusion h.1 | exact Nat.zero_le _ | exact Nat.le_refl _
    show Nat.max (PyData.depth d) (PyData.depthAll r) ≤ 1
    exact Nat.max_le.mpr ⟨hd, ih⟩
theorem shaped_list {ds : List PyData} (h : ds.all flatD = true) : SeqAt.shaped (.list ds) = true := by
  have e := flat_depth ds h
  have e2 : PyData.depth (.list ds) ≤ 64 := by
    show PyData.depthAll ds + 1 ≤ 64
    omega
  show (PyData.canLayAll0 ds && decide (PyData.depth (.list ds) ≤ 64)) = true
  rw [flat_lay ds h, decide_eq_true e2]
  rfl
theorem shaped_tuple {ds : List PyData} (h : ds.all flatD = true) : SeqAt.shaped (.tuple ds) = true := by
  have e := flat_depth ds h
  have e2 : PyData.depth (.tuple ds) ≤ 64 := by
    show PyData.depthAll ds + 1 ≤ 64
    omega
  show (PyData.canLayAll0 ds && decide (PyData.depth (.tuple ds) ≤ 64)) = true
  rw [flat_lay ds h, decide_eq_true e2]
  rfl
theorem flat_bls (bs : List Bool) : (bs.map PyData.bool).all flatD = true := by
  rw [List.all_map, List.all_eq_true]
  exact fun _ _ => rfl
theorem flat_ints (ns : List Int) : (ns.map PyData.int).all flatD = true := by
  rw [List.all_map, List.all_eq_true]
  exact fun _ _ => rfl
theorem eqv_self {d : PyData} (h : SeqAt.shaped d = true) : PyData.eqv d d = true := SeqAt.eqv_refl d (SeqAt.canLay_of_shaped h)
end Nw
namespace Nw
open PySem PySem.Spec PyProof.Rows L2
section
variable {X : Cx}
theorem cr_sortedN : CallR X (.builtin "sorted") (fun vs H Q => ∃ (a : Addr) (ns : List Int), vs = [V.ref a] ∧ SqL X.K H a (ns.map V.int) ∧ ∀ ns' : List Int, ns'.Perm ns → ns'.Pairwise (· ≤ ·) → New H (.lst (ns'.map V.int)) Q) :=
  call_weak cr_sortedI fun _ _ _ ⟨a, ns, h1, h2, h3⟩ => ⟨a, ns, h1, h2, fun ns' p hp hs np => (h3 ns' hp hs).to p np⟩
theorem cutV_all {xs : List V} {lo hi : Option Int} (h : HT.sIx xs.length 0 lo = 0 ∧ HT.sIx xs.length xs.length hi = xs.length) : cutV xs lo hi = xs := by
  unfold cutV
  rw [h.1, h.2]
  exact List.take_length
theorem sl_tupN : SlR X (fun x lo hi H Q => ∃ a xs, x = .ref a ∧ H a = some (.tup xs) ∧ ResT H (cutV xs lo hi) Q) := sl_weak sl_tupA fun _ lo hi H Q ⟨a, xs, h1, h2, h3⟩ =>
  ⟨a, xs, h1, .of h2, fun z => h3 a H (Same.refl H) (by rw [cutV_all z]; exact h2), fun _ p np => h3 p _ (same_new np) upd_same⟩
theorem op_catTN : OpR X (binaryOp .Add) (fun x y H Q => ∃ a b xs ys, x = .ref a ∧ y = .ref b ∧ H a = some (.tup xs) ∧ H b = some (.tup ys) ∧ xs.length + ys.length ≤ sizeLine ∧ ResT H (xs ++ ys) Q) :=
  op_weak op_catA fun _ _ H Q ⟨a, b, xs, ys, h1, h2, h3, h4, h5, h6⟩ => ⟨a, b, xs, ys, h1, h2, .of h3, .of h4, h5, fun z => h6 b H (Same.refl H) (by rw [z]; exact h4), fun _ z => h6 a H (Same.refl H) (by rw [z, List.append_nil]; exact h3), fun _ _ p np => h6 p _ (same_new np) upd_same⟩
theorem op_repTN : OpR X (binaryOp .Mult) (fun x y H Q => ∃ l k xs, x = .ref l ∧ y = .int k ∧ H l = some (.tup xs) ∧ xs ≠ [] ∧ 2 ≤ k ∧ k ≤ 1000 ∧ xs.length ≤ 1000 ∧ ResT H (List.replicate k.toNat xs).flatten Q) :=
  op_weak op_repT fun _ _ H Q ⟨l, k, xs, h1, h2, h3, h4, h5, h6, h7, h8⟩ => ⟨l, k, xs, h1, h2, .of h3, h4, h5, h6, h7, fun p np => h8 p _ (same_new np) upd_same⟩
/-! the same rules with the written part by its name (for comprehensions' blocks) -/
variable {K : PySem.W.Frag}
theorem ix_tupB (h : X.K = K) : IxR X (rIxT K) := by subst h; exact ix_tup
theorem ix_listB (h : X.K = K) : IxR X (rIxL K) := by subst h; exact ix_list
theorem op_in_seqB (h : X.K = K) : OpR X (compareOp .In) (rIn K false) := by subst h; exact op_in_seq
theorem op_notIn_seqB (h : X.K = K) : OpR X (compareOp .NotIn) (rIn K true) := by subst h; exact op_notIn_seq
theorem call_len_seqB (h : X.K = K) : CallR X (.builtin "len") (fun xs H Q => ∃ p ys, xs = [.ref p] ∧ (SqL K H p ys ∨ SqT K H p ys) ∧ Q (.int ys.length) H) := by subst h; exact call_len_seq
theorem call_isiB (h : X.K = K) : CallR X (.builtin "isinstance") (rIsi K) := by subst h; exact call_isi
theorem op_eqDB (h : X.K = K) (hu : X.A.units + 64 < cLine) : OpR X (compareOp .Eq) (rEqD K) := by subst h; exact op_eqD hu
theorem op_neDB (h : X.K = K) (hu : X.A.units + 64 < cLine) : OpR X (compareOp .NotEq) (rNeD K) := by subst h; exact op_neD hu
end
end Nw
namespace Ev1
open PySem PySem.Spec PyProof.Rows L2 Nw
/-! ### exceptions as values -/
/-- at a an exception of the class cls, its dict d -/
def ExV (cls : Value) (d : Option Addr) (a : Addr) : HO := .ext fun h => ∃ (oe : Obj) (vs : Array Value), h.get? a = some oe ∧ Zc cls d oe ∧ oe.data = .fields vs
/-- an exception that was made of the class cls, its dict d: it stands at a place of its own -/
def Made (H1 : Hp) (cls : Value) (d : Option Addr) (Q : VK) : Prop := ∀ a H3, H1 a = none → Same H1 H3 → H3 a = some (ExV cls d a) → Q (.ref a) H3
theorem pe_made {X : Cx} {e : Expr} {t : L2.St → Hp → XK → Prop} (m : PMk X e t) : PE X e (fun σ H Q => t σ H fun cls d H1 => Made H1 cls d Q) := by
  refine ⟨fun pins s σ H Q I h => thn (m pins s σ H _ I h) fun u s1 z => ?_⟩
  obtain ⟨a, oe, vs, sI, H1, cls, d, rfl, J, k, na, ha, hz, hd, _, ha1, os, ag, _, q⟩ := z
  have new : ObjOk X.prog X.w (upd H1 a (ExV cls d a)) s1.heap a (ExV cls d a) := ⟨⟨oe, vs, ha, hz, hd⟩, ⟨oe, ha⟩, fun h1 h2 ⟨o, v, y, r⟩ i => ⟨o, v, i o y, r⟩⟩
  exact ⟨.ref a, upd H1 a (ExV cls d a), J.call' (ch := []) os (Un.laidN k na ha1) (J.hok.laidN k ha1 new) ag (fun b y => absurd y (by simp)), rfl, q a _ ha1 (same_new ha1) upd_same⟩
/-- at a an exception of the class D, with the field at = y -/
def ExF (H : Hp) (a D : Addr) (y : V) : Prop := ∃ dx, H a = some (ExV (.ref D) (some dx) a) ∧ H dx = some (.xd [(("at" : Str), y)])
/-- at a an exception of the class D -/
def ExAt (H : Hp) (a D : Addr) : Prop := H a = some (ExO (.ref D) a) ∨ ∃ y, ExF H a D y
theorem ExF.same {H H' : Hp} {a D : Addr} {y : V} (h : ExF H a D y) (s : Same H H') : ExF H' a D y := by
  obtain ⟨dx, h1, h2⟩ := h
  exact ⟨dx, s _ _ h1, s _ _ h2⟩
theorem ExAt.same {H H' : Hp} {a D : Addr} (h : ExAt H a D) (s : Same H H') : ExAt H' a D := by
  rcases h with h | ⟨y, h⟩
  · exact .inl (s _ _ h)
  · exact .inr ⟨y, h.same s⟩
theorem notCls_of {o : Obj} {vs : Array Value} (hd : o.data = .fields vs) : PySem.W.notCls o = true := by
  unfold PySem.W.notCls
  rw [hd]
section
variable {X : Cx} {pins : List (Addr × Obj)} {σ : L2.St} {H : Hp} {s : Shared} {a D : Addr} {y : V}
theorem ExF.inst (I : Inv X pins σ H s) (h : ExF H a D y) : ∃ ox od u, PySem.W.InstAt s.heap a ox D (some od) ∧ PySem.W.lookIn "at" od = some (some u) ∧ RelV y u := by
  obtain ⟨dx, h1, h2⟩ := h
  have z1 : ObjOk X.prog X.w H s.heap a (.ext fun h => ∃ (oe : Obj) (vs : Array Value), h.get? a = some oe ∧ Zc (.ref D) (some dx) oe ∧ oe.data = .fields vs) := I.hok a _ h1
  obtain ⟨⟨oe, vs, ha, ⟨hc, hd⟩, hv⟩, _⟩ := z1
  have z2 : ObjOk X.prog X.w H s.heap dx (.xd [(("at" : Str), y)]) := I.hok dx _ h2
  obtain ⟨mA, hn, hr⟩ := z2
  obtain ⟨od, ho, hl⟩ := lookIn_ns hn
  have l : List.lookup ("at" : Str) [(("at" : Str), y)] = some y := by simp [List.lookup]
  obtain ⟨u, hu, ru⟩ := RelO.some_of (v := y) (o := mA "at") (by rw [← l]; exact hr "at")
  exact ⟨oe, od, u, ⟨ha, hc, notCls_of hv, by rw [hd]; exact ho⟩, by rw [hl, hu], ru⟩
theorem ExAt.inst (I : Inv X pins σ H s) (h : ExAt H a D) : ∃ ox od, PySem.W.InstAt s.heap a ox D od := by
  rcases h with h | ⟨y, h⟩
  · obtain ⟨⟨oe, vs, ha, ⟨hc, hd⟩, hv, _⟩, _⟩ := I.hok a _ h
    exact ⟨oe, none, ⟨ha, hc, notCls_of hv, by rw [hd]; exact trivial⟩⟩
  · obtain ⟨ox, od, _, J, _⟩ := h.inst I
    exact ⟨ox, some od, J⟩
end
/-- X(e), X an own class without own __init__ -/
def tExN (C : Addr) (te : TE) : TE := fun σ H Q => te σ H fun _ H1 => ∀ a H2, H1 a = none → Same H1 H2 → H2 a = some (ExO (.ref C) a) → Q (.ref a) H2
theorem pe_excN {X : Cx} {C : Addr} {bmB : List Value} {B newId initId : String} {x : Str} {e : Expr} {te : TE} {p pos : Pos} (F : ExcBaseFacts B newId initId bmB) (q : PySem.W.excIn X.K C bmB newId = true) (gC : X.mg x = some (.ref C)) (kC : PySem.W.keepIn X.K (.ref C) = true) (hg : Gl X x)
    (he : PE X e te) (hs : starEach [e] X.env = (false, eval e X.env) :: starEach [] X.env := by rfl) (hdb : (x == ("__debug__" : Str)) = false := by decide) : PE X (.Call (.Name x p) [e] [] pos) (tExN C te) :=
  pe_weak (pe_exc1 F q gC kC hg (pe_cl he) hs hdb) fun _ _ _ h => ⟨_, fun _ _ z a na => z a _ na (same_new na) upd_same, h⟩
/-- isinstance(e, c) of an exception -/
def rIsX (K : PySem.W.Frag) : List V → Hp → VK → Prop := fun xs H Q => ∃ (a D : Addr) (c : V) (cv : Value) (b : Bool), xs = [.ref a, c] ∧ ExAt H a D ∧ ExcC K D ∧ (∀ u, RelV c u → u = cv) ∧ PySem.W.kitOne K (.ref D) cv = some b ∧ Q (.bl b) H
theorem call_isX {X : Cx} : CallR X (.builtin "isinstance") (rIsX X.K) := by
  intro pins s σ H xs us Q I r h
  obtain ⟨a, D, c, cv, b, rfl, hE, C, hcv, e, q⟩ := h
  cases r with
  | cons rx rr =>
    cases rr with
    | cons rt rr =>
      cases rr
      cases rx
      have ec := hcv _ rt
      subst ec
      obtain ⟨ox, od, J⟩ := hE.inst I
      have cl : (PySem.W.clsIn X.K D).isSome = true := by
        obtain ⟨cd, hc, _⟩ := PySem.W.any_some C.hd
        rw [hc]
        rfl
      exact PySem.W.kia_one (PySem.W.kitx_exc cl C.hg C.hk C.hs C.ha C.hn C.ht C.hm) I.kIn J e (fun z => nomatch z) fun tk => ⟨.bl b, H, I.kept (t' := tk) fun _ _ z => z, rfl, q⟩
/-- e.at of an exception -/
def tAtX (K : PySem.W.Frag) (te : TE) : TE := fun σ H Q => te σ H fun x H1 => ∃ (a D : Addr) (y : V), x = .ref a ∧ ExF H1 a D y ∧ ExcC K D ∧ PySem.W.findIn K (.ref D) "at" = some none ∧ Q y H1
theorem pe_atX {X : Cx} {e : Expr} {te : TE} {pos : Pos} (he : PE X e te) (hb : attributeBase e "at" X.env (eval e X.env) = eval e X.env := by rfl) : PE X (.Attribute e "at" pos) (tAtX X.K te) := by
  refine ⟨fun pins s σ H Q I h => attr_of hb (thn (he.run pins s σ H _ I h) fun u s1 hh => ?_)⟩
  obtain ⟨x, H1, I1, rx, a, D, y, rfl, hE, C, nf, q⟩ := hh
  cases rx
  obtain ⟨ox, od, u, J, l, ru⟩ := hE.inst I1
  exact HandSPX.exc_get I1.kIn J C.hg C.hk C.hs (PySem.W.findObj_own C.hd nf rfl l) (handed_of ru) ⟨y, H1, I1.tok _, ru, q⟩
/-- the promise of «def __init__(self, at): self.at = at» -/
def spInit (K : PySem.W.Frag) : Sp := fun vs H Q _ => ∃ (a C : Addr) (y : V), vs = [.ref a, y] ∧ OexC K C ∧ PySem.W.findIn K (.ref C) "at" = some none ∧ H a = some (exo a C none) ∧
  ∀ dx, H dx = none → dx ≠ a → Q .non (upd (upd H dx (exd dx [(("at" : Str), y)])) a (exo a C (some dx)))
theorem del_new {H1 : Hp} {a dx : Addr} {o1 o2 o3 : HO} (na : H1 a = none) (ne : dx ≠ a) : del (upd (upd (upd H1 a o1) dx o2) a o3) a = upd H1 dx o2 := by
  funext b
  by_cases hb : b = a
  · subst hb
    rw [del_same, upd_ne (Ne.symm ne), na]
  · rw [del_ne hb, upd_ne hb]
    by_cases hd : b = dx
    · subst hd
      rw [upd_same, upd_same]
    · rw [upd_ne hd, upd_ne hd, upd_ne hb]
/-- what C(y) asks, C with that __init__: the exception and its field -/
theorem made_F {K : PySem.W.Frag} {C : Addr} {y : V} {H1 : Hp} {Q : VK} (T : OexC K C) (nf : PySem.W.findIn K (.ref C) "at" = some none) (h : ∀ a H2, H1 a = none → Same H1 H2 → ExF H2 a C y → Q (.ref a) H2) :
    [y].length ≤ 1000 ∧ ∀ a, H1 a = none → spInit K (.ref a :: ([y] ++ [])) (upd H1 a (exo a C none)) (fun v H2 => v = .non ∧ ∃ (d : Addr) (fs : List (Str × V)), H2 a = some (exo a C (some d)) ∧ H2 d = some (exd d fs) ∧ H1 d = none ∧
      Made (upd (del H2 a) d (.xd fs)) (Value.ref C) (some d) Q) (fun _ _ _ => False) := by
  refine ⟨by simp, fun a na => ⟨a, C, y, rfl, T, nf, upd_same, fun dx nd ne => ?_⟩⟩
  have nd1 : H1 dx = none := by
    rw [upd_ne ne] at nd
    exact nd
  refine ⟨rfl, dx, [(("at" : Str), y)], upd_same, by rw [upd_ne ne, upd_same], nd1, ?_⟩
  rw [del_new na ne, upd_upd]
  intro b H3 nb s3 e3
  have sd : Same H1 (upd H1 dx (.xd [(("at" : Str), y)])) := same_new nd1
  exact h b H3 (sd.free nb) (sd.trans s3) ⟨dx, e3, s3 _ _ upd_same⟩
end Ev1
namespace Gx
open PySem PySem.Spec PyProof.Rows L2 GxR
/-! ### any, all of a generator expression whose element is run by the layer's own rules -/
/-- the generator's frame running, awake under any | all -/
abbrev gCx (X : Cx) (ge : Expr) (s : Shared) (H : Hp) (cenv : Env) (it : Addr) (fp : List Addr) (pn : List (Addr × Obj)) : Cx :=
  { X with
    s_0 := s
    H_0 := H
    env := cenv
    outer := X.stack
    stack := cenv :: X.stack
    ex := fp
    fn := fun _ => false
    pn := pn
    xe := fun _ _ => False
    A := X.A.in1.in1.over (.compLoop ge 0 (.ref it) .none cenv) [] }
theorem room_gen {k : Nat} {X : Cx} {elt : Expr} {gs : List Comprehension} {scope : Scope} {pos : Pos} {s : Shared} {H : Hp} {cenv : Env} {it : Addr} {fp : List Addr} {pn : List (Addr × Obj)} (r : Room (k + 1) X.A) :
    Room k (gCx X (.GeneratorExp elt gs scope pos) s H cenv it fp pn).A := by
  refine ⟨r.hd, ?_, ?_⟩
  · have := r.dp
    show X.A.depth + 0 + 1 + 3 * k + 5 < recursionLimit
    omega
  · have := r.un
    show X.A.units + 1 + 1 + 0 + 3 + 16 * k + 200 < cLine
    omega
/-- gens, drawn and toks say nothing but that all are bare -/
theorem inv_gens {X : Cx} {pins : List (Addr × Obj)} {σ : L2.St} {H : Hp} {s s' : Shared} (I : Inv X pins σ H s) (hh : s'.heap = s.heap) (ho : s'.os = s.os) (hb : AllBare s'.gens) : Inv X pins σ H s' := by
  obtain ⟨h, g, d, t, o⟩ := s
  obtain ⟨h', g', d', t', o'⟩ := s'
  dsimp only at hh ho hb
  subst hh ho
  exact { ok := I.ok, os := I.os, bare := hb, base := I.base, loc := I.loc, cell := I.cell, free := I.free, freeC := I.freeC, pin := I.pin, hok := I.hok, len := I.len }
theorem bare_set {s : Shared} {g : Nat} {x : GenState} (h : AllBare s.gens) (hx : x.bare = true) : AllBare (s.setGen g x).gens := by
  intro y hy
  have hy' : y ∈ s.gens.setIfInBounds g x := hy
  obtain ⟨i, hi, e⟩ := Array.mem_iff_getElem.mp hy'
  by_cases hg : g = i
  · subst hg
    rw [Array.getElem_setIfInBounds_self] at e
    rw [← e]
    exact hx
  · rw [Array.getElem_setIfInBounds_ne (by simpa using hi) hg] at e
    rw [← e]
    exact h _ (Array.getElem_mem _)
section
variable {X : Cx} {pins : List (Addr × Obj)} {σ : L2.St} {H : Hp} {s : Shared}
/-- what the frame of the generator knows as it begins -/
theorem gen_start {ge : Expr} {scope : Scope} {own : List (Str × Nat)} {fp : List Addr} {it a : Addr} {code : Value} {go : Obj} {gs : Array GenState} {tk : Nat} {h5 : Heap} {m : Str → Option Value} (I : Inv X pins σ H s) (hc : X.calm = true) (ok : BlkOk X.N X.env.scope scope own) (hN : X.N.Nodup)
    (nc : ∀ y ∈ scope.names, y.2 ≠ .cell) (hfp : ∀ b ∈ fp, FpOk X pins H b ∧ b < s.heap.objs.size) (fr : (X.A.in1.in1.over (.compLoop ge 0 (.ref it) .none (genEnv scope (cloFrom X.env.cells scope.names []) s.heap.objs.size code builtinsNs X.env)) []).frames = some (genEnv scope (cloFrom X.env.cells scope.names []) s.heap.objs.size code builtinsNs X.env :: X.stack))
    (hg : AllBare gs) (kp : ∀ b o, s.heap.get? b = some o → h5.get? b = some o) (hns : h5.Ns s.heap.objs.size m) (ha : h5.get? a = some go) (ha1 : s.heap.objs.size < a) (hd : ∀ v, go.data ≠ .cell v) :
    Inv (gCx X ge s H (genEnv scope (cloFrom X.env.cells scope.names []) s.heap.objs.size code builtinsNs X.env) it fp [(a, go)]) [] (wipe σ (own.map (·.2))) H { s with gens := gs, toks := tk, heap := h5 } := by
  have cm : ∀ {y : Str} {c : Addr}, (cloFrom X.env.cells scope.names []).lookup y = some c → X.env.cells.lookup y = some c := fun {y c} e => by
    rcases cloFrom_mem (PySem.mem_of_lookup e) with z | ⟨h1, z⟩
    · cases z
    · have q : ∃ c', X.env.cells.lookup y = some c' := by
        rcases ok.free (y, .free) h1 rfl with k | k
        · exact I.ok.has y (.inl k)
        · exact I.ok.has y (.inr k)
      obtain ⟨c', q⟩ := q
      rw [q] at z
      rw [q, z]
      rfl
  have ch : ∀ {y : Str}, scope.names.lookup y = some .free → ∃ c, (cloFrom X.env.cells scope.names []).lookup y = some c := fun {y} e => mem_lookup (cloFrom_has (PySem.mem_of_lookup e))
  have noc : ∀ {y : Str}, scope.names.lookup y ≠ some .cell := fun {y} e => nc _ (PySem.mem_of_lookup e) rfl
  have stL : ∀ b ∈ frs X.stack, b < s.heap.objs.size := fun b hb => by
    obtain ⟨_, o, e, _⟩ := I.stack.mem hb
    exact Heap.lt_size e
  have okG : (gCx X ge s H (genEnv scope (cloFrom X.env.cells scope.names []) s.heap.objs.size code builtinsNs X.env) it fp [(a, go)]).Ok := {
    mod := I.ok.mod
    kind := ok.kind
    glob := I.ok.glob
    blt := rfl
    above := Nat.le_refl _
    inj := fun x y c h1 h2 => I.ok.inj x y c (cm h1) (cm h2)
    has := fun x h => h.elim (fun k => absurd k noc) fun k => ch k
    cab := fun x c h => Bool.noConfusion h
    hd := fun h => I.ok.hd h
    frames := fr
    stk := .inr ⟨rfl, rfl⟩
    exf := fun b hb => ⟨Nat.ne_of_lt (hfp b hb).2, fun x c e => (hfp b hb).1.2.2.2.2.1 x c (cm e)⟩
    bs := I.bs
    bsz := Nat.le_trans I.ok.bsz I.sz
    noex := fun b o e hb => by
      rcases (hfp b hb).1.2.2.2.1 with z | z
      · exact I.ok.noex b o e z
      · exact Nat.lt_irrefl _ (Nat.lt_of_lt_of_le (Heap.lt_size e) (Nat.le_trans I.ok.bsz z))
    exfs := fun b hb z => by
      rcases List.mem_cons.mp (I.stkSub b z) with y | y
      · exact (hfp b hb).1.2.1 y
      · exact (hfp b hb).1.2.2.1 y
    funs := I.stack
    frf := I.stkFree }
  refine { ok := okG, os := rfl, bare := hg, base := Un.kept kp, loc := ⟨m, hns, fun i x v e1 e2 e3 => ?_⟩, cell := fun x c e => ?_, free := I.hok.fresh (Nat.le_refl _), freeC := fun x c e => I.freeC x c (cm e), pin := fun p hp => ?_, hok := I.hok.kept kp, len := (wipe_length _ _).trans I.len }
  · obtain ⟨e2, hi⟩ := wipe_some e2
    have hf : scope.names.lookup x = some .free := by
      have no : ∀ k, scope.names.lookup x = some k → ¬ (k = .local ∨ k = .cell) := fun k hk hh => by
        rcases ok.own _ (PySem.mem_of_lookup hk) hh with z | z
        · obtain ⟨p, hp, hx⟩ := List.mem_map.mp z
          have q := ok.ix p hp
          have hx' : p.1 = x := hx
          rw [hx'] at q
          exact hi (List.mem_map.mpr ⟨p, hp, nodup_ix hN q e1⟩)
        · exact z (List.mem_of_getElem? e1)
      have e3 : Vis scope x := e3
      rcases e3 with k | k | k
      · exact absurd (.inl rfl) (no _ k)
      · exact absurd (.inr rfl) (no _ k)
      · exact k
    have hv := ok.free _ (PySem.mem_of_lookup hf) rfl
    obtain ⟨m0, _, hl⟩ := I.loc
    obtain ⟨u, ru, q⟩ := hl i x v e1 e2 (.inr hv)
    refine ⟨u, ru, .inr ⟨.inr hf, ?_⟩⟩
    rcases q with ⟨k, _⟩ | ⟨_, c, ec, z⟩
    · have k' : X.env.scope.names.lookup x = some .local := k
      rcases hv with y | y
      · have y' : X.env.scope.names.lookup x = some .cell := y
        rw [k'] at y'
        cases y'
      · have y' : X.env.scope.names.lookup x = some .free := y
        rw [k'] at y'
        cases y'
    · obtain ⟨c', e'⟩ := ch hf
      have e2 := cm e'
      rw [ec] at e2
      cases e2
      exact ⟨c, e', z.keeps kp⟩
  · obtain ⟨v, z⟩ := I.cell x c (cm e)
    exact ⟨v, z.keeps kp⟩
  · have hp' : p ∈ [(a, go)] ++ ([] : List (Addr × Obj)) := hp
    have e : p = (a, go) := by simpa using hp'
    subst e
    refine ⟨ha, I.hok.fresh (Nat.le_of_lt ha1), Nat.ne_of_gt ha1, fun z => ?_, hd⟩
    exact Nat.lt_irrefl _ (Nat.lt_trans (stL _ z) ha1)
end
/-- what a turn's way through the generator must reach. stopb: the truth at which any (true), all (false) stops -/
def GEndP (Y : Cx) (σw : L2.St) (stopb : Bool) (Q : VK) : Nat → Shared → Shared → Prop := fun _ _ s => ∃ H', Inv Y [] σw H' s ∧ Q (.bl (!stopb)) H'
def GProto (Y : Cx) (σw : L2.St) (fp : List Addr) (tn : Nat → Heap → Prop) (W : Nat → Nat → Hp → Prop) (stopb : Bool) (Q : VK) : Protocol := fun n _ v s kap => ∃ (k : Bool) (H' : Hp), v = .bool k ∧ Inv Y [] σw H' s ∧
  ((k = stopb ∧ Q (.bl stopb) H') ∨ (k = !stopb ∧ ∃ i m, m < n ∧ W i m H' ∧ ∀ s'' : Shared, s''.heap = s.heap → s''.os = s.os → AllBare s''.gens → kap (.send .none) s''))
section
variable {X : Cx} {elt tg iter : Expr} {ifs : List Expr} {scope : Scope} {gpos : Pos} {s4 : Shared} {H4 : Hp} {cenv : Env} {it : Addr} {fp : List Addr} {pn : List (Addr × Obj)} {J : It} {tn : Nat → Heap → Prop} {g : TG} {tt : TT} {te : TE} {own : List Nat} {σ : L2.St} {stopb : Bool} {Q : VK} {W : Nat → Nat → Hp → Prop}
/-- the turns of the generator's own loop -/
theorem gen_loop (hc : X.calm = true) (hco : cenv.scope.isCoroutine = false) (T : Turn X.prog X.w X.K tg J fp it tn) (hpn : ∀ p ∈ pn, ∀ b ∈ fp, p.1 ≠ b)
    (pg : PG (gCx X (.GeneratorExp elt [⟨tg, iter, ifs, 0⟩] scope gpos) s4 H4 cenv it fp pn) tg g) (pt : PTs (gCx X (.GeneratorExp elt [⟨tg, iter, ifs, 0⟩] scope gpos) s4 H4 cenv it fp pn) ifs tt) (pe : PE (gCx X (.GeneratorExp elt [⟨tg, iter, ifs, 0⟩] scope gpos) s4 H4 cenv it fp pn) elt te)
    (turn : ∀ i m H, W i m H → (J.stop i H ∧ Q (.bl (!stopb)) H) ∨ (J.go i H ∧ ∃ Nx : Hp → Prop, (∀ H', Nx H' → ∃ m', m' < m ∧ W (i + 1) m' H') ∧ ∀ x H', J.yld i H x H' → g x (wipe σ own) H' fun σ2 H2 => wipe σ2 own = wipe σ own ∧ tt σ2 H2 fun b H3 =>
      if b = true then te σ2 H3 fun y H4 => (y = .bl stopb ∧ Q (.bl stopb) H4) ∨ (y = .bl (!stopb) ∧ Nx H4) else Nx H3)) :
    ∀ (m n i : Nat) (s0 s : Shared) (H' : Hp), m < n → W i m H' → Inv (gCx X (.GeneratorExp elt [⟨tg, iter, ifs, 0⟩] scope gpos) s4 H4 cenv it fp pn) [] (wipe σ own) H' s → tn i s.heap → (∀ b ∈ fp, H' b = none) →
      Seg (model X.prog X.w) X.A.in1.in1 (fun n s0 r s1 => r = .ok .next ∧ GEndP (gCx X (.GeneratorExp elt [⟨tg, iter, ifs, 0⟩] scope gpos) s4 H4 cenv it fp pn) (wipe σ own) stopb Q n s0 s1)
        (GProto (gCx X (.GeneratorExp elt [⟨tg, iter, ifs, 0⟩] scope gpos) s4 H4 cenv it fp pn) (wipe σ own) fp tn W stopb Q) n s0
        (.compLoop (.GeneratorExp elt [⟨tg, iter, ifs, 0⟩] scope gpos) 0 (.ref it) .none cenv) ((model X.prog X.w).den (.compLoop (.GeneratorExp elt [⟨tg, iter, ifs, 0⟩] scope gpos) 0 (.ref it) .none cenv)) [] s := by
  intro m
  induction m using Nat.strongRecOn with
  | ind m ih =>
    intro n i s0 s H' hmn w I st nf
    have fpk : ∀ {σ' : L2.St} {H' : Hp} {s' : Shared}, Inv (gCx X (.GeneratorExp elt [⟨tg, iter, ifs, 0⟩] scope gpos) s4 H4 cenv it fp pn) [] σ' H' s' → (∀ b ∈ fp, H' b = none) → ∀ b ∈ fp, FpOk (gCx X (.GeneratorExp elt [⟨tg, iter, ifs, 0⟩] scope gpos) s4 H4 cenv it fp pn) [] H' b := fun {σ' H' s'} I' hn b hb =>
      ⟨hn b hb, (I'.ok.exf b hb).1, I'.ok.exfs b hb, .inl hb, (I'.ok.exf b hb).2, fun p hp => hpn p (by simpa using hp) b hb⟩
    show Seg _ _ _ _ n s0 _ ((compTurn (.GeneratorExp elt [⟨tg, iter, ifs, 0⟩] scope gpos) 0 (.ref it) .none cenv).onRaise (leaving cenv)) [] s
    rw [compTurn_gen, Sem.onRaise_eq_wrap]
    refine seg_bind_wrap (wpAny_standAt ?_)
    rcases turn i m H' w with ⟨stop, q⟩ | ⟨go, Nx, hNx, step⟩
    · refine seg_bind_wrap (thnF (T.done (gCx X (.GeneratorExp elt [⟨tg, iter, ifs, 0⟩] scope gpos) s4 H4 cenv it fp pn) rfl rfl rfl hc i [] s _ H' (fun _ _ => False) I (fpk I nf) st stop) fun r s1 z => ?_)
      obtain ⟨rfl, I1⟩ := z
      exact seg_end (.ok .next) ⟨rfl, H', I1, q⟩
    · refine seg_bind_wrap (thnF (T.item (gCx X (.GeneratorExp elt [⟨tg, iter, ifs, 0⟩] scope gpos) s4 H4 cenv it fp pn) rfl rfl rfl hc i [] s _ H' (fun _ _ => False) I (fpk I nf) st go) fun r s1 z => ?_)
      obtain ⟨u, rfl, z⟩ := z
      refine seg_bind_wrap (thnF z fun _ s2 z2 => ?_)
      obtain ⟨x, H2, I2, r2, y2, st2, n2⟩ := z2
      have P2 := I2.pinned (fpk I2 n2) (T.obj _ _ st2)
      refine seg_bind_wrap (thnF (pg.run _ s2 _ H2 x u _ P2 r2 (step x H2 y2)) fun _ s3 z3 => ?_)
      obtain ⟨σ3, H3, I3, hw, q3⟩ := z3
      refine seg_bind_wrap (thnF (pt.run _ s3 σ3 H3 _ I3 q3) fun b sb zb => ?_)
      obtain ⟨Hb, Ib, qb⟩ := zb
      have back : ∀ {s' : Shared} {H' : Hp}, Inv (gCx X (.GeneratorExp elt [⟨tg, iter, ifs, 0⟩] scope gpos) s4 H4 cenv it fp pn) ([] ++ pinsAt fp s2.heap) σ3 H' s' →
          Inv (gCx X (.GeneratorExp elt [⟨tg, iter, ifs, 0⟩] scope gpos) s4 H4 cenv it fp pn) [] (wipe σ own) H' s' ∧ tn (i + 1) s'.heap ∧ ∀ b ∈ fp, H' b = none := fun {s' H'} I' => by
        have pin' : ∀ b ∈ fp, ∀ o, s2.heap.get? b = some o → s'.heap.get? b = some o ∧ H' b = none := fun b hb o e =>
          have y := I'.pin (b, o) (List.mem_append_right _ (List.mem_append_right _ (mem_pinsAt hb e)))
          ⟨y.1, y.2.1⟩
        have hl : (wipe σ own).length = σ3.length := by
          rw [← hw, wipe_length]
        refine ⟨(I'.unpinned (pins := [])).weak hl (fun j v e => ?_), T.keep _ _ _ st2 (fun b hb o e => (pin' b hb o e).1), fun b hb => ?_⟩
        · rw [← hw] at e
          exact (wipe_some e).1
        · obtain ⟨o, e, _⟩ := T.obj _ _ st2 b hb
          exact (pin' b hb o e).2
      cases b with
      | false =>
        simp only [Bool.false_eq_true, if_false] at qb ⊢
        obtain ⟨m', hm, w'⟩ := hNx _ qb
        obtain ⟨I', st', n'⟩ := back Ib
        exact seg_again rfl (ih m' hm n (i + 1) s0 sb Hb (Nat.lt_trans hm hmn) w' I' st' n')
      | true =>
        simp only [if_true] at qb ⊢
        have hy : ∀ v, yieldOut cenv v = yieldValue v := fun v => by simp only [yieldOut, hco, Bool.false_eq_true, if_false]
        simp only [hy]
        rw [Sem.bind_eq_wrap', Sem.bind_eq_wrap', Sem.wrap_wrap, Sem.wrap_wrap]
        refine seg_wrap (thnF (pe.run _ sb σ3 Hb _ Ib qb) fun z sy zy => ?_)
        obtain ⟨v, Hy, Iy, ry, qy⟩ := zy
        obtain ⟨I', st', n'⟩ := back Iy
        obtain ⟨n1, rfl⟩ : ∃ n1, n = n1 + 1 := ⟨n - 1, by omega⟩
        refine seg_at (seg_yield rfl rfl rfl ?_)
        rcases qy with ⟨rfl, q⟩ | ⟨rfl, q⟩
        · cases ry
          exact ⟨stopb, Hy, rfl, I', .inl ⟨rfl, q⟩⟩
        · cases ry
          obtain ⟨m', hm, w'⟩ := hNx _ q
          refine ⟨!stopb, Hy, rfl, I', .inr ⟨rfl, i + 1, m', by omega, w', fun s'' hh ho hb => ?_⟩⟩
          exact seg_again rfl (ih m' hm n1 (i + 1) s'' s'' Hy (by omega) w' (inv_gens I' hh ho hb) (by rw [hh]; exact st') n')
/-- the start of the generator's code -/
theorem gen_begin {n : Nat} {s0 s : Shared} {R : GenEnd} {Y : Protocol} (T : Turn X.prog X.w X.K tg J fp it tn) (st : tn 0 s.heap)
    (loop : Seg (model X.prog X.w) X.A.in1.in1 R Y n s0 (.compLoop (.GeneratorExp elt [⟨tg, iter, ifs, 0⟩] scope gpos) 0 (.ref it) .none cenv) ((model X.prog X.w).den (.compLoop (.GeneratorExp elt [⟨tg, iter, ifs, 0⟩] scope gpos) 0 (.ref it) .none cenv)) [] s) :
    Seg (model X.prog X.w) X.A.in1.in1 R Y n s0 (.compStart (.GeneratorExp elt [⟨tg, iter, ifs, 0⟩] scope gpos) 0 (.ref it) .none cenv) ((model X.prog X.w).den (.compStart (.GeneratorExp elt [⟨tg, iter, ifs, 0⟩] scope gpos) 0 (.ref it) .none cenv)) [] s := by
  show Seg _ _ _ _ n s0 _ ((compStart (.GeneratorExp elt [⟨tg, iter, ifs, 0⟩] scope gpos) 0 (.ref it) .none cenv).onRaise (leaving cenv)) [] s
  unfold compStart
  rw [Sem.onRaise_eq_wrap]
  refine seg_bind_wrap (wpAny_askSetting ?_)
  split
  · exact seg_again rfl loop
  · refine seg_bind_wrap (wpAny_rule ?_)
    show Seg _ _ _ _ n s0 _ ((standAt iter.pos >>= _).wrap _ _ _ _) [] s
    refine seg_bind_wrap (wpAny_standAt (seg_bind_wrap ?_))
    exact T.self _ 0 s _ _ st (seg_again rfl loop)
end
/-- the generator at a, number gn, is asleep (or fresh), with n turns at most -/
def Asleep (X Y : Cx) (σw : L2.St) (fp : List Addr) (tn : Nat → Heap → Prop) (W : Nat → Nat → Hp → Prop) (stopb : Bool) (Q : VK) (gn n : Nat) (s : Shared) : Prop :=
  ∃ (gs : GenState) (H' : Hp), s.gens[gn]? = some gs ∧ Inv Y [] σw H' s ∧ ∀ s'' : Shared, s''.heap = s.heap → s''.os = s.os → AllBare s''.gens →
    gs.Goes (model X.prog X.w) X.A.in1.in1 (fun n s0 r s1 => r = .ok .next ∧ GEndP Y σw stopb Q n s0 s1) (GProto Y σw fp tn W stopb Q) n (.send .none) s''
section
variable {X Y : Cx} {σw : L2.St} {fp : List Addr} {tn : Nat → Heap → Prop} {W : Nat → Nat → Hp → Prop} {Q : VK} {gn : Nat} {a : Addr} {go : Obj} {R : Result → Shared → Prop}
theorem set_at {s : Shared} {x : GenState} (h : gn < s.gens.size) : (s.setGen gn x).gens[gn]? = some x := by
  show (s.gens.setIfInBounds gn x)[gn]? = some x
  rw [Array.getElem?_setIfInBounds_self_of_lt h]
/-- one waking of the generator -/
theorem wake {stopb : Bool} {n : Nat} {s : Shared} {Q' : Option Value → Shared → Prop} {E : Value → Shared → Prop} (hh : X.A.handled = none) (hroom : X.A.depth < recursionLimit) (hp : (a, go) ∈ Y.pn) (hgo : ∀ h : Heap, h.get? a = some go → h.IsGen a gn) (S : Asleep X Y σw fp tn W stopb Q gn n s)
    (stop : ∀ s' H', Inv Y [] σw H' s' → Q (.bl stopb) H' → Q' (some (.bool stopb)) s') (next : ∀ s' m, m < n → Asleep X Y σw fp tn W stopb Q gn m s' → Q' (some (.bool (!stopb))) s') (done : ∀ s' H', Inv Y [] σw H' s' → Q (.bl (!stopb)) H' → Q' none s') :
    wpAny (model X.prog X.w) X.A.in1 (pyNext (.ref a)) Q' E s := by
  obtain ⟨gs, H', hg, I, hG⟩ := S
  have hlt : gn < s.gens.size := by
    rcases Nat.lt_or_ge gn s.gens.size with z | z
    · exact z
    · rw [Array.getElem?_eq_none z] at hg
      cases hg
  have ig : s.heap.IsGen a gn := hgo _ (I.pin (a, go) (List.mem_append_left _ hp)).1
  refine GenW.wpAny_gsz (n := s.gens.size) (Nat.le_refl _) ?_
  refine wpAny_pyNext_genexpQ (A := X.A.in1) hh I.nolimit hroom ig hg (hG _ rfl rfl (bare_set I.bare rfl)) (fun v s1 gs' hb hv sz => ?_) (fun s1 hp1 h' hk sz => ?_)
  · obtain ⟨k, H1, rfl, I1, z⟩ := hv
    have sz1 : gn < s1.gens.size := by
      have e : (s1.setGen gn gs').gens.size = s1.gens.size := GenW.setGen_size _ _ _
      rw [e] at sz
      omega
    have I2 : Inv Y [] σw H1 (s1.setGen gn gs') := inv_gens I1 rfl rfl (bare_set I1.bare hb)
    rcases z with ⟨rfl, q⟩ | ⟨rfl, i, m, hm, w, kap⟩
    · exact stop _ H1 I2 q
    · cases n with
      | zero => omega
      | succ n1 =>
        refine next _ n1 (Nat.lt_succ_self _) ⟨gs', H1, set_at sz1, I2, fun s'' h1 h2 h3 => ?_⟩
        exact kap s'' h1 h2 h3
  · obtain ⟨H1, I1, q⟩ := hp1
    refine done _ H1 ?_ q
    have I2 : Inv Y [] σw H1 (s1.setGen gn .finished) := inv_gens I1 rfl rfl (bare_set I1.bare rfl)
    exact I2.kept (h' := h') (t' := s1.toks) fun b o e => hk b o e
theorem any_loop (hh : X.A.handled = none) (hroom : X.A.depth < recursionLimit) (hp : (a, go) ∈ Y.pn) (hgo : ∀ h : Heap, h.get? a = some go → h.IsGen a gn)
    (fin : ∀ s' H' b, Inv Y [] σw H' s' → Q (.bl b) H' → R (.ok (.ret (.bool b))) s') : ∀ (n : Nat) (s : Shared), Asleep X Y σw fp tn W true Q gn n s → codeAny (model X.prog X.w) X.A (.builtin "any.loop" ⟨[.ref a], []⟩) R s := by
  intro n
  induction n using Nat.strongRecOn with
  | ind n ih =>
    intro s S
    refine codeAny_builtin F.entry_any_loop ?_
    rw [Around.under_plainId F.plain_any_loop _]
    show wpAny _ X.A.in1 (pyNext (.ref a) >>= _) _ _ s
    refine wpAny_bind (wake hh hroom hp hgo S (fun s' H' I q => ?_) (fun s' m hm S' => ?_) (fun s' H' I q => ?_))
    · refine wpAny_bind (wpAny_holding (wpAny_truthy_bool (wpAny_bind (wpAny_letGo ?_))))
      simp only [if_true]
      exact wpAny_bind (wpAny_rule (wpAny_pure (fin s' H' true I q)))
    · refine wpAny_bind (wpAny_holding (wpAny_truthy_bool (wpAny_bind (wpAny_letGo ?_))))
      simp only [Bool.not_true, Bool.false_eq_true, if_false]
      exact wpAny_pure ⟨plainId_quiet F.plain_any_loop _, ih m hm s' S'⟩
    · exact wpAny_bind (wpAny_rule (wpAny_pure (fin s' H' false I q)))
theorem all_loop (hh : X.A.handled = none) (hroom : X.A.depth < recursionLimit) (hp : (a, go) ∈ Y.pn) (hgo : ∀ h : Heap, h.get? a = some go → h.IsGen a gn)
    (fin : ∀ s' H' b, Inv Y [] σw H' s' → Q (.bl b) H' → R (.ok (.ret (.bool b))) s') : ∀ (n : Nat) (s : Shared), Asleep X Y σw fp tn W false Q gn n s → codeAny (model X.prog X.w) X.A (.builtin "all.loop" ⟨[.ref a], []⟩) R s := by
  intro n
  induction n using Nat.strongRecOn with
  | ind n ih =>
    intro s S
    refine codeAny_builtin F.entry_all_loop ?_
    rw [Around.under_plainId F.plain_all_loop _]
    show wpAny _ X.A.in1 (pyNext (.ref a) >>= _) _ _ s
    refine wpAny_bind (wake hh hroom hp hgo S (fun s' H' I q => ?_) (fun s' m hm S' => ?_) (fun s' H' I q => ?_))
    · refine wpAny_bind (wpAny_holding (wpAny_truthy_bool (wpAny_bind (wpAny_letGo ?_))))
      simp only [Bool.false_eq_true, if_false]
      exact wpAny_bind (wpAny_rule (wpAny_pure (fin s' H' false I q)))
    · refine wpAny_bind (wpAny_holding (wpAny_truthy_bool (wpAny_bind (wpAny_letGo ?_))))
      simp only [Bool.not_false, if_true]
      exact wpAny_pure ⟨plainId_quiet F.plain_all_loop _, ih m hm s' S'⟩
    · exact wpAny_bind (wpAny_rule (wpAny_pure (fin s' H' true I q)))
end
/-- any(elt for target in iter if ..) (stopb true), all(..) (stopb false): W by the turn and a measure, Nx what a turn is to reach; P: the def's table of code objects -/
def tAA (P : Addr) (stopb : Bool) (wi : TI) (g : TG) (tt : TT) (te : TE) (vs : List Nat) : TE := fun σ H Q => wi σ H fun J H1 => TabG H1 P ∧ ∀ H2, Tabbed P H1 H2 → ∃ W : Nat → Nat → Hp → Prop, (∃ m, W 0 m H2) ∧
  ∀ i m H, W i m H → (J.stop i H ∧ Q (.bl (!stopb)) H) ∨ (J.go i H ∧ ∃ Nx : Hp → Prop, (∀ H', Nx H' → ∃ m', m' < m ∧ W (i + 1) m' H') ∧ ∀ x H', J.yld i H x H' → g x (wipe σ vs) H' fun σ2 H2 => wipe σ2 vs = wipe σ vs ∧ tt σ2 H2 fun b H3 =>
    if b = true then te σ2 H3 fun y H4 => (y = .bl stopb ∧ Q (.bl stopb) H4) ∨ (y = .bl (!stopb) ∧ Nx H4) else Nx H3)
/-- over a tuple that stays -/
theorem aa_tup {K : PySem.W.Frag} {a : Addr} {xs : List V} {g : TG} {tt : TT} {te : TE} {vs : List Nat} {σ : L2.St} {H1 : Hp} {stopb : Bool} {Q : VK} (Pv : Nat → Hp → Prop) (h0 : Pv 0 H1) (hl : ∀ i H, i ≤ xs.length → Pv i H → SqT K H a xs)
    (hs : ∀ i x H, xs[i]? = some x → Pv i H → g x (wipe σ vs) H fun σ2 H2 => wipe σ2 vs = wipe σ vs ∧ tt σ2 H2 fun b H3 => if b = true then te σ2 H3 fun y H4 => (y = .bl stopb ∧ Q (.bl stopb) H4) ∨ (y = .bl (!stopb) ∧ Pv (i + 1) H4) else Pv (i + 1) H3) (hd : ∀ H, Pv xs.length H → Q (.bl (!stopb)) H) :
    ∃ W : Nat → Nat → Hp → Prop, (∃ m, W 0 m H1) ∧ ∀ i m H, W i m H → ((Itt K a).stop i H ∧ Q (.bl (!stopb)) H) ∨ ((Itt K a).go i H ∧ ∃ Nx : Hp → Prop, (∀ H', Nx H' → ∃ m', m' < m ∧ W (i + 1) m' H') ∧ ∀ x H', (Itt K a).yld i H x H' → g x (wipe σ vs) H' fun σ2 H2 => wipe σ2 vs = wipe σ vs ∧ tt σ2 H2 fun b H3 =>
      if b = true then te σ2 H3 fun y H4 => (y = .bl stopb ∧ Q (.bl stopb) H4) ∨ (y = .bl (!stopb) ∧ Nx H4) else Nx H3) := by
  refine ⟨fun i m H => i + m = xs.length ∧ Pv i H, ⟨xs.length, Nat.zero_add _, h0⟩, fun i m H ⟨e, p⟩ => ?_⟩
  have sq := hl i H (by omega) p
  cases m with
  | zero =>
    have ei : i = xs.length := by omega
    subst ei
    exact .inl ⟨⟨xs, sq, Nat.le_refl _⟩, hd H p⟩
  | succ m =>
    have lt : i < xs.length := by omega
    refine .inr ⟨⟨xs, xs[i], sq, List.getElem?_eq_getElem lt⟩, Pv (i + 1), fun H' q => ⟨m, Nat.lt_succ_self m, by omega, q⟩, fun x H' y => ?_⟩
    obtain ⟨rfl, y⟩ := y
    exact hs i x _ (y xs sq) p
section
variable {X : Cx} {pins : List (Addr × Obj)} {σ : L2.St} {H : Hp} {s : Shared} {c P : Addr} {elt tg iter : Expr} {ifs : List Expr} {scope : Scope} {own : List (Str × Nat)} {gpos : Pos} {wi : TI} {g : TG} {tt : TT} {te : TE} {stopb : Bool} {k : Nat}
/-- the scope of a generator expression: no cells of its own -/
structure GSc (scope : Scope) : Prop where
  co : scope.isCoroutine = false
  nc : ∀ y ∈ scope.names, y.2 ≠ .cell
  dot : scope.names.lookup (".0" : Str) = some NameKind.local
theorem gen_make {Q : VK} {Q' : Value → Shared → Prop} (hr : Room k X.A) (hc : X.calm = true) (hN : X.N.Nodup) (TB : TabB X.base X.mg c P) (hcode : X.env.code = .ref c) (hi : PI X tg iter wi) (ok : BlkOk X.N X.env.scope scope own) (S : GSc scope)
    (hg : ∀ (s : Shared) (H : Hp) (C : Addr) (code : Value) (it : Addr) (fp : List Addr) (pn : List (Addr × Obj)), PG (gCx X (.GeneratorExp elt [⟨tg, iter, ifs, 0⟩] scope gpos) s H (genEnv scope (cloFrom X.env.cells scope.names []) C code builtinsNs X.env) it fp pn) tg g)
    (ht : ∀ (s : Shared) (H : Hp) (C : Addr) (code : Value) (it : Addr) (fp : List Addr) (pn : List (Addr × Obj)), PTs (gCx X (.GeneratorExp elt [⟨tg, iter, ifs, 0⟩] scope gpos) s H (genEnv scope (cloFrom X.env.cells scope.names []) C code builtinsNs X.env) it fp pn) ifs tt)
    (he : ∀ (s : Shared) (H : Hp) (C : Addr) (code : Value) (it : Addr) (fp : List Addr) (pn : List (Addr × Obj)), PE (gCx X (.GeneratorExp elt [⟨tg, iter, ifs, 0⟩] scope gpos) s H (genEnv scope (cloFrom X.env.cells scope.names []) C code builtinsNs X.env) it fp pn) elt te)
    (hs : ∀ x, genFold iter X.env x = pure x) (I : Inv X pins σ H s) (h : tAA P stopb wi g tt te (own.map (·.2)) σ H Q)
    (hQ : ∀ (a : Addr) (go : Obj) (gn n : Nat) (Y : Cx) (fp : List Addr) (tn : Nat → Heap → Prop) (W : Nat → Nat → Hp → Prop) (s5 : Shared), (a, go) ∈ Y.pn → (∀ h : Heap, h.get? a = some go → h.IsGen a gn) → (∀ s' H', Inv Y [] (wipe σ (own.map (·.2))) H' s' → Inv X pins σ H' s') → s5.heap.get? a = some go →
      Asleep X Y (wipe σ (own.map (·.2))) fp tn W stopb Q gn n s5 → Q' (.ref a) s5) :
    wpAny (model X.prog X.w) X.A (eval (.GeneratorExp elt [⟨tg, iter, ifs, 0⟩] scope gpos) X.env) Q' X.xe s := by
  have hfree : ∀ y ∈ scope.names, y.2 = .free → ∃ c, X.env.cells.lookup y.1 = some c := fun y hy e => by
    rcases ok.free y hy e with z | z
    · exact I.ok.has _ (.inl z)
    · exact I.ok.has _ (.inr z)
  refine wpAny_GeneratorExp_make S.co (closure_ok hfree) S.nc S.dot ok.kind (by have := hr.dp; omega) (thn (hi.run pins s σ H _ I h) fun xv s1 hx => thn hx fun itv s2 h2 => ?_) hs
  obtain ⟨it, fp, tn, J, H2, rfl, I2, T, st2, f2, ⟨ps, hP, hT⟩, q⟩ := h2
  have hPs : s2.heap.get? P = some { cls := .none, data := .fields ps } := I2.hok P _ hP
  have cd : PySem.W.CodeHd s2.heap c P := TB.code.keeps I2.bk
  have szf : ∀ b ∈ fp, b < s2.heap.objs.size := fun b hb => by
    obtain ⟨o, e, _⟩ := T.obj _ _ st2 b hb
    exact Heap.lt_size e
  have nP : ∀ b ∈ fp, b ≠ P := fun b hb z => by
    have e := (f2 b hb).1
    rw [z, hP] at e
    cases e
  refine ⟨I2.nolimit, ?_⟩
  have cont : ∀ (code : Value) (h3 : Heap) (tk : Nat) (more : Array Value), Heap.ExtBut P s2.heap h3 → s2.heap.objs.size ≤ h3.objs.size → h3.get? P = some { cls := .none, data := .fields (ps ++ more) } → TriplesOk (ps ++ more).toList →
      wpAny (model X.prog X.w) X.A (builtinsFor X.env.globals X.env.builtins) (fun bi s4 => ∀ h', h'.Ns s4.heap.objs.size (fun y => if y = ".0" then some (.ref it) else none) → Heap.SameBut s4.heap.objs.size (s4.heap.push { cls := .type "frame", data := .dict #[] }) h' →
        Q' (.ref h'.objs.size) { s4 with
          gens := s4.gens.push (.fresh (.compStart (.GeneratorExp elt [⟨tg, iter, ifs, 0⟩] scope gpos) 0 (.ref it) .none (genEnv scope (cloFrom X.env.cells scope.names []) s4.heap.objs.size code bi X.env))),
          toks := s4.toks + 1 + 1 + 1,
          heap := h'.push { cls := .type "generator", data := .fields #[.int s4.gens.size 0, .str "<genexpr>" (s4.toks + 1), .str (X.env.qual ++ "<genexpr>") (s4.toks + 1 + 1)] } }) X.xe { s2 with heap := h3, toks := tk } := by
    intro code h3 tk more hx hsz hP3 hT3
    obtain ⟨bm, ob, e1, e2, e3, e4, e5, e6, e7, e8⟩ := TB.bm
    have I3 : Inv X pins σ (upd H2 P (.tbl (ps ++ more))) { s2 with heap := h3, toks := tk } := inv_tab (g' := s2.gens) (d' := s2.drawn) (t' := tk) I2 hP (fun b o hb e => hx b o hb e) hP3 I2.bare
    have f3 : ∀ b ∈ fp, FpOk X pins (upd H2 P (.tbl (ps ++ more))) b ∧ b < h3.objs.size := fun b hb => ⟨⟨by rw [upd_ne (nP b hb)]; exact (f2 b hb).1, (f2 b hb).2⟩, Nat.lt_of_lt_of_le (szf b hb) hsz⟩
    have st3 : tn 0 h3 := T.keep _ _ _ st2 fun b hb o e => hx b o (nP b hb) e
    obtain ⟨W, ⟨m0, w0⟩, turn⟩ := q (upd H2 P (.tbl (ps ++ more))) ⟨⟨_, upd_same, hT3⟩, fun b hb => upd_ne hb⟩
    refine wpAny_builtinsFor (m := X.mg) (by rw [I3.ok.glob]; exact I3.mod.glob.keeps I3.bk) e1 e2 (hx _ _ e4 (I2.bk _ _ e5)) e6 e7 e8 ?_
    intro h' hn' hs'
    have hsz' : h'.objs.size = h3.objs.size + 1 := by
      rw [hs'.1]
      exact Heap.size_push ..
    have kp : ∀ b o, h3.get? b = some o → (h'.push { cls := .type "generator", data := .fields #[.int s2.gens.size 0, .str "<genexpr>" (tk + 1), .str (X.env.qual ++ "<genexpr>") (tk + 1 + 1)] }).get? b = some o := fun b o e =>
      Heap.get?_push_of_some _ (hs'.extBut b o (Nat.ne_of_lt (Heap.lt_size e)) (Heap.get?_push_of_some _ e))
    have st5 := T.keep _ _ _ st3 fun b hb o e => kp b o e
    have nf : ∀ b ∈ fp, (upd H2 P (.tbl (ps ++ more))) b = none := fun b hb => (f3 b hb).1.1
    have IG := gen_start (ge := .GeneratorExp elt [⟨tg, iter, ifs, 0⟩] scope gpos) (it := it) (code := code) (tk := tk + 1 + 1 + 1)
      (gs := s2.gens.push (.fresh (.compStart (.GeneratorExp elt [⟨tg, iter, ifs, 0⟩] scope gpos) 0 (.ref it) .none (genEnv scope (cloFrom X.env.cells scope.names []) h3.objs.size code builtinsNs X.env)))) I3 hc ok hN S.nc f3
      (by show pushEnvs [_] (pushEnvs [] X.A.frames) = _; rw [I.ok.frames]; rfl) (I2.bare.push rfl) kp (hn'.keeps fun b o e => Heap.get?_push_of_some _ e) (Heap.get?_push_size h' rfl) (show h3.objs.size < h'.objs.size by omega) (fun v z => by cases z)
    refine hQ h'.objs.size _ s2.gens.size (m0 + 1) _ fp tn W _ List.mem_cons_self (fun h0 e => ?_) (fun s' H' J' => ?_) (Heap.get?_push_size h' rfl) ⟨_, _, Array.getElem?_push_size .., IG, fun s'' h1 h2 h3' => ?_⟩
    · exact ⟨_, _, _, e, rfl, rfl, rfl⟩
    · exact I3.call' (ch := fp) J'.os J'.base J'.hok J'.bare fun b hb => ⟨(f3 b hb).1.2.2.2.1, (f3 b hb).1.2.1, (f3 b hb).1.2.2.2.2.1, (f3 b hb).1.2.2.2.2.2⟩
    · refine ⟨rfl, gen_begin T (by rw [h1]; exact st5) ?_⟩
      refine gen_loop hc S.co T (fun p hp b hb z => ?_) (hg _ _ _ _ _ _ _) (ht _ _ _ _ _ _ _) (he _ _ _ _ _ _ _) turn m0 (m0 + 1) 0 s'' s'' _ (Nat.lt_succ_self _) w0 (inv_gens IG h1 h2 h3') (by rw [h1]; exact st5) nf
      rw [List.mem_singleton.mp hp] at z
      have z1 := (f3 b hb).2
      rw [← z] at z1
      have z2 : h'.objs.size < h3.objs.size := z1
      omega
  cases hf : codeAmong gpos ps.toList with
  | none =>
    refine wpAny_genexprCodeX hcode (cd.code hPs hT) (cd.tab hPs) hf fun c' h' tk hx hge hlt hco' _ htab' _ => ?_
    have tr : TriplesOk (ps ++ #[rawInt gpos.line, rawInt gpos.col, Value.ref c']).toList := by
      obtain ⟨_, _, _, _, _, _, _, _, _, _, _, _, _, _, _, _, _, _, _, z, _⟩ := hco'
      exact z
    exact cont _ h' tk _ hx (Nat.le_trans hge (Nat.le_of_lt hlt)) htab'.2 tr
  | some cv =>
    refine wpAny_genexprCode_hit hcode (cd.code hPs hT) hf ?_
    exact cont cv s2.heap s2.toks #[] (Heap.ExtBut.refl _ _) (Nat.le_refl _) (by rw [Array.append_empty]; exact hPs) (by rw [Array.append_empty]; exact hT)
theorem pe_any {p pos : Pos} (hr : Room k X.A) (hb : Gl X "any") (hm : X.mg "any" = none) (hc : X.calm = true) (hN : X.N.Nodup) (TB : TabB X.base X.mg c P) (hcode : X.env.code = .ref c) (hi : PI X tg iter wi) (ok : BlkOk X.N X.env.scope scope own) (S : GSc scope)
    (hg : ∀ (s : Shared) (H : Hp) (C : Addr) (code : Value) (it : Addr) (fp : List Addr) (pn : List (Addr × Obj)), PG (gCx X (.GeneratorExp elt [⟨tg, iter, ifs, 0⟩] scope gpos) s H (genEnv scope (cloFrom X.env.cells scope.names []) C code builtinsNs X.env) it fp pn) tg g)
    (ht : ∀ (s : Shared) (H : Hp) (C : Addr) (code : Value) (it : Addr) (fp : List Addr) (pn : List (Addr × Obj)), PTs (gCx X (.GeneratorExp elt [⟨tg, iter, ifs, 0⟩] scope gpos) s H (genEnv scope (cloFrom X.env.cells scope.names []) C code builtinsNs X.env) it fp pn) ifs tt)
    (he : ∀ (s : Shared) (H : Hp) (C : Addr) (code : Value) (it : Addr) (fp : List Addr) (pn : List (Addr × Obj)), PE (gCx X (.GeneratorExp elt [⟨tg, iter, ifs, 0⟩] scope gpos) s H (genEnv scope (cloFrom X.env.cells scope.names []) C code builtinsNs X.env) it fp pn) elt te)
    (hs : ∀ x, genFold iter X.env x = pure x := by intro _; rfl)
    (hst : starEach [.GeneratorExp elt [⟨tg, iter, ifs, 0⟩] scope gpos] X.env = (false, eval (.GeneratorExp elt [⟨tg, iter, ifs, 0⟩] scope gpos) X.env) :: starEach [] X.env := by rfl) :
    PE X (.Call (.Name "any" p) [.GeneratorExp elt [⟨tg, iter, ifs, 0⟩] scope gpos] [] pos) (tAA P true wi g tt te (own.map (·.2))) := by
  refine ⟨fun pins s σ H Q I h => wpAny_Call_Name_kw (ld_blt I hb hm boot_any (PyProof.Rows.callWith_builtin1 ?_ hst (by rfl)))⟩
  rw [hst]
  refine Calls.spliced_cons (gen_make hr hc hN TB hcode hi ok S hg ht he hs I h fun a go gn n Y fp tn W s5 h1 h2 h3 h4 SL => Calls.spliced_nil ?_)
  refine call_function_tree F.kind_any F.plain_any F.entry_any (F.args_any1 _) ?_
  unfold Builtin.«any»
  refine wpAny_bind (m := oneArg "any" _) (wpAny_pure (wpAny_bind (wpAny_pyIter_gen (h2 _ h4) (wpAny_pure ⟨plainId_quiet F.plain_any_loop _, ?_⟩))))
  exact any_loop (I.ok.hd hc) hr.depth h1 h2 (fun s' H' b J q => ⟨.bl b, H', h3 s' H' J, rfl, q⟩) n s5 SL
theorem pe_all {p pos : Pos} (hr : Room k X.A) (hb : Gl X "all") (hm : X.mg "all" = none) (hc : X.calm = true) (hN : X.N.Nodup) (TB : TabB X.base X.mg c P) (hcode : X.env.code = .ref c) (hi : PI X tg iter wi) (ok : BlkOk X.N X.env.scope scope own) (S : GSc scope)
    (hg : ∀ (s : Shared) (H : Hp) (C : Addr) (code : Value) (it : Addr) (fp : List Addr) (pn : List (Addr × Obj)), PG (gCx X (.GeneratorExp elt [⟨tg, iter, ifs, 0⟩] scope gpos) s H (genEnv scope (cloFrom X.env.cells scope.names []) C code builtinsNs X.env) it fp pn) tg g)
    (ht : ∀ (s : Shared) (H : Hp) (C : Addr) (code : Value) (it : Addr) (fp : List Addr) (pn : List (Addr × Obj)), PTs (gCx X (.GeneratorExp elt [⟨tg, iter, ifs, 0⟩] scope gpos) s H (genEnv scope (cloFrom X.env.cells scope.names []) C code builtinsNs X.env) it fp pn) ifs tt)
    (he : ∀ (s : Shared) (H : Hp) (C : Addr) (code : Value) (it : Addr) (fp : List Addr) (pn : List (Addr × Obj)), PE (gCx X (.GeneratorExp elt [⟨tg, iter, ifs, 0⟩] scope gpos) s H (genEnv scope (cloFrom X.env.cells scope.names []) C code builtinsNs X.env) it fp pn) elt te)
    (hs : ∀ x, genFold iter X.env x = pure x := by intro _; rfl)
    (hst : starEach [.GeneratorExp elt [⟨tg, iter, ifs, 0⟩] scope gpos] X.env = (false, eval (.GeneratorExp elt [⟨tg, iter, ifs, 0⟩] scope gpos) X.env) :: starEach [] X.env := by rfl) :
    PE X (.Call (.Name "all" p) [.GeneratorExp elt [⟨tg, iter, ifs, 0⟩] scope gpos] [] pos) (tAA P false wi g tt te (own.map (·.2))) := by
  refine ⟨fun pins s σ H Q I h => wpAny_Call_Name_kw (ld_blt I hb hm (show bootBuiltins "all" = some (.builtin "all") by decide +kernel) (PyProof.Rows.callWith_builtin1 ?_ hst (by rfl)))⟩
  rw [hst]
  refine Calls.spliced_cons (gen_make hr hc hN TB hcode hi ok S hg ht he hs I h fun a go gn n Y fp tn W s5 h1 h2 h3 h4 SL => Calls.spliced_nil ?_)
  refine call_function_tree F.kind_all F.plain_all F.entry_all (F.args_all1 _) ?_
  unfold Builtin.«all»
  refine wpAny_bind (m := oneArg "all" _) (wpAny_pure (wpAny_bind (wpAny_pyIter_gen (h2 _ h4) (wpAny_pure ⟨plainId_quiet F.plain_all_loop _, ?_⟩))))
  exact all_loop (I.ok.hd hc) hr.depth h1 h2 (fun s' H' b J q => ⟨.bl b, H', h3 s' H' J, rfl, q⟩) n s5 SL
end
end Gx
namespace Dr
open PySem PySem.Spec PyProof.Rows L2
/-! ### the drawing of numbers: smixed, sdraw, sopen -/
def topS (i : Nat) : Stmt := PySem.Challenge.pw_sparecut_k20_trees_known.main.body.getD i (.Pass ⟨0, 0, 0, 0⟩)
abbrev sMix : Stmt := topS 18
abbrev sDrw : Stmt := topS 19
abbrev sOpn : Stmt := topS 20
theorem scMix : FnScope ["cell", "at", "one", "two", "three"] ["cell", "at"] (defScope sMix) := ⟨rfl, rfl, rfl, by decide +kernel, rfl, by decide +kernel, by decide +kernel⟩
theorem scDrw : FnScope ["feed", "many", "at", "cell", "digit"] ["feed", "many"] (defScope sDrw) := ⟨rfl, rfl, rfl, by decide +kernel, rfl, by decide +kernel, by decide +kernel⟩
theorem scOpn : FnScope ["script"] ["script"] (defScope sOpn) := ⟨rfl, rfl, rfl, by decide +kernel, rfl, by decide +kernel, by decide +kernel⟩
/-- what lies at f: cells (at c), a place, a rest; at most B cells were taken -/
def Feed (H : Hp) (f c : Addr) (B : Nat) : Prop := ∃ (ns : List Int) (n : Nat) (r : Int),
  H f = some (.lst [.ref c, .int n, .int r]) ∧ H c = some (.lst (ns.map V.int)) ∧ ns.length ≤ 60 ∧ n ≤ B
/-- all but f is as it was -/
def But (f : Addr) (H H' : Hp) : Prop := ∀ b, b ≠ f → H' b = H b
theorem But.refl (f : Addr) (H : Hp) : But f H H := fun _ _ => rfl
theorem But.trans {f : Addr} {H H1 H2 : Hp} (a : But f H H1) (b : But f H1 H2) : But f H H2 := fun x n => (b x n).trans (a x n)
theorem Feed.mono {H : Hp} {f c : Addr} {B B' : Nat} (h : Feed H f c B) (l : B ≤ B') : Feed H f c B' := by
  obtain ⟨ns, n, r, h1, h2, h3, h4⟩ := h
  exact ⟨ns, n, r, h1, h2, h3, Nat.le_trans h4 l⟩
theorem Feed.same {H H' : Hp} {f c : Addr} {B : Nat} (h : Feed H f c B) (s : Same H H') : Feed H' f c B := by
  obtain ⟨ns, n, r, h1, h2, h3, h4⟩ := h
  exact ⟨ns, n, r, s _ _ h1, s _ _ h2, h3, h4⟩
theorem Feed.upd {H : Hp} {f c D : Addr} {B : Nat} {o : HO} (h : Feed H f c B) (nf : D ≠ f) (nc : D ≠ c) : Feed (upd H D o) f c B := by
  obtain ⟨ns, n, r, h1, h2, h3, h4⟩ := h
  exact ⟨ns, n, r, by rw [upd_ne (Ne.symm nf)]; exact h1, by rw [upd_ne (Ne.symm nc)]; exact h2, h3, h4⟩
theorem Feed.nf {H : Hp} {f c D : Addr} {B : Nat} (h : Feed H f c B) (n : H D = none) : D ≠ f := by
  obtain ⟨_, _, _, h1, _⟩ := h
  exact Ne.symm (ne_of_none h1 n)
theorem Feed.nc {H : Hp} {f c D : Addr} {B : Nat} (h : Feed H f c B) (n : H D = none) : D ≠ c := by
  obtain ⟨_, _, _, _, h2, _⟩ := h
  exact Ne.symm (ne_of_none h2 n)
theorem feed_ne {H : Hp} {f c : Addr} {ns : List Int} {a : V} {as : List V} (h1 : H f = some (.lst (.ref c :: as))) (h2 : H c = some (.lst (ns.map V.int))) : c ≠ f := by
  intro e
  rw [e, h1] at h2
  have z := HO.lst.inj (Option.some.inj h2)
  cases ns with
  | nil => cases z
  | cons x r => cases z
section
variable {P : Program} {w : World} {K : PySem.W.Frag} {mg : Str → Option Value} {base : Heap}
def spMix : Sp := fun vs H Q _ => ∃ (c : Int) (n : Nat), vs = [.int c, .int n] ∧ n ≤ 2 ^ 60 ∧ ∀ r : Int, Q (.int r) H
theorem ok_mix {f : Addr} {fd : FuncData} {k : Nat} (F : Fun K "_law_smixed" "_law_smixed" sMix f fd) : FnOk P w K mg base CX0 (k + 1) f fd ["cell", "at"] spMix := by
  refine F.ok scMix (fun vs H Q E h => ?_) (fun cdv A outer s H vs Q E hr h => ?_)
  · obtain ⟨c, n, rfl, _⟩ := h
    rfl
  · obtain ⟨c, n, rfl, hn, q⟩ := h
    refine ⟨_, pss_cons (ps_set (i := 2) scMix.nd rfl (.inl rfl) (pe_op op_mod (pe_op op_add (pe_op op_add (pe_op op_mul (pe_op op_mod (pv 0) pe_int) pe_int) (pe_op op_mul (pv 1) pe_int)) pe_int) pe_int))
      (pss_cons (ps_set (i := 3) scMix.nd rfl (.inl rfl) (pe_op op_mod (pe_op op_add (pe_op op_add (pe_op op_mul (pv 2) (pv 2)) (pe_op op_mul (pe_op op_mul (pv 1) (pv 1)) pe_int)) pe_int) pe_int))
      (pss_cons (ps_set (i := 4) scMix.nd rfl (.inl rfl) (pe_op op_mod (pe_op op_add (pe_op op_add (pe_op op_mul (pv 3) (pv 3)) (pv 2)) (pv 1)) pe_int))
      (pss_one (ps_ret (pe_op op_add (pe_op op_mul (pe_op op_add (pe_op op_mul (pv 4) pe_int) (pv 3)) pe_int) (pv 2)))))), ?_⟩
    refine ⟨_, rfl, _, _, rfl, rfl, by show (0 : Int) < 2147483647; decide, _, _, rfl, rfl, .inr ⟨by decide, by decide⟩, _, rfl, _, _, rfl, rfl, .inr ⟨by decide, by decide⟩, _, _, rfl, rfl, _, _, rfl, rfl, _, _, rfl, rfl, by show (0 : Int) < 2147483629; decide, ?_⟩
    generalize e1 : (c % 2147483647 * 48271 + (n : Int) * 7919 + 11) % 2147483629 = one
    have o1 : 0 ≤ one := by rw [← e1]; exact Int.emod_nonneg _ (by decide)
    have o2 : one < 2147483629 := by rw [← e1]; exact Int.emod_lt_of_pos _ (by decide)
    refine ⟨_, rfl, _, rfl, _, _, rfl, rfl, .inl ⟨by omega, by omega⟩, _, rfl, _, rfl, _, _, rfl, rfl, .inl ⟨by omega, by omega⟩, _, _, rfl, rfl, .inr ⟨by decide, by decide⟩, _, _, rfl, rfl, _, _, rfl, rfl, _, _, rfl, rfl, by show (0 : Int) < 2147483587; decide, ?_⟩
    generalize e2 : (one * one + (n : Int) * (n : Int) * 31 + 5) % 2147483587 = two
    have t1 : 0 ≤ two := by rw [← e2]; exact Int.emod_nonneg _ (by decide)
    have t2 : two < 2147483587 := by rw [← e2]; exact Int.emod_lt_of_pos _ (by decide)
    refine ⟨_, rfl, _, rfl, _, _, rfl, rfl, .inl ⟨by omega, by omega⟩, _, rfl, _, _, rfl, rfl, _, rfl, _, _, rfl, rfl, _, _, rfl, rfl, by show (0 : Int) < 2147483563; decide, ?_⟩
    exact ⟨_, rfl, _, _, rfl, rfl, .inr ⟨by decide, by decide⟩, _, rfl, _, _, rfl, rfl, _, _, rfl, rfl, .inr ⟨by decide, by decide⟩, _, rfl, _, _, rfl, rfl, q _⟩
/-- sdraw(feed, many): any number from 0 to many - 1 -/
def spDrw : Sp := fun vs H Q _ => ∃ (f c : Addr) (m : Int) (B : Nat), vs = [.ref f, .int m] ∧ 0 < m ∧ m < 2 ^ 29 ∧ Feed H f c B ∧ B ≤ 2 ^ 59 ∧
  ∀ (d : Int) (H' : Hp), 0 ≤ d → d < m → Feed H' f c (B + 1) → But f H H' → Q (.int d) H'
theorem ok_drw {f fM : Addr} {fd fdM : FuncData} {k : Nat} (F : Fun K "_law_sdraw" "_law_sdraw" sDrw f fd) (FM : Fun K "_law_smixed" "_law_smixed" sMix fM fdM) (bM : Binds K fdM ["cell", "at"] []) (gM : mg "_law_smixed" = some (.ref fM)) (ml : mg "len" = none) :
    FnOk P w K mg base CX0 (k + 2) f fd ["feed", "many"] spDrw := by
  have GM : FnOk P w K mg base CX0 1 fM fdM ["cell", "at"] spMix := ok_mix FM
  refine F.ok scDrw (fun vs H Q E h => ?_) (fun cdv A outer s H vs Q E hr h => ?_)
  · obtain ⟨f, c, m, B, rfl, _⟩ := h
    rfl
  · obtain ⟨f, c, m, B, rfl, m0, m1, hF, hB, q⟩ := h
    have hr1 : Room 1 _ := hr.mono (by omega)
    refine ⟨_, Evl.pss_cut (ps_if (pt_cmpR op_lt (pe_ix ix_list (pv 0) pe_int (fun _ _ => rfl)) (pv 1) (nomark _))
        (pss_cons (ps_set (i := 2) scDrw.nd rfl (.inl rfl) (pe_ix ix_list (pv 0) pe_int (fun _ _ => rfl)))
        (pss_cons (ps_set (i := 3) scDrw.nd rfl (.inl rfl) (pe_op op_mul (pv 2) pe_int))
        (Evl.pss_cut (ps_if (pt_cmpR op_gt (pe_callB call_len_seq (by rfl) ml PySem.boot_len (pa_cons (pe_ix ix_list (pv 0) pe_int (fun _ _ => rfl)) pa_nil)) pe_int (nomark _))
            (pss_one (ps_set (i := 3) scDrw.nd rfl (.inl rfl) (pe_ix ix_list (pe_ix ix_list (pv 0) pe_int (fun _ _ => rfl)) (pe_op op_mod (pv 2) (pe_callB call_len_seq (by rfl) ml PySem.boot_len (pa_cons (pe_ix ix_list (pv 0) pe_int (fun _ _ => rfl)) pa_nil))) (fun _ _ => rfl)))) pss_nil)
        (pss_cons (ps_asg (pe_op op_add (pv 2) pe_int) (pg_sub (pv 0) pe_int set_list))
        (Evl.pss_cut (ps_asg (pv 3) (pg_sub (pv 0) pe_int set_list))
        (pss_one (ps_if (PW.pt (pw_or (pt_cmpR op_lt (pv 3) (pe_op op_pow pe_int pe_int) (nomark _)) (pw_or1 (pt_cmpR op_ge (pv 2) (pe_callB call_len_seq (by rfl) ml PySem.boot_len (pa_cons (pe_ix ix_list (pv 0) pe_int (fun _ _ => rfl)) pa_nil)) (nomark _)))))
          (pss_one (ps_asg (pe_call GM hr1 (by rfl) gM FM.kp bM .nil pass0 (pa_cons (pv 3) (pa_cons (pv 2) pa_nil))) (pg_sub (pv 0) pe_int set_list))) pss_nil)))))))
        pss_nil)
      (pss_cons (ps_set (i := 4) scDrw.nd rfl (.inl rfl) (pe_op op_mod (pe_ix ix_list (pv 0) pe_int (fun _ _ => rfl)) (pv 1)))
      (pss_cons (ps_asg (pe_op op_fdiv (pe_ix ix_list (pv 0) pe_int (fun _ _ => rfl)) (pv 1)) (pg_sub (pv 0) pe_int set_list))
      (pss_one (ps_ret (pv 4))))), ?_⟩
    obtain ⟨ns, n, r, h1, h2, h3, h4⟩ := hF
    have hcf : c ≠ f := feed_ne (a := .non) h1 h2
    have hS : SqL K H f [.ref c, .int n, .int r] := .of h1
    have hC : SqL K H c (ns.map V.int) := .of h2
    refine Evl.q_cut (M := fun σ' H' => ∃ (y2 y3 : Option V) (n' : Nat) (r' : Int), σ' = [some (.ref f), some (.int m), y2, y3, none] ∧ H' f = some (.lst [.ref c, .int n', .int r']) ∧ n' ≤ B + 1 ∧ But f H H') ?_ ?_
    · refine ⟨.ref f, rfl, f, _, 2, _, rfl, rfl, hS, rfl, .int m, rfl, _, _, rfl, rfl, _, rfl, ite2 (fun e => ?_) (fun e => ?_)⟩
      · refine ⟨.ref f, rfl, f, _, 1, _, rfl, rfl, hS, rfl, ?_⟩
        refine ⟨_, rfl, _, _, rfl, rfl, .inr ⟨by decide, by decide⟩, ?_⟩
        refine Evl.q_cut (M := fun σ' H' => ∃ (z : Int), σ' = [some (.ref f), some (.int m), some (.int n), some (.int z), none] ∧ H' = H) ?_ ?_
        · refine ⟨.ref f, rfl, f, _, 0, _, rfl, rfl, hS, rfl, c, _, rfl, .inl hC, _, _, rfl, rfl, _, rfl, ite2 (fun e => ?_) (fun e => ?_)⟩
          · have l0 : 0 < ns.length := by
              have z : (0 : Int) < ((ns.map V.int).length : Int) := of_decide_eq_true e
              rw [List.length_map] at z
              omega
            have l1 : n % ns.length < ns.length := Nat.mod_lt _ l0
            refine ⟨.ref f, rfl, f, _, 0, _, rfl, rfl, hS, rfl, _, rfl, .ref f, rfl, f, _, 0, _, rfl, rfl, hS, rfl, c, _, rfl, .inl hC, _, _, rfl, rfl, ?_, c, _, _, .int (ns[n % ns.length]), rfl, rfl, hC, ?_, ?_⟩
            · show (0 : Int) < ((ns.map V.int).length : Int)
              rw [List.length_map]
              omega
            · refine at_of (j := n % ns.length) ?_ ?_
              · rw [List.length_map]
                exact (Int.natCast_emod n ns.length).symm
              · rw [List.getElem?_map, List.getElem?_eq_getElem l1]
                rfl
            · exact ⟨_, rfl, rfl⟩
          · exact ⟨_, rfl, rfl⟩
        · rintro σ' H' ⟨z, rfl, rfl⟩
          refine ⟨_, rfl, _, _, rfl, rfl, _, rfl, f, _, 1, 1, rfl, rfl, h1, rfl, ?_⟩
          refine Evl.q_cut (M := fun σ' H2 => σ' = [some (.ref f), some (.int m), some (.int n), some (.int z), none] ∧ But f H' H2 ∧ H2 f = some (.lst [.ref c, .int ((n + 1 : Nat) : Int), .int z])) ?_ ?_
          · refine ⟨_, rfl, _, rfl, f, _, 2, 2, rfl, rfl, upd_same, rfl, rfl, fun b nb => ?_, upd_same⟩
            rw [upd_ne nb, upd_ne nb]
          rintro σ' H2 ⟨rfl, b2, f2⟩
          have hS2 : SqL K H2 f [.ref c, .int ((n + 1 : Nat) : Int), .int z] := .of f2
          have hC2 : SqL K H2 c (ns.map V.int) := .of ((b2 c hcf).trans h2)
          have mix : ∀ D : Ends, D.nx = (fun σ' H'' => ∃ (y2 y3 : Option V) (n' : Nat) (r' : Int), σ' = [some (.ref f), some (.int m), y2, y3, none] ∧ H'' f = some (.lst [.ref c, .int n', .int r']) ∧ n' ≤ B + 1 ∧ But f H' H'') →
              tAsg (tCall spMix [] E0 (tCons (tVar 3) (tCons (tVar 2) tNil))) (gSub (tVar 0) (tC (.int 2)) rSetL) D [some (.ref f), some (.int m), some (.int n), some (.int z), none] H2 := by
            intro D hD
            refine ⟨_, rfl, _, rfl, z, n, rfl, by omega, fun r2 => ?_⟩
            refine ⟨_, rfl, f, _, 2, 2, rfl, rfl, f2, rfl, ?_⟩
            rw [hD]
            exact ⟨_, _, n + 1, r2, rfl, upd_same, by omega, fun b nb => by rw [upd_ne nb]; exact b2 b nb⟩
          refine ⟨_, rfl, _, _, rfl, rfl, ⟨by decide, by decide, by decide⟩, _, _, rfl, rfl, _, rfl, ite2 (fun e => ?_) (fun e => ?_)⟩
          · exact iteT (mix _ rfl)
          · refine ⟨_, rfl, .ref f, rfl, f, _, 0, _, rfl, rfl, hS2, rfl, c, _, rfl, .inl hC2, _, _, rfl, rfl, _, rfl, ite2 (fun e => ?_) (fun e => ?_)⟩
            · exact mix _ rfl
            · exact ⟨_, _, n + 1, z, rfl, f2, by omega, b2⟩
      · exact ⟨none, none, n, r, rfl, h1, by omega, But.refl f H⟩
    · rintro σ' H' ⟨y2, y3, n', r', rfl, f1, ln, b1⟩
      have hS1 : SqL K H' f [.ref c, .int n', .int r'] := .of f1
      refine ⟨.ref f, rfl, f, _, 2, _, rfl, rfl, hS1, rfl, .int m, rfl, _, _, rfl, rfl, m0, ?_⟩
      refine ⟨.ref f, rfl, f, _, 2, _, rfl, rfl, hS1, rfl, .int m, rfl, _, _, rfl, rfl, ⟨m0, by omega⟩, .ref f, rfl, f, _, 2, 2, rfl, rfl, f1, rfl, ?_⟩
      refine ⟨_, rfl, q (r' % m) _ (Int.emod_nonneg _ (by omega)) (Int.emod_lt_of_pos _ m0) ⟨ns, n', r' / m, upd_same, ?_, h3, ln⟩ fun b nb => ?_⟩
      · rw [upd_ne hcf, b1 c hcf]
        exact h2
      · rw [upd_ne nb]
        exact b1 b nb
/-- sopen(script) -/
def spOpn (K : PySem.W.Frag) : Sp := fun vs H Q _ => ∃ (a : Addr) (ns : List Int), vs = [.ref a] ∧ SqL K H a (ns.map V.int) ∧ ∀ (f c : Addr) (H' : Hp), H f = none → H c = none → Same H H' → Feed H' f c 0 → Q (.ref f) H'
theorem cut60 (ns : List Int) : cutV (ns.map V.int) none (some 60) = (ns.take 60).map V.int := by
  unfold cutV
  rw [HT.sIx_none, show HT.sIx (ns.map V.int).length (ns.map V.int).length (some 60) = min 60 (ns.map V.int).length from HT.sIx_nat _ _ 60]
  rw [List.drop_zero, Nat.sub_zero, List.map_take, List.length_map]
  by_cases h : ns.length ≤ 60
  · rw [Nat.min_eq_right h, List.take_of_length_le (by rw [List.length_map]; exact Nat.le_refl _), List.take_of_length_le (by rw [List.length_map]; exact h)]
  · rw [Nat.min_eq_left (by omega)]
theorem same_upd {H : Hp} {p : Addr} {o : HO} (h : H p = none) : Same H (upd H p o) := fun b x e => by
  rw [upd_ne (ne_of_none e h)]
  exact e
theorem ok_opn {f : Addr} {fd : FuncData} {k : Nat} (F : Fun K "_law_sopen" "_law_sopen" sOpn f fd) (ml : mg "list" = none) : FnOk P w K mg base CX0 (k + 1) f fd ["script"] (spOpn K) := by
  refine F.ok scOpn (fun vs H Q E h => ?_) (fun cdv A outer s H vs Q E hr h => ?_)
  · obtain ⟨a, ns, rfl, _⟩ := h
    rfl
  · obtain ⟨a, ns, rfl, hS, q⟩ := h
    refine ⟨_, pss_one (ps_ret (pe_lst (pa_cons (pe_callTy call_list_of (by rfl) ml (by decide +kernel) (pa_cons (pe_slice sl_list (pv 0) po_none (po_some pe_int)) pa_nil)) (pa_cons pe_int (pa_cons pe_int pa_nil))))), ?_⟩
    refine ⟨.ref a, rfl, 60, rfl, a, _, rfl, hS, fun c nc => ?_⟩
    refine ⟨c, _, rfl, .inl (.of upd_same), fun d nd => ?_⟩
    refine ⟨by show 3 ≤ sizeLine; decide, fun p np => ?_⟩
    have s1 : Same H (upd H c (.lst (cutV (ns.map V.int) none (some 60)))) := same_upd nc
    have s2 := s1.trans (same_upd (o := .lst (cutV (ns.map V.int) none (some 60))) nd)
    have s3 := s2.trans (same_upd (o := .lst [.ref d, .int 0, .int 0]) np)
    refine q p d _ (s2.free np) (s1.free nd) s3 ⟨ns.take 60, 0, 0, upd_same, ?_, ?_, Nat.le_refl _⟩
    · have ndp : d ≠ p := ne_of_none (upd_same (H := upd H c (.lst (cutV (ns.map V.int) none (some 60)))) (a := d) (o := .lst (cutV (ns.map V.int) none (some 60)))) np
      rw [upd_ne ndp, upd_same, cut60]
    · rw [List.length_take]
      omega
end
end Dr
namespace Kp
open PySem PySem.Spec PyProof.Rows L2 GxR Nw Dr
/-! ### what a call leaves as it was: all but the feed (F) and the tables of code objects -/
structure Ke (F : Addr → Prop) (H H' : Hp) : Prop where
  keep : ∀ b o, H b = some o → (∀ ps, o ≠ .tbl ps) → ¬ F b → H' b = some o
  tabs : ∀ P, TabG H P → TabG H' P
  tups : ∀ b xs, H b = some (.tup xs) → H' b = some (.tup xs)
abbrev Nof : Addr → Prop := fun _ => False
variable {F G : Addr → Prop} {H H1 H2 H' : Hp} {f c P : Addr} {B : Nat}
theorem Ke.refl (F : Addr → Prop) (H : Hp) : Ke F H H := ⟨fun _ _ h _ _ => h, fun _ h => h, fun _ _ h => h⟩
theorem Ke.trans (a : Ke F H H1) (b : Ke F H1 H2) : Ke F H H2 := ⟨fun x o h n m => b.keep x o (a.keep x o h n m) n m, fun Q h => b.tabs Q (a.tabs Q h), fun x xs h => b.tups x xs (a.tups x xs h)⟩
theorem Ke.mono (a : Ke F H H1) (h : ∀ b, F b → G b) : Ke G H H1 := ⟨fun x o e n m => a.keep x o e n fun z => m (h x z), a.tabs, a.tups⟩
theorem Ke.all (a : Ke Nof H H1) : Ke F H H1 := a.mono fun _ z => z.elim
theorem Ke.same (s : Same H H1) : Ke F H H1 := ⟨fun b o e _ _ => s b o e, fun Q ⟨ps, h, t⟩ => ⟨ps, s _ _ h, t⟩, fun b xs e => s _ _ e⟩
theorem Ke.lst {a : Addr} {xs : List V} (k : Ke F H H1) (h : H a = some (.lst xs)) (n : ¬ F a) : H1 a = some (.lst xs) := k.keep a _ h (fun ps z => by cases z) n
theorem Ke.tabbed (t : TabG H P) (x : Tabbed P H H1) : Ke F H H1 := by
  obtain ⟨ps, hP, _⟩ := t
  have nP : ∀ b o, H b = some o → (∀ qs, o ≠ .tbl qs) → b ≠ P := fun b o e n z => by
    rw [z, hP] at e
    exact n ps (Option.some.inj e).symm
  refine ⟨fun b o e n _ => (x.2 b (nP b o e n)).trans e, fun Q hQ => ?_, fun b xs e => (x.2 b (nP b _ e fun qs z => by cases z)).trans e⟩
  by_cases hq : Q = P
  · rw [hq]
    exact x.1
  · obtain ⟨qs, h1, h2⟩ := hQ
    exact ⟨qs, (x.2 Q hq).trans h1, h2⟩
theorem Ke.but (h : Feed H f c B) (b : But f H H1) : Ke (· = f) H H1 := by
  obtain ⟨ns, n, r, h1, _⟩ := h
  refine ⟨fun x o e _ m => (b x m).trans e, fun Q ⟨qs, e, t⟩ => ⟨qs, (b Q fun z => ?_).trans e, t⟩, fun x xs e => (b x fun z => ?_).trans e⟩
  · rw [z, h1] at e
    cases e
  · rw [z, h1] at e
    cases e
/-- a write to an object of ours that was new behind H -/
theorem Ke.upd {p : Addr} {o : HO} (k : Ke F H H1) (n : H p = none) : Ke F H (upd H1 p o) := by
  refine ⟨fun b x e t m => ?_, fun Q hQ => ?_, fun b xs e => ?_⟩
  · rw [upd_ne (ne_of_none e n)]
    exact k.keep b x e t m
  · obtain ⟨ps, e, t⟩ := hQ
    obtain ⟨qs, e2, t2⟩ := k.tabs Q ⟨ps, e, t⟩
    exact ⟨qs, by rw [upd_ne (ne_of_none e n)]; exact e2, t2⟩
  · rw [upd_ne (ne_of_none e n)]
    exact k.tups b xs e
theorem Ke.feed (k : Ke Nof H H1) (h : Feed H f c B) : Feed H1 f c B := by
  obtain ⟨ns, n, r, h1, h2, h3, h4⟩ := h
  exact ⟨ns, n, r, k.lst h1 (fun z => z), k.lst h2 (fun z => z), h3, h4⟩
/-- p holds nothing that H knows (but a table, perhaps) -/
def Frs (H : Hp) (p : Addr) : Prop := ∀ b o, H b = some o → (∀ ps, o ≠ .tbl ps) → b ≠ p
theorem Frs.of {p : Addr} (h : H p = none) : Frs H p := fun b o e _ => ne_of_none e h
theorem Frs.ke {p : Addr} (k : Ke (· = f) H H1) (hF : Feed H1 f c B) (h : Frs H1 p) : Frs H p := fun b o e n => by
  by_cases hb : b = f
  · obtain ⟨_, _, _, h1, _⟩ := hF
    rw [hb]
    exact h f _ h1 fun ps z => by cases z
  · exact h b o (k.keep b o e n hb) n
theorem Frs.ke0 {p : Addr} (k : Ke Nof H H1) (h : Frs H1 p) : Frs H p := fun b o e n => h b o (k.keep b o e n fun z => z) n
theorem Ke.write {p : Addr} {xs : List V} {o : HO} (k : Ke F H H1) (fr : Frs H p) (h1 : H1 p = some (.lst xs)) : Ke F H (L2.upd H1 p o) := by
  refine ⟨fun b x e t m => ?_, fun Q hQ => ?_, fun b ys e => ?_⟩
  · rw [upd_ne (fr b x e t)]
    exact k.keep b x e t m
  · obtain ⟨qs, e2, t2⟩ := k.tabs Q hQ
    have n : Q ≠ p := fun z => by
      rw [z, h1] at e2
      cases e2
    exact ⟨qs, by rw [upd_ne n]; exact e2, t2⟩
  · rw [upd_ne (fr b _ e fun ps z => by cases z)]
    exact k.tups b ys e
/-- whole numbers in a tuple, truths in a tuple -/
def TupI (H : Hp) (v : V) (ns : List Int) : Prop := ∃ a, v = .ref a ∧ H a = some (.tup (ns.map V.int))
def TupB (H : Hp) (v : V) (bs : List Bool) : Prop := ∃ a, v = .ref a ∧ H a = some (.tup (bs.map V.bl))
def LstI (H : Hp) (v : V) (ns : List Int) : Prop := ∃ a, v = .ref a ∧ H a = some (.lst (ns.map V.int))
/-- a tuple of claims -/
def Bk (H : Hp) (v : V) (css : List (List Int)) : Prop := ∃ a vs, v = .ref a ∧ H a = some (.tup vs) ∧ vs.length = css.length ∧ ∀ (i : Nat) (x : V) (cs : List Int), vs[i]? = some x → css[i]? = some cs → TupI H x cs
theorem TupI.ke {v : V} {ns : List Int} (h : TupI H v ns) (k : Ke F H H1) : TupI H1 v ns := by
  obtain ⟨a, e, h⟩ := h
  exact ⟨a, e, k.tups _ _ h⟩
theorem TupB.ke {v : V} {ns : List Bool} (h : TupB H v ns) (k : Ke F H H1) : TupB H1 v ns := by
  obtain ⟨a, e, h⟩ := h
  exact ⟨a, e, k.tups _ _ h⟩
theorem Bk.ke {v : V} {css : List (List Int)} (h : Bk H v css) (k : Ke F H H1) : Bk H1 v css := by
  obtain ⟨a, vs, e, h, l, t⟩ := h
  exact ⟨a, vs, e, k.tups _ _ h, l, fun i x cs h1 h2 => (t i x cs h1 h2).ke k⟩
/-! ### claims -/
def rising : List Int → Bool
  | a :: b :: r => decide (a < b) && rising (b :: r)
  | _ => true
structure IsCl (cs : List Int) : Prop where
  up : cs.Pairwise (· < ·)
  says : ∀ k ∈ cs, k ≠ 0 ∧ -8 ≤ k ∧ k ≤ 8
  opp : ∀ k ∈ cs, -k ∉ cs
  len : cs.length ≤ 8
theorem IsCl.nil : IsCl [] := { up := .nil, says := fun _ h => (nomatch h), opp := fun _ h => (nomatch h), len := by decide }
end Kp
namespace Se
open PySem PySem.Spec PyProof.Rows L2 GxR Nw Dr Kp
/-- a def of the text whose code object stands at c -/
structure FunC (K : PySem.W.Frag) (x qual : Str) (st : Stmt) (f c : Addr) (fd : FuncData) : Prop where
  ex : ∃ (oc : Value) (od : Option Addr) (kV doc pm : Value) (an : Option Addr) (ct : Value) (osl : Array (Option Value)), fd = PySem.W.fnOf x qual (defArgs st) (defBody st) (defScope st) .none kV doc pm an (.ref c) ct ∧ K.lookup f = some ⟨oc, od, .func fd, osl⟩ ∧ PySem.W.codeIn K (.ref c) qual = true
  kp : PySem.W.keepIn K (.ref f) = true
section
variable {P : Program} {w : World} {K : PySem.W.Frag} {mg : Str → Option Value} {base : Heap}
theorem FunC.fn {x qual : Str} {st : Stmt} {f c : Addr} {fd : FuncData} (F : FunC K x qual st f c fd) : Fun K x qual st f fd := by
  obtain ⟨oc, od, kV, doc, pm, an, ct, osl, e, l, cd⟩ := F.ex
  exact ⟨⟨oc, od, kV, doc, pm, an, .ref c, ct, osl, e, l, cd⟩, F.kp⟩
theorem FunC.ok {x qual : Str} {st : Stmt} {f c : Addr} {fd : FuncData} {N ps : List Str} {k : Nat} {sp : Sp} (F : FunC K x qual st f c fd) (S : FnScope N ps (defScope st)) (len : ∀ vs H Q E, sp vs H Q E → vs.length = ps.length)
    (body : ∀ (A : Around) (outer : List Env) (s : Shared) (H : Hp) (vs : List V) (Q : VK) (E : XK), Room k (A.deeper (envOfC qual (defScope st) s.heap.objs.size f (.ref c))) → sp vs H Q E →
      ∃ t, PSs (cxOf CX0 P w K mg base N qual (defScope st) f (.ref c) A outer s H E).nox (defBody st) t ∧ t { nx := fun _ H' => Q .non H', rt := Q } (start N vs) H) : FnOk P w K mg base CX0 (k + 1) f fd ps sp := by
  obtain ⟨oc, od, kV, doc, pm, an, ct, osl, rfl, lk, hcd⟩ := F.ex
  refine fn_of lk hcd S len fun A outer s H vs Q E hr hsp => ?_
  obtain ⟨t, h, q⟩ := body A outer s H vs Q E hr hsp
  exact ⟨t, h.nox, q⟩
end
end Se
namespace Sl
open PySem PySem.Spec PyProof.Rows L2
theorem filter_take {α : Type} {f : α → Bool} {l : List α} {i : Nat} {x : α} (h : l[i]? = some x) : (l.take (i + 1)).filter f = (l.take i).filter f ++ (if f x = true then [x] else []) := by
  rw [List.take_add_one, h, List.filter_append]
  congr 1
  show List.filter f [x] = _
  cases e : f x with
  | true => rw [List.filter_cons_of_pos e]; rfl
  | false => rw [List.filter_cons_of_neg (by rw [e]; decide)]; rfl
theorem filter_all {α : Type} (f : α → Bool) (l : List α) : decide (V.int ((l.filter (fun x => !f x)).length : Int) = V.int 0) = l.all f := by
  cases e : l.all f with
  | true =>
    have z : l.filter (fun x => !f x) = [] := List.filter_eq_nil_iff.mpr fun x hx h => by
      have := List.all_eq_true.mp e x hx
      rw [this] at h
      cases h
    rw [z]
    rfl
  | false =>
    obtain ⟨x, hx, h⟩ := List.all_eq_false.mp e
    have := List.length_pos_of_mem (List.mem_filter (p := fun x => !f x).mpr ⟨hx, (by cases g : f x with | true => exact absurd g h | false => rfl : (!f x) = true)⟩)
    exact decide_eq_false fun z => by
      have := V.int.inj z
      omega
end Sl
namespace St
open PySem PySem.Spec PyProof.Rows L2 Nw
/-! ### set(xs) of a list of whole numbers, and sorted of it -/
/-- a set as it begins -/
abbrev bare (w : World) : Obj := { cls := .type "set", dict := none, data := .set #[] 0 (.fresh 0 0 (!w.params.followText "set-order")) }
section
variable {P : Program} {w : World} {A : Around} {E : Value → Shared → Prop} {s : Shared}
set_option maxRecDepth 100000 in
set_option maxHeartbeats 3200000 in
theorem set_of_list {l : Addr} {xs : Array Value} (ks : List Int) {Q : Value → Shared → Prop} (hA : A.handled = none) (hx : s.heap.IsList l xs) (hk : IntsAre xs.toList ks) (few : ks.length + 1 < scanBound)
    (want : ∀ (h' : Heap) (tk c : Nat), SetR w h' s.heap.objs.size (fun j => decide (j ∈ ks)) c → c ≤ ks.length → (∀ b o, s.heap.get? b = some o → h'.get? b = some o) → Q (.ref s.heap.objs.size) { s with heap := h', toks := tk }) :
    wpAny (model P w) A (call (.type "set") [.ref l]) Q E s := by
  have sz : xs.size = ks.length := by rw [← Array.length_toList]; exact IntsAre.length hk
  obtain ⟨c, tl, hmro⟩ := F.called_set.mro
  have m1 := F.called_set.made
  have m2 := F.called_set.sub
  have m3 := F.called_set.notType
  have m4 := F.called_set.canCreate
  have m5 := F.typeCall_set_1 (.ref l)
  refine wpAny_call (codeAny_of_tree (wpAny_pure ⟨Code.quiet_builtin _ (by decide +kernel), codeAny_builtin F.entry_type_call ?_⟩))
  rw [Around.under_plain (weight_type_call_type "set" [.ref l] []) rfl]
  repeat (any_goals (first | assumption | wp_step))
  refine codeAny_mono (code_set_led1 (.ref l) (E := E) (Q₁ := fun o s1 => o = .ref s.heap.objs.size ∧ s1 = { s with heap := s.heap.push (bare w) }) ⟨rfl, rfl⟩) fun r s1 hr => ?_
  cases r with
  | error e => exact hr
  | ok fl =>
    cases fl with
    | next => exact hr.elim
    | brk => exact hr.elim
    | cont => exact hr.elim
    | ret o =>
      obtain ⟨rfl, rfl⟩ := hr
      have g0 : (s.heap.push (bare w)).get? s.heap.objs.size = some (bare w) := Heap.get?_push_size _ rfl
      have t0 : Shared.TypeIs { s with heap := s.heap.push (bare w) } (.ref s.heap.objs.size) "set" := ⟨_, g0, rfl⟩
      have m6 := F.called_set.init.lookup
      have m7 := F.called_set.init.bind (.ref s.heap.objs.size)
      repeat (any_goals (first | assumption | wp_step))
      refine codeAny_mono (codeAny_call_builtin (R := wants (fun r s2 => r = .none ∧ ∃ h' tk c, s2 = { s with heap := h', toks := tk } ∧ SetR w h' s.heap.objs.size (fun j => decide (j ∈ ks)) c ∧ c ≤ ks.length ∧ ∀ b o, s.heap.get? b = some o → h'.get? b = some o) E) F.called_set.init.plain F.entry_set_init (check_set_init_1 t0 ?_)) fun r2 s2 hr2 => ?_
      · obtain ⟨ol, g1, hc, nl, hd⟩ := hx
        have lt : l < s.heap.objs.size := Heap.lt_size g1
        obtain ⟨oc, od, oda, osl⟩ := ol
        dsimp only at hc hd
        subst hc hd
        have g2 : (s.heap.push (bare w)).get? l = some { cls := .type "list", dict := od, data := .seq xs nl, slots := osl } := Heap.get?_push_of_some _ g1
        have i1 : (s.heap.push (bare w)).IsList l xs := ⟨_, g2, rfl, nl, rfl⟩
        have m8 := F.sub_list_set
        have m9 := F.sub_list_frozenset
        have m10 : (Value.type "list" == Value.type "dict") = false := by decide
        have szp : (s.heap.push (bare w)).objs.size = s.heap.objs.size + 1 := Heap.size_push ..
        unfold Builtin.«set.__init__» noKeywords Builtin.Frozenset.updateFrom
        generalize hPI : pyIter = PI
        wp_walk
        subst hPI
        refine wpAny_pyIter_list i1 (wpAny_bind (wpAny_runValue ?_))
        have ne1 : l ≠ (s.heap.push (bare w)).objs.size := by rw [szp]; exact Nat.ne_of_lt (Nat.lt_succ_of_lt lt)
        have ne2 : s.heap.objs.size ∉ [(s.heap.push (bare w)).objs.size, l] := by
          rw [szp]
          simp only [List.mem_cons, List.not_mem_nil, or_false, not_or]
          exact ⟨Nat.ne_of_lt (Nat.lt_succ_self _), Nat.ne_of_gt lt⟩
        have at_ : ∀ (i : Nat) (v : Value), xs[i]? = some v → ∃ k t, ks[i]? = some k ∧ v = .int k t := fun i v hv => by
          have hi : i < ks.length := by rw [← sz]; exact (Array.getElem?_eq_some_iff.mp hv).1
          obtain ⟨t, e⟩ := IntsAre.int_at hk i v (by rw [Array.getElem?_toList]; exact hv)
          rw [List.getD_eq_getElem?_getD, List.getElem?_eq_getElem hi, Option.getD_some] at e
          exact ⟨ks[i], t, List.getElem?_eq_getElem hi, e⟩
        have hA3 : A.in1.in1.in1.handled = none := by simp [hA]
        refine set_update_ints ((Walks.list hA3 _ l ne1 xs).toS) s.heap.objs.size ne2 ks sz few at_ (xs.size - 0) 0 _ (by omega) (Nat.zero_le _) ⟨⟨_, Heap.get?_push_size _ rfl, rfl, rfl⟩, i1.push _⟩ ⟨0, Nat.le_refl 0, setR_new_at (Heap.get?_push_of_some _ g0)⟩ ?_
        intro s' c' hm hc' hS'
        obtain ⟨h', g', d', tk', os'⟩ := s'
        obtain rfl : g' = s.gens := hm.gens
        obtain rfl : d' = s.drawn := hm.drawn
        obtain rfl : os' = s.os := hm.os
        show wpAny _ _ _ _ _ _
        refine wpAny_pure (wpAny_pure ⟨rfl, h', tk', c', rfl, hS', by omega, fun b o e => ?_⟩)
        have lb : b < s.heap.objs.size := Heap.lt_size e
        refine hm.heap b o ?_ (Heap.get?_push_of_some _ (Heap.get?_push_of_some _ e))
        rw [szp]
        simp only [List.mem_cons, List.not_mem_nil, or_false, not_or]
        exact ⟨Nat.ne_of_lt lb, Nat.ne_of_lt (Nat.lt_succ_of_lt lb)⟩
      · cases r2 with
        | error e => exact hr2
        | ok f2 =>
          cases f2 with
          | next => exact hr2.elim
          | brk => exact hr2.elim
          | cont => exact hr2.elim
          | ret r =>
            obtain ⟨rfl, h', tk, c', rfl, hS', hc', hk'⟩ := hr2
            repeat (any_goals (first | assumption | wp_step))
            exact want _ _ _ hS' hc' hk'
end
end St
namespace St
open PySem PySem.Spec PyProof.Rows L2 Nw
theorem cr_setL {X : Cx} (hc : X.calm = true) : CallR X (.type "set") (fun xs H Q => ∃ (a : Addr) (ns : List Int), xs = [.ref a] ∧ SqL X.K H a (ns.map V.int) ∧ ns.length ≤ 60 ∧ ∀ p H2 n, H p = none → Same H H2 → H2 p = some (SetO X.w p (fun j => decide (j ∈ ns)) n) → n ≤ ns.length → Q (.ref p) H2) := by
  intro pins s σ H xs us Q I r h
  obtain ⟨a, ns, rfl, hs, hl, q⟩ := h
  obtain ⟨u, rfl, ru⟩ := Vals.one r
  cases ru
  obtain ⟨its, ri, pl, _⟩ := I.list hs
  have hn : H s.heap.objs.size = none := I.hok.fresh (Nat.le_refl _)
  refine set_of_list ns (I.ok.hd hc) (PlainL.isList pl) (by rw [List.toList_toArray]; exact Vals.ints ri) (by unfold scanBound; omega) fun h' tk c R lc k => ?_
  exact ⟨.ref s.heap.objs.size, upd H s.heap.objs.size (SetO X.w s.heap.objs.size (fun j => decide (j ∈ ns)) c), I.laid (t' := tk) k (Nat.le_refl _) (setO_new R), rfl, q _ _ c hn (same_new hn) upd_same lc⟩
theorem cr_sortedS {X : Cx} (hc : X.calm = true) : CallR X (.builtin "sorted") (fun vs H Q => ∃ (a : Addr) (S : Int → Bool) (n : Nat), vs = [V.ref a] ∧ H a = some (SetO X.w a S n) ∧ n < 64 ∧ ∀ ns : List Int, ns.Pairwise (· < ·) → (∀ k : Int, k ∈ ns ↔ S k = true) → ns.length = n → New H (.lst (ns.map V.int)) Q) :=
  call_weak (cr_sortedSet hc) fun _ _ _ ⟨a, S, n, h1, h2, h3, h4⟩ => ⟨a, S, n, h1, h2, h3, fun ns p x1 x2 x3 np => (h4 ns x1 x2 x3).to p np⟩
end St
namespace St
open PySem PySem.Spec PyProof.Rows L2 Nw
section
variable {X : Cx}
/-- sorted(t), t a tuple of whole numbers: the items are gathered in a list, then a list of these is sorted in its place -/
theorem cr_sortedT : CallR X (.builtin "sorted") (fun vs H Q => ∃ (a : Addr) (ns : List Int), vs = [V.ref a] ∧ SqT X.K H a (ns.map V.int) ∧ ∀ ns' : List Int, ns'.Perm ns → ns'.Pairwise (· ≤ ·) → New H (.lst (ns'.map V.int)) Q) := by
  intro pins s σ H vs us Q I r h
  obtain ⟨a, ns, rfl, hs, q⟩ := h
  obtain ⟨its, rv, ⟨o, ho, hcl, n, hd⟩, hz⟩ := I.tuple hs
  obtain ⟨u, rfl, ru⟩ := Vals.one r
  cases ru
  have hin := Vals.ints rv
  have lz : its.length ≤ sizeLine := by rw [← Vals.length rv]; exact hz
  refine Calls.call_function_entry PyProof.Rows.kind_sorted PyProof.Rows.plain_sorted PyProof.Rows.entry_sorted (PyProof.Rows.args_sorted1 _) ?_
  unfold Builtin.«sorted»
  refine wpAny_bind (m := checkCount "sorted" 1 1 _) (wpAny_pure (wpAny_bind (wpAny_collect_seq a (.inr rfl) ho hcl hd (fun h1 k1 => ?_) (by rw [List.size_toArray]; exact lz))))
  refine wpAny_bind (wpAny_newList ?_ (by rw [List.toList_toArray]; exact lz))
  rw [List.toList_toArray]
  have at1 : (h1.push (seqObj "list" its.toArray 0)).get? h1.objs.size = some (seqObj "list" its.toArray 0) := Heap.get?_push_size _ rfl
  have up1 : ∀ b o, s.heap.get? b = some o → b ≠ h1.objs.size ∧ (h1.push (seqObj "list" its.toArray 0)).get? b = some o := fun b o e => ⟨Nat.ne_of_lt (Heap.lt_size (k1 b o e)), Heap.get?_push_of_some _ (k1 b o e)⟩
  refine wpAny_bind (wpAny_holding (wpAny_call_entry PyProof.Rows.slot_list_sort ⟨_, at1, rfl⟩ PyProof.Rows.entry_list_sort (SrtO.list_sort_ord SrtO.swo_int at1 lz (fun h2 => SrtO.ints_sortable hin h2) fun out g1 g2 => ⟨_, rfl, ?_⟩) (PyProof.Rows.args_list_sort _)))
  obtain ⟨i1, i2, i3⟩ := SrtO.ints_out hin g1 g2
  obtain ⟨ep, hat⟩ := PyProof.Rows.sortedHeap_at (out := out.toArray) at1
  have gone : s.heap.get? h1.objs.size = none := by
    cases e : s.heap.get? h1.objs.size with
    | none => rfl
    | some o => exact absurd (Heap.lt_size (k1 _ o e)) (Nat.lt_irrefl _)
  have hn : H h1.objs.size = none := I.hok.gone gone
  have old : ∀ b o, s.heap.get? b = some o → (PyProof.Rows.sortedHeap (h1.push (seqObj "list" its.toArray 0)) h1.objs.size its out.toArray).get? b = some o := fun b o e => by
    rw [PyProof.Rows.sortedHeap_old (up1 b o e).1 (Heap.lt_size (up1 b o e).2)]
    exact (up1 b o e).2
  have len : ((out.map SrtO.iv).map V.int).length ≤ sizeLine := by
    rw [List.length_map, i2.length_eq]
    rw [List.length_map] at hz
    exact hz
  refine wpAny_pure ⟨_, rfl, .ref h1.objs.size, upd H h1.objs.size (.lst ((out.map SrtO.iv).map V.int)), I.laidN (t' := s.toks) old gone hn ⟨len, out, ep, vals_of_ints i1, hat⟩, rfl, (q _ i2 i3).to _ hn⟩
end
end St
namespace St2
open PySem PySem.Spec PyProof.Rows L2 Nw
/-! ### set(t) of a tuple of whole numbers -/
/-- a set as it begins -/
abbrev bare (w : World) : Obj := { cls := .type "set", dict := none, data := .set #[] 0 (.fresh 0 0 (!w.params.followText "set-order")) }
section
variable {P : Program} {w : World} {A : Around} {E : Value → Shared → Prop} {s : Shared}
set_option maxRecDepth 100000 in
set_option maxHeartbeats 3200000 in
theorem set_of_tup {l : Addr} {xs : Array Value} (ks : List Int) {Q : Value → Shared → Prop} (hA : A.handled = none) (hx : s.heap.IsTuple l xs) (hk : IntsAre xs.toList ks) (few : ks.length + 1 < scanBound)
    (want : ∀ (h' : Heap) (tk c : Nat), SetR w h' s.heap.objs.size (fun j => decide (j ∈ ks)) c → c ≤ ks.length → (∀ b o, s.heap.get? b = some o → h'.get? b = some o) → Q (.ref s.heap.objs.size) { s with heap := h', toks := tk }) :
    wpAny (model P w) A (call (.type "set") [.ref l]) Q E s := by
  have sz : xs.size = ks.length := by rw [← Array.length_toList]; exact IntsAre.length hk
  obtain ⟨c, tl, hmro⟩ := F.called_set.mro
  have m1 := F.called_set.made
  have m2 := F.called_set.sub
  have m3 := F.called_set.notType
  have m4 := F.called_set.canCreate
  have m5 := F.typeCall_set_1 (.ref l)
  refine wpAny_call (codeAny_of_tree (wpAny_pure ⟨Code.quiet_builtin _ (by decide +kernel), codeAny_builtin F.entry_type_call ?_⟩))
  rw [Around.under_plain (weight_type_call_type "set" [.ref l] []) rfl]
  repeat (any_goals (first | assumption | wp_step))
  refine codeAny_mono (code_set_led1 (.ref l) (E := E) (Q₁ := fun o s1 => o = .ref s.heap.objs.size ∧ s1 = { s with heap := s.heap.push (bare w) }) ⟨rfl, rfl⟩) fun r s1 hr => ?_
  cases r with
  | error e => exact hr
  | ok fl =>
    cases fl with
    | next => exact hr.elim
    | brk => exact hr.elim
    | cont => exact hr.elim
    | ret o =>
      obtain ⟨rfl, rfl⟩ := hr
      have g0 : (s.heap.push (bare w)).get? s.heap.objs.size = some (bare w) := Heap.get?_push_size _ rfl
      have t0 : Shared.TypeIs { s with heap := s.heap.push (bare w) } (.ref s.heap.objs.size) "set" := ⟨_, g0, rfl⟩
      have m6 := F.called_set.init.lookup
      have m7 := F.called_set.init.bind (.ref s.heap.objs.size)
      repeat (any_goals (first | assumption | wp_step))
      refine codeAny_mono (codeAny_call_builtin (R := wants (fun r s2 => r = .none ∧ ∃ h' tk c, s2 = { s with heap := h', toks := tk } ∧ SetR w h' s.heap.objs.size (fun j => decide (j ∈ ks)) c ∧ c ≤ ks.length ∧ ∀ b o, s.heap.get? b = some o → h'.get? b = some o) E) F.called_set.init.plain F.entry_set_init (check_set_init_1 t0 ?_)) fun r2 s2 hr2 => ?_
      · obtain ⟨ol, g1, hc, nl, hd⟩ := hx
        have lt : l < s.heap.objs.size := Heap.lt_size g1
        obtain ⟨oc, od, oda, osl⟩ := ol
        dsimp only at hc hd
        subst hc hd
        have g2 : (s.heap.push (bare w)).get? l = some { cls := .type "tuple", dict := od, data := .seq xs nl, slots := osl } := Heap.get?_push_of_some _ g1
        have i1 : (s.heap.push (bare w)).IsTuple l xs := ⟨_, g2, rfl, nl, rfl⟩
        have m8 := F.sub_tuple_set
        have m9 := F.sub_tuple_frozenset
        have m10 : (Value.type "tuple" == Value.type "dict") = false := by decide
        have szp : (s.heap.push (bare w)).objs.size = s.heap.objs.size + 1 := Heap.size_push ..
        unfold Builtin.«set.__init__» noKeywords Builtin.Frozenset.updateFrom
        generalize hPI : pyIter = PI
        wp_walk
        subst hPI
        refine wpAny_pyIter_tuple i1 (wpAny_bind (wpAny_runValue ?_))
        have ne1 : l ≠ (s.heap.push (bare w)).objs.size := by rw [szp]; exact Nat.ne_of_lt (Nat.lt_succ_of_lt lt)
        have ne2 : s.heap.objs.size ∉ [(s.heap.push (bare w)).objs.size, l] := by
          rw [szp]
          simp only [List.mem_cons, List.not_mem_nil, or_false, not_or]
          exact ⟨Nat.ne_of_lt (Nat.lt_succ_self _), Nat.ne_of_gt lt⟩
        have at_ : ∀ (i : Nat) (v : Value), xs[i]? = some v → ∃ k t, ks[i]? = some k ∧ v = .int k t := fun i v hv => by
          have hi : i < ks.length := by rw [← sz]; exact (Array.getElem?_eq_some_iff.mp hv).1
          obtain ⟨t, e⟩ := IntsAre.int_at hk i v (by rw [Array.getElem?_toList]; exact hv)
          rw [List.getD_eq_getElem?_getD, List.getElem?_eq_getElem hi, Option.getD_some] at e
          exact ⟨ks[i], t, List.getElem?_eq_getElem hi, e⟩
        have hA3 : A.in1.in1.in1.handled = none := by simp [hA]
        refine set_update_ints ((Walks.tuple hA3 _ l ne1 xs).toS) s.heap.objs.size ne2 ks sz few at_ (xs.size - 0) 0 _ (by omega) (Nat.zero_le _) ⟨⟨_, Heap.get?_push_size _ rfl, rfl, rfl⟩, i1.push _⟩ ⟨0, Nat.le_refl 0, setR_new_at (Heap.get?_push_of_some _ g0)⟩ ?_
        intro s' c' hm hc' hS'
        obtain ⟨h', g', d', tk', os'⟩ := s'
        obtain rfl : g' = s.gens := hm.gens
        obtain rfl : d' = s.drawn := hm.drawn
        obtain rfl : os' = s.os := hm.os
        show wpAny _ _ _ _ _ _
        refine wpAny_pure (wpAny_pure ⟨rfl, h', tk', c', rfl, hS', by omega, fun b o e => ?_⟩)
        have lb : b < s.heap.objs.size := Heap.lt_size e
        refine hm.heap b o ?_ (Heap.get?_push_of_some _ (Heap.get?_push_of_some _ e))
        rw [szp]
        simp only [List.mem_cons, List.not_mem_nil, or_false, not_or]
        exact ⟨Nat.ne_of_lt lb, Nat.ne_of_lt (Nat.lt_succ_of_lt lb)⟩
      · cases r2 with
        | error e => exact hr2
        | ok f2 =>
          cases f2 with
          | next => exact hr2.elim
          | brk => exact hr2.elim
          | cont => exact hr2.elim
          | ret r =>
            obtain ⟨rfl, h', tk, c', rfl, hS', hc', hk'⟩ := hr2
            repeat (any_goals (first | assumption | wp_step))
            exact want _ _ _ hS' hc' hk'
theorem cr_setT {X : Cx} (hc : X.calm = true) : CallR X (.type "set") (fun xs H Q => ∃ (a : Addr) (ns : List Int), xs = [.ref a] ∧ SqT X.K H a (ns.map V.int) ∧ ns.length ≤ 60 ∧ ∀ p H2 n, H p = none → Same H H2 → H2 p = some (SetO X.w p (fun j => decide (j ∈ ns)) n) → n ≤ ns.length → Q (.ref p) H2) := by
  intro pins s σ H xs us Q I r h
  obtain ⟨a, ns, rfl, hs, hl, q⟩ := h
  obtain ⟨u, rfl, ru⟩ := Vals.one r
  cases ru
  obtain ⟨its, ri, pl, _⟩ := I.tuple hs
  have hn : H s.heap.objs.size = none := I.hok.fresh (Nat.le_refl _)
  refine set_of_tup ns (I.ok.hd hc) (show s.heap.IsTuple a its.toArray from pl) (by rw [List.toList_toArray]; exact Vals.ints ri) (by unfold scanBound; omega) fun h' tk c R lc k => ?_
  exact ⟨.ref s.heap.objs.size, upd H s.heap.objs.size (SetO X.w s.heap.objs.size (fun j => decide (j ∈ ns)) c), I.laid (t' := tk) k (Nat.le_refl _) (setO_new R), rfl, q _ _ c hn (same_new hn) upd_same lc⟩
end
end St2
namespace Ct
open PySem PySem.Spec PyProof.Rows L2 GxR Nw Dr Kp Se
structure Zc (mg : Str → Option Value) : Prop where
  z_any : mg "any" = none
  z_isinstance : mg "isinstance" = none
  z_int : mg "int" = none
  z_bool : mg "bool" = none
  z_tuple : mg "tuple" = none
  z_sorted : mg "sorted" = none
  z_set : mg "set" = none
abbrev sHop : Stmt := topS 3
abbrev nHop : List Str := ["says", "say"]
theorem scHop : FnScope nHop ["says"] (defScope sHop) := ⟨rfl, rfl, rfl, by decide +kernel, rfl, by decide +kernel, by decide +kernel⟩
abbrev sWho : Stmt := topS 2
theorem scWho : FnScope ["thing"] ["thing"] (defScope sWho) := ⟨rfl, rfl, rfl, by decide +kernel, rfl, by decide +kernel, by decide +kernel⟩
abbrev sCme : Stmt := topS 5
theorem scCme : FnScope ["one", "other", "k"] ["one", "other", "k"] (defScope sCme) := ⟨rfl, rfl, rfl, by decide +kernel, rfl, by decide +kernel, by decide +kernel⟩
abbrev sCon : Stmt := topS 6
abbrev nCon : List Str := ["one", "other", "k", "says", "say"]
theorem scCon : FnScope nCon ["one", "other", "k"] (defScope sCon) := ⟨rfl, rfl, rfl, by decide +kernel, rfl, by decide +kernel, by decide +kernel⟩
theorem ints_flat (cs : List Int) : (cs.map V.int).all flatV = true := by
  rw [List.all_map, List.all_eq_true]
  exact fun _ _ => rfl
theorem at_int {ks : List Int} {i : Nat} {x : V} (hx : (ks.map V.int)[i]? = some x) : ∃ z, ks[i]? = some z ∧ x = V.int z := by
  rw [List.getElem?_map] at hx
  cases e : ks[i]? with
  | none =>
    rw [e] at hx
    cases hx
  | some z =>
    rw [e] at hx
    exact ⟨z, rfl, (Option.some.inj hx).symm⟩
/-- any/all over a list that stays -/
theorem aa_list {K : PySem.W.Frag} {a : Addr} {xs : List V} {g : TG} {tt : TT} {te : TE} {vs : List Nat} {σ : L2.St} {H1 : Hp} {stopb : Bool} {Q : VK} (Pv : Nat → Hp → Prop) (h0 : Pv 0 H1) (hl : ∀ i H, i ≤ xs.length → Pv i H → SqL K H a xs)
    (hs : ∀ i x H, xs[i]? = some x → Pv i H → g x (wipe σ vs) H fun σ2 H2 => wipe σ2 vs = wipe σ vs ∧ tt σ2 H2 fun b H3 => if b = true then te σ2 H3 fun y H4 => (y = .bl stopb ∧ Q (.bl stopb) H4) ∨ (y = .bl (!stopb) ∧ Pv (i + 1) H4) else Pv (i + 1) H3) (hd : ∀ H, Pv xs.length H → Q (.bl (!stopb)) H) :
    ∃ W : Nat → Nat → Hp → Prop, (∃ m, W 0 m H1) ∧ ∀ i m H, W i m H → ((Itl K a).stop i H ∧ Q (.bl (!stopb)) H) ∨ ((Itl K a).go i H ∧ ∃ Nx : Hp → Prop, (∀ H', Nx H' → ∃ m', m' < m ∧ W (i + 1) m' H') ∧ ∀ x H', (Itl K a).yld i H x H' → g x (wipe σ vs) H' fun σ2 H2 => wipe σ2 vs = wipe σ vs ∧ tt σ2 H2 fun b H3 =>
      if b = true then te σ2 H3 fun y H4 => (y = .bl stopb ∧ Q (.bl stopb) H4) ∨ (y = .bl (!stopb) ∧ Nx H4) else Nx H3) := by
  refine ⟨fun i m H => i + m = xs.length ∧ Pv i H, ⟨xs.length, Nat.zero_add _, h0⟩, fun i m H ⟨e, p⟩ => ?_⟩
  have sq := hl i H (by omega) p
  cases m with
  | zero =>
    have ei : i = xs.length := by omega
    subst ei
    exact .inl ⟨⟨xs, sq, Nat.le_refl _⟩, hd H p⟩
  | succ m =>
    have lt : i < xs.length := by omega
    refine .inr ⟨⟨xs, xs[i], sq, List.getElem?_eq_getElem lt⟩, Pv (i + 1), fun H' q => ⟨m, Nat.lt_succ_self m, by omega, q⟩, fun x H' y => ?_⟩
    obtain ⟨rfl, y⟩ := y
    exact hs i x _ (y xs sq) p
/-- two of the says are opposite -/
def oppB (ns : List Int) : Bool := ns.any fun s => decide (0 < s) && inV (.int (-s)) (ns.map V.int)
theorem take_any {α : Type} {f : α → Bool} {l : List α} {i : Nat} {x : α} (h : l[i]? = some x) (p : (l.take i).any f = false) : (f x = true → l.any f = true) ∧ (f x = false → (l.take (i + 1)).any f = false) := by
  refine ⟨fun z => List.any_eq_true.mpr ⟨x, List.mem_of_getElem? h, z⟩, fun z => ?_⟩
  rw [List.take_add_one, h, List.any_append, p]
  show (f x || false) = false
  rw [z]
  rfl
section
variable {P : Program} {w : World} {K : PySem.W.Frag} {mg : Str → Option Value} {base : Heap}
def spHop (Po : Addr) : Sp := fun vs H Q _ => ∃ (a : Addr) (ns : List Int), vs = [.ref a] ∧ H a = some (.lst (ns.map V.int)) ∧ TabG H Po ∧ ∀ H', Ke Nof H H' → Q (.bl (oppB ns)) H'
theorem ok_hop {f c Po : Addr} {fd : FuncData} {k : Nat} (F : FunC K "has_opposites" "has_opposites" sHop f c fd) (T : Zc mg) (TB : TabB base mg c Po) : FnOk P w K mg base CX0 (k + 3) f fd ["says"] (spHop Po) := by
  refine F.ok scHop (fun vs H Q E h => ?_) (fun A outer s H vs Q E hr h => ?_)
  · obtain ⟨a, ns, rfl, _⟩ := h
    rfl
  · obtain ⟨a, ns, rfl, ha, tg, q⟩ := h
    refine ⟨_, (pss_one (ps_ret (Gx.pe_any hr (by rfl) T.z_any rfl scHop.nd TB rfl (pi_list (pv 0)) (own := [("say", 1)]) (g := gName 1) (blkOk_by (N := nHop) (sc := defScope sHop) (by decide +kernel)) ⟨rfl, by decide +kernel, rfl⟩ (fun _ _ _ _ _ _ _ => pg_name (i := 1) scHop.nd rfl (.inl rfl)) (fun _ _ _ _ _ _ _ => (pts_one (pt_cmpR op_gt (pv 1) pe_int (nomark _)))) (fun _ _ _ _ _ _ _ => (pe_cmpR (op_in_seqB (K := K) rfl) (pe_un un_neg (pv 1)) (pv 0) (by rfl)))))), ?_⟩
    refine ⟨_, rfl, a, rfl, ⟨_, .of ha⟩, tg, fun H1 tb => ?_⟩
    have k1 : Ke Nof H H1 := .tabbed tg tb
    refine aa_list (xs := ns.map V.int) (Pv := fun i H' => Ke Nof H H' ∧ (ns.take i).any (fun s => decide (0 < s) && inV (.int (-s)) (ns.map V.int)) = false) ⟨k1, rfl⟩ (fun i H' _ p => .of (p.1.lst ha fun z => z)) ?_ ?_
    · rintro i x H' hx ⟨k2, p⟩
      obtain ⟨z, hz, rfl⟩ := at_int hx
      obtain ⟨t1, t2⟩ := take_any hz p
      refine ⟨rfl, _, rfl, _, _, rfl, rfl, _, rfl, ite2 (fun y1 => ?_) (fun y1 => ?_)⟩
      · refine ⟨_, rfl, _, rfl, _, rfl, a, _, rfl, .inl (.of (k2.lst ha fun z => z)), rfl, ints_flat ns, ?_⟩
        cases e : inV (.int (-z)) (ns.map V.int) with
        | true =>
          refine .inl ⟨rfl, ?_⟩
          have := q H' k2
          rw [show oppB ns = true from t1 (by rw [e, Bool.and_true]; exact y1)] at this
          exact this
        | false => exact .inr ⟨rfl, k2, t2 (by rw [e, Bool.and_false])⟩
      · exact ⟨k2, t2 (by rw [show decide (0 < z) = false from Bool.eq_false_iff.mpr y1, Bool.false_and])⟩
    · rintro H' ⟨k2, p⟩
      rw [List.length_map, List.take_length] at p
      have := q H' k2
      rw [show oppB ns = false from p] at this
      exact this
def spWho : Sp := fun vs H Q _ => ∃ k : Int, vs = [.int k] ∧ Q (.bl true) H
theorem ok_who {f : Addr} {fd : FuncData} {k : Nat} (F : Fun K "is_whole" "is_whole" sWho f fd) (T : Zc mg) : FnOk P w K mg base CX0 (k + 1) f fd ["thing"] spWho := by
  refine F.ok scWho (fun vs H Q E h => ?_) (fun cdv A outer s H vs Q E hr h => ?_)
  · obtain ⟨k, rfl, _⟩ := h
    rfl
  · obtain ⟨k, rfl, q⟩ := h
    refine ⟨_, (pss_one (ps_ret (pe_and (pe_callB call_isi (by rfl) T.z_isinstance (by decide +kernel) (pa_cons (pv 0) (pa_cons (pe_bltn (v := .ty "int") (u := .type "int") (by rfl) T.z_int (by decide +kernel) rfl) pa_nil))) (pe_one (pe_not (pe_callB call_isi (by rfl) T.z_isinstance (by decide +kernel) (pa_cons (pv 0) (pa_cons (pe_bltn (v := .ty "bool") (u := .type "bool") (by rfl) T.z_bool (by decide +kernel) rfl) pa_nil)))))))), ?_⟩
    refine ⟨_, rfl, .int k, .ty "int", .type "int", .type "int", true, rfl, .ty _, .base (.int k), kit_ty (by decide +kernel), _, rfl, ?_⟩
    refine ⟨_, rfl, .int k, .ty "bool", .type "int", .type "bool", false, rfl, .ty _, .base (.int k), kit_ty (by decide +kernel), _, rfl, q⟩
/-- k meets -/
def meetB (cs ds : List Int) (k : Int) : Bool := decide (1 ≤ k) && decide (k ≤ 8) && inV (.int k) (cs.map V.int) && inV (.int (-k)) (ds.map V.int)
def spCme : Sp := fun vs H Q _ => ∃ (v u : V) (k : Int) (cs ds : List Int), vs = [v, u, .int k] ∧ TupI H v cs ∧ TupI H u ds ∧ Q (.bl (meetB cs ds k)) H
theorem ok_cme {f fW : Addr} {fd fdW : FuncData} {k : Nat} {tk : Tok} (F : Fun K "can_meet" "can_meet" sCme f fd) (T : Zc mg) (M8 : mg "MOST_THINGS" = some (.int 8 tk)) (FW : Fun K "is_whole" "is_whole" sWho fW fdW) (bW : Binds K fdW ["thing"] []) (gW : mg "is_whole" = some (.ref fW)) (GW : FnOk P w K mg base CX0 1 fW fdW ["thing"] spWho) :
    FnOk P w K mg base CX0 (k + 2) f fd ["one", "other", "k"] spCme := by
  refine F.ok scCme (fun vs H Q E h => ?_) (fun cdv A outer s H vs Q E hr h => ?_)
  · obtain ⟨v, u, k, cs, ds, rfl, _⟩ := h
    rfl
  · obtain ⟨v, u, k, cs, ds, rfl, ⟨a, rfl, ha⟩, ⟨b, rfl, hb⟩, q⟩ := h
    have hr1 : Room 1 _ := hr.mono (by omega)
    refine ⟨_, (pss_one (ps_ret (pe_and (pe_call GW hr1 (by rfl) gW FW.kp bW .nil pass0 (pa_cons (pv 2) pa_nil)) (pe_and (pe_chain op_le op_le pe_int (pv 2) (pe_glob (v := .int 8) rfl M8 ⟨_, rfl⟩)) (pe_and (pe_cmpR op_in_seq (pv 2) (pv 0) (by rfl)) (pe_one (pe_cmpR op_in_seq (pe_un un_neg (pv 2)) (pv 1) (by rfl)))))))), ?_⟩
    refine ⟨_, rfl, k, rfl, _, rfl, ?_⟩
    unfold meetB at q
    refine ⟨_, rfl, 1, _, rfl, rfl, decide (1 ≤ k), rfl, ?_⟩
    cases e1 : decide (1 ≤ k) with
    | false =>
      rw [e1] at q
      exact ⟨_, rfl, q⟩
    | true =>
      refine ⟨_, _, rfl, rfl, decide (k ≤ 8), rfl, ?_⟩
      cases e2 : decide (k ≤ 8) with
      | false =>
        rw [e1, e2] at q
        exact q
      | true =>
        refine ⟨_, rfl, _, rfl, a, _, rfl, .inr (.of ha), rfl, ints_flat cs, _, rfl, ?_⟩
        cases e3 : inV (.int k) (cs.map V.int) with
        | false =>
          rw [e1, e2, e3] at q
          exact q
        | true =>
          rw [e1, e2, e3] at q
          exact ⟨_, rfl, _, rfl, _, rfl, b, _, rfl, .inr (.of hb), rfl, ints_flat ds, q⟩
/-- what is said besides -/
def saysB (cs ds : List Int) (k : Int) : List Int := (cs.filter fun s => !decide (V.int s = V.int k)) ++ ds.filter fun s => !decide (V.int s = V.int (-k))
theorem filt_take {α : Type} {f : α → Bool} {l : List α} {i : Nat} {x : α} (h : l[i]? = some x) : (l.take (i + 1)).filter f = (l.take i).filter f ++ (if f x = true then [x] else []) := by
  rw [List.take_add_one, h, List.filter_append]
  congr 1
  show [x].filter f = _
  cases e : f x with
  | true => rw [List.filter_cons_of_pos e]; rfl
  | false => rw [List.filter_cons_of_neg (by rw [e]; decide)]; rfl
def spCon (Po : Addr) : Sp := fun vs H Q _ => ∃ (v u : V) (k : Int) (cs ds : List Int), vs = [v, u, .int k] ∧ TupI H v cs ∧ TupI H u ds ∧ cs.length ≤ 20 ∧ ds.length ≤ 20 ∧ TabG H Po ∧
  (∀ H', Ke Nof H H' → (meetB cs ds k = false ∨ oppB (saysB cs ds k) = true) → Q .non H') ∧
  ∀ (ns : List Int) (p : Addr) (H' : Hp), Ke Nof H H' → meetB cs ds k = true → oppB (saysB cs ds k) = false → ns.Pairwise (· < ·) → (∀ j, j ∈ ns ↔ j ∈ saysB cs ds k) → H' p = some (.tup (ns.map V.int)) → Q (.ref p) H'
theorem ok_con {f fM fH Po : Addr} {fd fdM fdH : FuncData} {k : Nat} (F : Fun K "cut_or_none" "cut_or_none" sCon f fd) (T : Zc mg) (FM : Fun K "can_meet" "can_meet" sCme fM fdM) (bM : Binds K fdM ["one", "other", "k"] []) (gM : mg "can_meet" = some (.ref fM)) (GM : FnOk P w K mg base CX0 2 fM fdM ["one", "other", "k"] spCme)
    (kpH : PySem.W.keepIn K (.ref fH) = true) (bH : Binds K fdH ["says"] []) (gH : mg "has_opposites" = some (.ref fH)) (GH : FnOk P w K mg base CX0 3 fH fdH ["says"] (spHop Po)) :
    FnOk P w K mg base CX0 (k + 4) f fd ["one", "other", "k"] (spCon Po) := by
  refine F.ok scCon (fun vs H Q E h => ?_) (fun cdv A outer s H vs Q E hr h => ?_)
  · obtain ⟨v, u, k, cs, ds, rfl, _⟩ := h
    rfl
  · obtain ⟨v, u, k, cs, ds, rfl, tv, tu, lc, ld, tg, q1, q2⟩ := h
    have hr2 : Room 2 _ := hr.mono (by omega)
    have hr3 : Room 3 _ := hr.mono (by omega)
    refine ⟨_, (pss_cons (ps_if (pt_not (pt_val (pe_call GM hr2 (by rfl) gM FM.kp bM .nil pass0 (pa_cons (pv 0) (pa_cons (pv 1) (pa_cons (pv 2) pa_nil)))))) (pss_one (ps_ret pe_non)) pss_nil)
      (Evl.pss_cut (ps_set (i := 3) scCon.nd rfl (.inl rfl) (pe_op op_catN (pe_lc (own := [("say", 4)]) (g := (gName 4))  rfl scCon.nd (pi_tup (pv 0)) (blkOk_by (N := nCon) (sc := defScope sCon) (by decide +kernel)) (fun _ _ _ _ _ => (pg_name (i := 4) scCon.nd rfl (.inl rfl))) (fun _ _ _ _ _ => (pts_one (pt_cmpR op_ne (pv 4) (pv 2) (nomark _)))) (fun _ _ _ _ _ => (pv 4))) (pe_lc (own := [("say", 4)]) (g := (gName 4))  rfl scCon.nd (pi_tup (pv 1)) (blkOk_by (N := nCon) (sc := defScope sCon) (by decide +kernel)) (fun _ _ _ _ _ => (pg_name (i := 4) scCon.nd rfl (.inl rfl))) (fun _ _ _ _ _ => (pts_one (pt_cmpR op_ne (pv 4) (pe_un un_neg (pv 2)) (nomark _)))) (fun _ _ _ _ _ => (pv 4)))))
      (pss_cons (ps_if (pt_val (pe_call GH hr3 (by rfl) gH kpH bH .nil pass0 (pa_cons (pv 3) pa_nil))) (pss_one (ps_ret pe_non)) pss_nil)
      (pss_one (ps_ret (pe_callTy call_tuple_ofN (by rfl) T.z_tuple (by decide +kernel) (pa_cons (pe_callB (St.cr_sortedS rfl) (by rfl) T.z_sorted (by decide +kernel) (pa_cons (pe_callTy (St.cr_setL rfl) (by rfl) T.z_set (by decide +kernel) (pa_cons (pv 3) pa_nil)) pa_nil)) pa_nil))))))), ?_⟩
    obtain ⟨a, rfl, ha⟩ := id tv
    obtain ⟨b, rfl, hb⟩ := id tu
    refine ⟨_, rfl, _, rfl, _, rfl, .ref a, .ref b, k, cs, ds, rfl, tv, tu, _, rfl, ?_⟩
    cases e1 : meetB cs ds k with
    | false => exact q1 H (.refl _ _) (.inl e1)
    | true =>
      refine Evl.q_cut (M := fun σ' H' => ∃ p : Addr, σ' = [some (.ref a), some (.ref b), some (.int k), some (.ref p), none] ∧ Same H H' ∧ H' p = some (.lst ((saysB cs ds k).map V.int))) ?_ ?_
      · refine ⟨_, rfl, a, rfl, ⟨_, .of ha⟩, fun D nD => ?_⟩
        refine lc_tup (xs := cs.map V.int) (Pv := fun i H' => Same H H' ∧ H' D = some (.lst (((cs.take i).filter fun s => !decide (V.int s = V.int k)).map V.int))) ⟨same_new nD, upd_same⟩ (fun i H' _ p => .of (p.1 _ _ ha)) ?_ ?_
        · rintro i x H' hx ⟨s1, hD⟩
          obtain ⟨z, hz, rfl⟩ := at_int hx
          have ft := filt_take (f := fun s => !decide (V.int s = V.int k)) hz
          refine ⟨rfl, _, rfl, _, rfl, rfl, _, rfl, ite2 (fun y1 => ?_) (fun y1 => ?_)⟩
          · refine ⟨_, rfl, _, hD, ?_, fun c o y => ?_, ?_⟩
            · rw [List.length_map]
              exact small1000 (Nat.le_trans (List.length_filter_le _ _) (by rw [List.length_take]; omega))
            · rw [upd_ne (ne_of_none y nD)]
              exact s1 _ _ y
            · rw [upd_same, ft, if_pos y1, List.map_append]
              rfl
          · refine ⟨s1, ?_⟩
            rw [ft, if_neg y1, List.append_nil]
            exact hD
        rintro H1 ⟨s1, hD⟩
        rw [List.length_map, List.take_length] at hD
        refine ⟨_, rfl, b, rfl, ⟨_, .of (s1 _ _ hb)⟩, fun D2 nD2 => ?_⟩
        refine lc_tup (xs := ds.map V.int) (Pv := fun i H' => Same H1 H' ∧ H' D2 = some (.lst (((ds.take i).filter fun s => !decide (V.int s = V.int (-k))).map V.int))) ⟨same_new nD2, upd_same⟩ (fun i H' _ p => .of (p.1 _ _ (s1 _ _ hb))) ?_ ?_
        · rintro i x H' hx ⟨s2, hD2⟩
          obtain ⟨z, hz, rfl⟩ := at_int hx
          have ft := filt_take (f := fun s => !decide (V.int s = V.int (-k))) hz
          refine ⟨rfl, _, rfl, _, rfl, _, rfl, rfl, _, rfl, ite2 (fun y1 => ?_) (fun y1 => ?_)⟩
          · refine ⟨_, rfl, _, hD2, ?_, fun c o y => ?_, ?_⟩
            · rw [List.length_map]
              exact small1000 (Nat.le_trans (List.length_filter_le _ _) (by rw [List.length_take]; omega))
            · rw [upd_ne (ne_of_none y nD2)]
              exact s2 _ _ y
            · rw [upd_same, ft, if_pos y1, List.map_append]
              rfl
          · refine ⟨s2, ?_⟩
            rw [ft, if_neg y1, List.append_nil]
            exact hD2
        rintro H2 ⟨s2, hD2⟩
        rw [List.length_map, List.take_length] at hD2
        refine ⟨D, D2, _, _, rfl, rfl, s2 _ _ hD, hD2, ?_, fun p H3 np s3 hp _ => ?_⟩
        · rw [List.length_map, List.length_map]
          have h1 := List.length_filter_le (fun s => !decide (V.int s = V.int k)) cs
          have h2 := List.length_filter_le (fun s => !decide (V.int s = V.int (-k))) ds
          exact Nat.le_trans (by omega : _ ≤ 1000) (by decide)
        · rw [← List.map_append] at hp
          exact ⟨p, rfl, (s1.trans s2).trans s3, hp⟩
      rintro σ' H1 ⟨p, rfl, s1, hp⟩
      have k1 : Ke Nof H H1 := .same s1
      refine ⟨_, rfl, p, _, rfl, hp, k1.tabs _ tg, fun H2 k2 => ⟨_, rfl, ?_⟩⟩
      have k12 := k1.trans k2
      cases e2 : oppB (saysB cs ds k) with
      | true => exact q1 H2 k12 (.inr e2)
      | false =>
        have hp2 := k2.lst hp fun z => z
        have ls : (saysB cs ds k).length ≤ 40 := by
          unfold saysB
          rw [List.length_append]
          have h1 := List.length_filter_le (fun s => !decide (V.int s = V.int k)) cs
          have h2 := List.length_filter_le (fun s => !decide (V.int s = V.int (-k))) ds
          omega
        refine ⟨_, rfl, p, _, rfl, .of hp2, by omega, fun r H3 n nr s3 hr' ln => ?_⟩
        refine ⟨r, _, n, rfl, hr', by omega, fun es up me le r2 H4 nr2 s4 h4 _ => ?_⟩
        refine ⟨r2, _, rfl, .of h4, fun r3 H5 nr3 s5 h5 _ => ?_⟩
        exact q2 es r3 H5 (k12.trans (.same ((s3.trans s4).trans s5))) e1 e2 up (fun j => (me j).trans decide_eq_true_iff) h5
end
end Ct
namespace Ct
open PySem PySem.Spec PyProof.Rows L2 GxR Nw Dr Kp Se
structure Zd (mg : Str → Option Value) : Prop where
  z_tuple : mg "tuple" = none
  z_sorted : mg "sorted" = none
  z_set : mg "set" = none
  z_abs : mg "abs" = none
abbrev sSct : Stmt := topS 25
abbrev nSct : List Str := ["one", "other", "k", "says", "say"]
theorem scSct : FnScope nSct ["one", "other", "k"] (defScope sSct) := ⟨rfl, rfl, rfl, by decide +kernel, rfl, by decide +kernel, by decide +kernel⟩
theorem in_ints (k : Int) : ∀ cs : List Int, inV (.int k) (cs.map V.int) = true ↔ k ∈ cs
  | [] => by
    constructor
    · intro h
      cases h
    · intro h
      cases h
  | c :: r => by
    have ih := in_ints k r
    show (eqV (.int c) (.int k) || inV (.int k) (r.map V.int)) = true ↔ _
    rw [Bool.or_eq_true, ih, List.mem_cons]
    have e : eqV (.int c) (.int k) = true ↔ k = c := by
      show (c == k) = true ↔ k = c
      rw [beq_iff_eq]
      exact eq_comm
    rw [e]
/-- what is said besides, told by members -/
def Bes (cs ds : List Int) (k j : Int) : Prop := (j ∈ cs ∨ j ∈ ds) ∧ (j.natAbs : Int) ≠ k
section
variable {P : Program} {w : World} {K : PySem.W.Frag} {mg : Str → Option Value} {base : Heap}
def spSct : Sp := fun vs H Q _ => ∃ (v u : V) (k : Int) (cs ds : List Int), vs = [v, u, .int k] ∧ TupI H v cs ∧ TupI H u ds ∧ cs.length ≤ 20 ∧ ds.length ≤ 20 ∧
  (∀ H', Same H H' → (k < 1 ∨ k ∉ cs ∨ -k ∉ ds ∨ ∃ j, Bes cs ds k j ∧ Bes cs ds k (-j)) → Q .non H') ∧
  ∀ (ns : List Int) (p : Addr) (H' : Hp), Same H H' → 1 ≤ k → k ∈ cs → -k ∈ ds → (∀ j, Bes cs ds k j → ¬ Bes cs ds k (-j)) → ns.Pairwise (· < ·) → (∀ j, j ∈ ns ↔ Bes cs ds k j) → H' p = some (.tup (ns.map V.int)) → Q (.ref p) H'
theorem ok_sct {f : Addr} {fd : FuncData} {k : Nat} (F : Fun K "_law_scut" "_law_scut" sSct f fd) (T : Zd mg) : FnOk P w K mg base CX0 (k + 1) f fd ["one", "other", "k"] spSct := by
  refine F.ok scSct (fun vs H Q E h => ?_) (fun cdv A outer s H vs Q E hr h => ?_)
  · obtain ⟨v, u, k, cs, ds, rfl, _⟩ := h
    rfl
  · obtain ⟨v, u, k, cs, ds, rfl, ⟨a, rfl, ha⟩, ⟨b, rfl, hb⟩, lc, ld, q1, q2⟩ := h
    refine ⟨_, (pss_cons (ps_if (PW.pt (pw_or (pt_cmpR op_lt (pv 2) pe_int (nomark _)) (pw_or (pt_cmpR op_notIn_seq (pv 2) (pv 0) (by rfl)) (pw_or1 (pt_cmpR op_notIn_seq (pe_op op_sub pe_int (pv 2)) (pv 1) (by rfl)))))) (pss_one (ps_ret pe_non)) pss_nil)
      (Evl.pss_cut (ps_set (i := 3) scSct.nd rfl (.inr rfl) (pe_callB (St.cr_sortedS rfl) (by rfl) T.z_sorted (by decide +kernel) (pa_cons (pe_callTy (St2.cr_setT rfl) (by rfl) T.z_set (by decide +kernel) (pa_cons (pe_op op_catTN (pv 0) (pv 1)) pa_nil)) pa_nil)))
      (Evl.pss_cut (ps_set (i := 3) scSct.nd rfl (.inr rfl) (pe_lc (own := [("say", 4)]) (g := (gName 4))  rfl scSct.nd (pi_list (pv 3)) (blkOk_by (N := nSct) (sc := defScope sSct) (by decide +kernel)) (fun _ _ _ _ _ => (pg_name (i := 4) scSct.nd rfl (.inl rfl))) (fun _ _ _ _ _ => (pts_one (pt_cmpR op_ne (pe_callB call_abs (by rfl) T.z_abs (by decide +kernel) (pa_cons (pv 4) pa_nil)) (pv 2) (nomark _)))) (fun _ _ _ _ _ => (pv 4))))
      (pss_cons (ps_if (pt_cmpR (op_neD hr.units) (pe_lc (own := [("say", 4)]) (g := (gName 4))  rfl scSct.nd (pi_list (pv 3)) (blkOk_by (N := nSct) (sc := defScope sSct) (by decide +kernel)) (fun _ _ _ _ _ => (pg_name (i := 4) scSct.nd rfl (.inl rfl))) (fun _ _ _ _ _ => (pts_one (pt_cmpR (op_in_seqB (K := K) rfl) (pe_op op_sub pe_int (pv 4)) (pv 3) (by rfl)))) (fun _ _ _ _ _ => (pv 4))) (pe_lstN pa_nil) (nomark _)) (pss_one (ps_ret pe_non)) pss_nil)
      (pss_one (ps_ret (pe_callTy call_tuple_ofN (by rfl) T.z_tuple (by decide +kernel) (pa_cons (pv 3) pa_nil)))))))), ?_⟩
    refine ⟨_, rfl, _, _, rfl, rfl, _, rfl, ite2 (fun y1 => ?_) (fun y1 => ?_)⟩
    · exact q1 H (Same.refl H) (.inl (of_decide_eq_true y1))
    have k1 : 1 ≤ k := by
      have := of_decide_eq_false (Bool.eq_false_iff.mpr y1)
      omega
    refine ⟨_, rfl, _, rfl, a, _, rfl, .inr (.of ha), rfl, ints_flat cs, _, rfl, ite2 (fun y2 => ?_) (fun y2 => ?_)⟩
    · refine q1 H (Same.refl H) (.inr (.inl fun z => ?_))
      have y2 : (!inV (.int k) (cs.map V.int)) = true := y2
      rw [(in_ints k cs).mpr z] at y2
      cases y2
    have kc : k ∈ cs := (in_ints k cs).mp (by
      have y2 : ¬ (!inV (.int k) (cs.map V.int)) = true := y2
      cases e : inV (.int k) (cs.map V.int) with
      | true => rfl
      | false => exact absurd (by rw [e]; rfl) y2)
    refine ⟨_, rfl, _, _, rfl, rfl, _, rfl, b, _, rfl, .inr (.of hb), rfl, ints_flat ds, _, rfl, ite2 (fun y3 => ?_) (fun y3 => ?_)⟩
    · refine q1 H (Same.refl H) (.inr (.inr (.inl fun z => ?_)))
      have y3 : (!inV (.int (0 - k)) (ds.map V.int)) = true := y3
      rw [(in_ints (0 - k) ds).mpr (by rw [show 0 - k = -k by omega]; exact z)] at y3
      cases y3
    have kd : -k ∈ ds := by
      have y3 : ¬ (!inV (.int (0 - k)) (ds.map V.int)) = true := y3
      have e : inV (.int (0 - k)) (ds.map V.int) = true := by
        cases e : inV (.int (0 - k)) (ds.map V.int) with
        | true => rfl
        | false => exact absurd (by rw [e]; rfl) y3
      have := (in_ints (0 - k) ds).mp e
      rw [show 0 - k = -k by omega] at this
      exact this
    clear y1 y2 y3
    refine Evl.q_cut (M := fun σ' H' => ∃ (p : Addr) (es : List Int), σ' = [some (.ref a), some (.ref b), some (.int k), some (.ref p), none] ∧ Same H H' ∧ H' p = some (.lst (es.map V.int)) ∧ es.Pairwise (· < ·) ∧ (∀ j, j ∈ es ↔ (j ∈ cs ∨ j ∈ ds)) ∧ es.length ≤ 40) ?_ ?_
    · refine ⟨_, rfl, _, rfl, a, b, _, _, rfl, rfl, ha, hb, ?_, fun q1 H1 u1 h1 => ?_⟩
      · rw [List.length_map, List.length_map]
        exact Nat.le_trans (by omega : _ ≤ 1000) (by decide)
      rw [← List.map_append] at h1
      refine ⟨q1, _, rfl, .of h1, by rw [List.length_append]; omega, fun r H2 n nr s2 hr' ln => ?_⟩
      rw [List.length_append] at ln
      refine ⟨r, _, n, rfl, hr', by omega, fun es up me le p H3 np s3 hp _ => ?_⟩
      exact ⟨p, es, rfl, (u1.trans s2).trans s3, hp, up, fun j => ((me j).trans decide_eq_true_iff).trans List.mem_append, by omega⟩
    rintro σ' H1 ⟨p, es, rfl, s1, hp, up, me, le⟩
    refine Evl.q_cut (M := fun σ' H' => ∃ p : Addr, σ' = [some (.ref a), some (.ref b), some (.int k), some (.ref p), none] ∧ Same H H' ∧ H' p = some (.lst ((es.filter fun s => !decide (V.int (s.natAbs : Int) = V.int k)).map V.int))) ?_ ?_
    · refine ⟨_, rfl, p, rfl, ⟨_, .of hp⟩, fun D nD => ?_⟩
      refine lc_list (xs := es.map V.int) (Pv := fun i H' => Same H1 H' ∧ H' D = some (.lst (((es.take i).filter fun s => !decide (V.int (s.natAbs : Int) = V.int k)).map V.int))) ⟨same_new nD, upd_same⟩ (fun i H' _ z => .of (z.1 _ _ hp)) ?_ ?_
      · rintro i x H2 hx ⟨s2, hD⟩
        obtain ⟨z, hz, rfl⟩ := at_int hx
        have ft := filt_take (f := fun s : Int => !decide (V.int (s.natAbs : Int) = V.int k)) hz
        have e : (if z < 0 then -z else z) = (z.natAbs : Int) := by
          split <;> omega
        refine ⟨rfl, _, rfl, z, rfl, _, rfl, rfl, _, rfl, ?_⟩
        rw [e]
        refine ite2 (fun y1 => ?_) (fun y1 => ?_)
        · refine ⟨_, rfl, _, hD, ?_, fun c o y => ?_, ?_⟩
          · rw [List.length_map]
            exact small1000 (Nat.le_trans (List.length_filter_le _ _) (by rw [List.length_take]; omega))
          · rw [upd_ne (ne_of_none y nD)]
            exact s2 _ _ y
          · rw [upd_same, ft, if_pos y1, List.map_append]
            rfl
        · refine ⟨s2, ?_⟩
          rw [ft, if_neg y1, List.append_nil]
          exact hD
      · rintro H2 ⟨s2, hD⟩
        rw [List.length_map, List.take_length] at hD
        exact ⟨D, rfl, s1.trans s2, hD⟩
    clear hp
    rintro σ' H2 ⟨p, rfl, s2, hp⟩
    have mf : ∀ j, j ∈ (es.filter fun s => !decide (V.int (s.natAbs : Int) = V.int k)) ↔ Bes cs ds k j := fun j => by
      rw [List.mem_filter, me]
      unfold Bes
      have e : ((!decide (V.int (j.natAbs : Int) = V.int k)) = true) ↔ (j.natAbs : Int) ≠ k := by
        rw [Bool.not_eq_true', decide_eq_false_iff_not]
        exact ⟨fun z y => z (by rw [y]), fun z y => z (V.int.inj y)⟩
      rw [e]
    have uf : (es.filter fun s => !decide (V.int (s.natAbs : Int) = V.int k)).Pairwise (· < ·) := up.filter _
    have lf : (es.filter fun s => !decide (V.int (s.natAbs : Int) = V.int k)).length ≤ 40 := Nat.le_trans (List.length_filter_le _ _) le
    generalize (es.filter fun s => !decide (V.int (s.natAbs : Int) = V.int k)) = fs at hp mf uf lf
    refine ⟨_, rfl, p, rfl, ⟨_, .of hp⟩, fun D nD => ?_⟩
    refine lc_list (xs := fs.map V.int) (Pv := fun i H' => Same H2 H' ∧ H' D = some (.lst (((fs.take i).filter fun s => inV (.int (0 - s)) (fs.map V.int)).map V.int))) ⟨same_new nD, upd_same⟩ (fun i H' _ z => .of (z.1 _ _ hp)) ?_ ?_
    · rintro i x H3 hx ⟨s3, hD⟩
      obtain ⟨z, hz, rfl⟩ := at_int hx
      have ft := filt_take (f := fun s : Int => inV (.int (0 - s)) (fs.map V.int)) hz
      refine ⟨rfl, _, rfl, _, _, rfl, rfl, _, rfl, p, _, rfl, .inl (.of (s3 _ _ hp)), rfl, ints_flat fs, _, rfl, ite2 (fun y1 => ?_) (fun y1 => ?_)⟩
      · have y1 : inV (.int (0 - z)) (fs.map V.int) = true := y1
        refine ⟨_, rfl, _, hD, ?_, fun c o y => ?_, ?_⟩
        · rw [List.length_map]
          exact small1000 (Nat.le_trans (List.length_filter_le _ _) (by rw [List.length_take]; omega))
        · rw [upd_ne (ne_of_none y nD)]
          exact s3 _ _ y
        · rw [upd_same, ft, if_pos y1, List.map_append]
          rfl
      · have y1 : ¬ inV (.int (0 - z)) (fs.map V.int) = true := y1
        refine ⟨s3, ?_⟩
        rw [ft, if_neg y1, List.append_nil]
        exact hD
    rintro H3 ⟨s3, hD⟩
    rw [List.length_map, List.take_length] at hD
    refine ⟨Nat.zero_le _, fun r H4 nr s4 hr4 _ => ?_⟩
    have s24 := s2.trans (s3.trans s4)
    cases hg : (fs.filter fun s => inV (.int (0 - s)) (fs.map V.int)) with
    | nil =>
      rw [hg] at hD
      refine ⟨_, _, .lst (.of (s4 _ _ hD)) .nil, .lst (.of hr4) .nil, rfl, rfl, false, rfl, ?_⟩
      have hp4 := s4 _ _ (s3 _ _ hp)
      refine ⟨_, rfl, p, _, rfl, .of hp4, fun r5 H5 n5 s5 h5 _ => ?_⟩
      refine q2 fs r5 H5 (s24.trans s5) k1 kc kd (fun j hj hn => ?_) uf mf h5
      have z : j ∈ (fs.filter fun s => inV (.int (0 - s)) (fs.map V.int)) := List.mem_filter.mpr ⟨(mf j).mpr hj, (in_ints _ _).mpr (by rw [show 0 - j = -j by omega]; exact (mf _).mpr hn)⟩
      rw [hg] at z
      cases z
    | cons j r' =>
      have z : j ∈ (fs.filter fun s => inV (.int (0 - s)) (fs.map V.int)) := by rw [hg]; exact List.mem_cons_self
      obtain ⟨z1, z2⟩ := List.mem_filter.mp z
      have z3 := (in_ints _ _).mp z2
      rw [show 0 - j = -j by omega] at z3
      rw [hg] at hD
      refine ⟨_, _, .lst (.of (s4 _ _ hD)) (dp_ints (j :: r')), .lst (.of hr4) .nil, shaped_list (flat_ints _), rfl, true, rfl, ?_⟩
      exact q1 H4 s24 (.inr (.inr (.inr ⟨j, (mf j).mp z1, (mf (-j)).mp z3⟩)))
end
end Ct
namespace Ct
open PySem PySem.Spec PyProof.Rows L2 GxR Nw Dr Kp Se
/-! ### what the program cuts and what is cut here agree -/
theorem up_unique : ∀ {xs ys : List Int}, xs.Pairwise (· < ·) → ys.Pairwise (· < ·) → (∀ j, j ∈ xs ↔ j ∈ ys) → xs = ys
  | [], [], _, _, _ => rfl
  | [], y :: r, _, _, h => absurd ((h y).mpr List.mem_cons_self) (by simp)
  | x :: r, [], _, _, h => absurd ((h x).mp List.mem_cons_self) (by simp)
  | x :: r, y :: t, hx, hy, h => by
    obtain ⟨x1, x2⟩ := List.pairwise_cons.mp hx
    obtain ⟨y1, y2⟩ := List.pairwise_cons.mp hy
    have e : x = y := by
      rcases List.mem_cons.mp ((h x).mp List.mem_cons_self) with e | m
      · exact e
      · rcases List.mem_cons.mp ((h y).mpr List.mem_cons_self) with e | m2
        · exact e.symm
        · have := y1 x m
          have := x1 y m2
          omega
    subst e
    rw [up_unique x2 y2 fun j => ⟨fun hj => ?_, fun hj => ?_⟩]
    · rcases List.mem_cons.mp ((h j).mp (List.mem_cons_of_mem _ hj)) with e | m
      · have := x1 j hj
        omega
      · exact m
    · rcases List.mem_cons.mp ((h j).mpr (List.mem_cons_of_mem _ hj)) with e | m
      · have := y1 j hj
        omega
      · exact m
variable {cs ds : List Int} {k : Int}
theorem meet_iff (hc : IsCl cs) : meetB cs ds k = true ↔ 1 ≤ k ∧ k ∈ cs ∧ -k ∈ ds := by
  unfold meetB
  rw [Bool.and_eq_true, Bool.and_eq_true, Bool.and_eq_true, decide_eq_true_iff, decide_eq_true_iff, in_ints, in_ints]
  constructor
  · rintro ⟨⟨⟨h1, _⟩, h2⟩, h3⟩
    exact ⟨h1, h2, h3⟩
  · rintro ⟨h1, h2, h3⟩
    exact ⟨⟨⟨h1, (hc.says k h2).2.2⟩, h2⟩, h3⟩
theorem not_int {a b : Int} : (!decide (V.int a = V.int b)) = true ↔ a ≠ b := by
  rw [Bool.not_eq_true', decide_eq_false_iff_not]
  exact ⟨fun z y => z (by rw [y]), fun z y => z (V.int.inj y)⟩
theorem says_iff (hc : IsCl cs) (hd : IsCl ds) (kc : k ∈ cs) (kd : -k ∈ ds) (k1 : 1 ≤ k) (j : Int) : j ∈ saysB cs ds k ↔ Bes cs ds k j := by
  unfold saysB Bes
  rw [List.mem_append, List.mem_filter, List.mem_filter, not_int, not_int]
  constructor
  · rintro (⟨h1, h2⟩ | ⟨h1, h2⟩)
    · refine ⟨.inl h1, fun z => ?_⟩
      have e : j = -k := by omega
      rw [e] at h1
      exact hc.opp k kc h1
    · refine ⟨.inr h1, fun z => ?_⟩
      have e : j = k := by omega
      rw [e] at h1
      exact hd.opp k h1 kd
  · rintro ⟨h1 | h1, h2⟩
    · exact .inl ⟨h1, by omega⟩
    · exact .inr ⟨h1, by omega⟩
theorem opp_iff (ns : List Int) (nz : ∀ j ∈ ns, j ≠ 0) : oppB ns = true ↔ ∃ j, j ∈ ns ∧ -j ∈ ns := by
  unfold oppB
  rw [List.any_eq_true]
  constructor
  · rintro ⟨j, hj, h⟩
    rw [Bool.and_eq_true, in_ints] at h
    exact ⟨j, hj, h.2⟩
  · rintro ⟨j, h1, h2⟩
    have := nz j h1
    by_cases p : 0 < j
    · exact ⟨j, h1, by rw [Bool.and_eq_true, in_ints, decide_eq_true_iff]; exact ⟨p, h2⟩⟩
    · exact ⟨-j, h2, by rw [Bool.and_eq_true, in_ints, decide_eq_true_iff, Int.neg_neg]; exact ⟨by omega, h1⟩⟩
/-- the cut of two claims: what comes, if anything -/
def Comes (cs ds : List Int) (k : Int) (ns : List Int) : Prop := 1 ≤ k ∧ k ∈ cs ∧ -k ∈ ds ∧ (∀ j, Bes cs ds k j → ¬ Bes cs ds k (-j)) ∧ ns.Pairwise (· < ·) ∧ ∀ j, j ∈ ns ↔ Bes cs ds k j
def NoCome (cs ds : List Int) (k : Int) : Prop := k < 1 ∨ k ∉ cs ∨ -k ∉ ds ∨ ∃ j, Bes cs ds k j ∧ Bes cs ds k (-j)
theorem Comes.one {ns ms : List Int} (a : Comes cs ds k ns) (b : Comes cs ds k ms) : ns = ms := up_unique a.2.2.2.2.1 b.2.2.2.2.1 fun j => (a.2.2.2.2.2 j).trans (b.2.2.2.2.2 j).symm
theorem Comes.no {ns : List Int} (a : Comes cs ds k ns) (b : NoCome cs ds k) : False := by
  obtain ⟨a1, a2, a3, a4, _⟩ := a
  rcases b with b | b | b | ⟨j, b1, b2⟩
  · omega
  · exact b a2
  · exact b a3
  · exact a4 j b1 b2
theorem comes_of (hc : IsCl cs) (hd : IsCl ds) {ns : List Int} (m : meetB cs ds k = true) (o : oppB (saysB cs ds k) = false) (up : ns.Pairwise (· < ·)) (me : ∀ j, j ∈ ns ↔ j ∈ saysB cs ds k) : Comes cs ds k ns := by
  obtain ⟨k1, kc, kd⟩ := (meet_iff hc).mp m
  have sb := says_iff hc hd kc kd k1
  refine ⟨k1, kc, kd, fun j h1 h2 => ?_, up, fun j => (me j).trans (sb j)⟩
  have nz : ∀ j ∈ saysB cs ds k, j ≠ 0 := fun j hj => by
    rcases ((sb j).mp hj).1 with h | h
    · exact (hc.says j h).1
    · exact (hd.says j h).1
  have := (opp_iff _ nz).mpr ⟨j, (sb j).mpr h1, (sb _).mpr h2⟩
  rw [o] at this
  cases this
theorem nocome_of (hc : IsCl cs) (hd : IsCl ds) (h : meetB cs ds k = false ∨ oppB (saysB cs ds k) = true) : NoCome cs ds k := by
  by_cases k1 : 1 ≤ k
  · by_cases kc : k ∈ cs
    · by_cases kd : -k ∈ ds
      · have m := (meet_iff (ds := ds) hc).mpr ⟨k1, kc, kd⟩
        rcases h with h | h
        · rw [m] at h
          cases h
        · have sb := says_iff hc hd kc kd k1
          have nz : ∀ j ∈ saysB cs ds k, j ≠ 0 := fun j hj => by
            rcases ((sb j).mp hj).1 with h | h
            · exact (hc.says j h).1
            · exact (hd.says j h).1
          obtain ⟨j, h1, h2⟩ := (opp_iff _ nz).mp h
          exact .inr (.inr (.inr ⟨j, (sb j).mp h1, (sb _).mp h2⟩))
      · exact .inr (.inr (.inl kd))
    · exact .inr (.inl kc)
  · exact .inl (by omega)
end Ct
namespace Od
open PySem PySem.Spec PyProof.Rows L2 GxR Nw Dr Kp
/-! ### anything: values by their data; no list among them is one of f -/
mutual
inductive OdV (f : Addr → Prop) (H : Hp) : V → PyData → Prop
  | non : OdV f H .non .none
  | bl (b : Bool) : OdV f H (.bl b) (.bool b)
  | int (i : Int) : OdV f H (.int i) (.int i)
  | str (x : Str) : OdV f H (.str x) (.str x)
  | lst {a : Addr} {xs : List V} {ds : List PyData} : H a = some (.lst xs) → ¬ f a → OdAll f H xs ds → OdV f H (.ref a) (.list ds)
  | tup {a : Addr} {xs : List V} {ds : List PyData} : H a = some (.tup xs) → OdAll f H xs ds → OdV f H (.ref a) (.tuple ds)
inductive OdAll (f : Addr → Prop) (H : Hp) : List V → List PyData → Prop
  | nil : OdAll f H [] []
  | cons {v : V} {vs : List V} {d : PyData} {ds : List PyData} : OdV f H v d → OdAll f H vs ds → OdAll f H (v :: vs) (d :: ds)
end
variable {f : Addr → Prop} {H H' : Hp}
mutual
theorem OdV.dp {K : PySem.W.Frag} : ∀ {d : PyData} {v : V}, OdV f H v d → Dp K H v d
  | .none, _, h => by cases h; exact .non
  | .bool _, _, h => by cases h; exact .bl _
  | .int _, _, h => by cases h; exact .int _
  | .str _, _, h => by cases h; exact .str _
  | .list ds, _, h => by cases h with | lst h1 _ h2 => exact .lst (.of h1) (OdAll.dp h2)
  | .tuple ds, _, h => by cases h with | tup h1 h2 => exact .tup (.of h1) (OdAll.dp h2)
  | .dict _, _, h => by cases h
theorem OdAll.dp {K : PySem.W.Frag} : ∀ {ds : List PyData} {vs : List V}, OdAll f H vs ds → DpAll K H vs ds
  | [], _, h => by cases h; exact .nil
  | d :: ds, _, h => by cases h with | cons h1 h2 => exact .cons (OdV.dp h1) (OdAll.dp h2)
end
mutual
theorem OdV.ke (k : Ke f H H') : ∀ {d : PyData} {v : V}, OdV f H v d → OdV f H' v d
  | .none, _, h => by cases h; exact .non
  | .bool _, _, h => by cases h; exact .bl _
  | .int _, _, h => by cases h; exact .int _
  | .str _, _, h => by cases h; exact .str _
  | .list ds, _, h => by cases h with | lst h1 n h2 => exact .lst (k.lst h1 n) n (OdAll.ke k h2)
  | .tuple ds, _, h => by cases h with | tup h1 h2 => exact .tup (k.tups _ _ h1) (OdAll.ke k h2)
  | .dict _, _, h => by cases h
theorem OdAll.ke (k : Ke f H H') : ∀ {ds : List PyData} {vs : List V}, OdAll f H vs ds → OdAll f H' vs ds
  | [], _, h => by cases h; exact .nil
  | d :: ds, _, h => by cases h with | cons h1 h2 => exact .cons (OdV.ke k h1) (OdAll.ke k h2)
end
theorem OdAll.len : ∀ {vs : List V} {ds : List PyData}, OdAll f H vs ds → vs.length = ds.length
  | [], _, h => by cases h; rfl
  | v :: vs, _, h => by cases h with | cons h1 h2 => rw [List.length_cons, List.length_cons, OdAll.len h2]
theorem OdAll.at : ∀ {vs : List V} {ds : List PyData} {i : Nat} {v : V}, OdAll f H vs ds → vs[i]? = some v → ∃ d, ds[i]? = some d ∧ OdV f H v d
  | [], _, _, _, _, e => by simp at e
  | v :: vs, _, 0, _, h, e => by
    cases h with
    | cons h1 h2 =>
      cases e
      exact ⟨_, rfl, h1⟩
  | v :: vs, _, i + 1, _, h, e => by
    cases h with
    | cons h1 h2 => exact OdAll.at (vs := vs) (i := i) h2 (by simpa using e)
theorem OdAll.cat : ∀ {vs us : List V} {ds es : List PyData}, OdAll f H vs ds → OdAll f H us es → OdAll f H (vs ++ us) (ds ++ es)
  | [], _, _, _, h, g => by cases h; exact g
  | v :: vs, _, _, _, h, g => by cases h with | cons h1 h2 => exact .cons h1 (OdAll.cat h2 g)
theorem OdAll.one {v : V} {d : PyData} (h : OdV f H v d) : OdAll f H [v] [d] := .cons h .nil
theorem OdAll.take : ∀ {vs : List V} {ds : List PyData} (n : Nat), OdAll f H vs ds → OdAll f H (vs.take n) (ds.take n)
  | _, _, 0, _ => by rw [List.take_zero, List.take_zero]; exact .nil
  | [], _, n + 1, h => by cases h; exact .nil
  | v :: vs, _, n + 1, h => by cases h with | cons h1 h2 => exact .cons h1 (OdAll.take n h2)
theorem OdAll.drop : ∀ {vs : List V} {ds : List PyData} (n : Nat), OdAll f H vs ds → OdAll f H (vs.drop n) (ds.drop n)
  | _, _, 0, h => by rw [List.drop_zero, List.drop_zero]; exact h
  | [], _, n + 1, h => by cases h; exact .nil
  | v :: vs, _, n + 1, h => by cases h with | cons h1 h2 => exact OdAll.drop n h2
theorem OdAll.rev : ∀ {vs : List V} {ds : List PyData}, OdAll f H vs ds → OdAll f H vs.reverse ds.reverse
  | [], _, h => by cases h; exact .nil
  | v :: vs, _, h => by
    cases h with
    | cons h1 h2 =>
      rw [List.reverse_cons, List.reverse_cons]
      exact (OdAll.rev h2).cat (.one h1)
theorem od_ints : ∀ ns : List Int, OdAll f H (ns.map V.int) (ns.map PyData.int)
  | [] => .nil
  | n :: r => .cons (.int n) (od_ints r)
/-! ### what anything is -/
def tyD : PyData → String
  | .none => "NoneType" | .bool _ => "bool" | .int _ => "int" | .str _ => "str" | .list _ => "list" | .tuple _ => "tuple" | .dict _ => "dict"
theorem OdV.ty {K : PySem.W.Frag} {d : PyData} {v : V} (h : OdV f H v d) : TyX K H v (.type (tyD d)) := by
  cases h with
  | non => exact .base .non
  | bl b => exact .base (.bl b)
  | int i => exact .base (.int i)
  | str x => exact .base (.str x)
  | lst h1 _ _ => exact .base (.lst h1)
  | tup h1 _ => exact .base (.tup h1)
def whD : PyData → Bool
  | .int _ => true
  | _ => false
def tuD : PyData → Bool
  | .tuple _ => true
  | _ => false
def numD : PyData → Int → Bool
  | .int n, m => decide (0 ≤ n) && decide (n < m)
  | _, _ => false
/-! ### small data, to be shown -/
structure Sm (B : Nat) (d : PyData) : Prop where
  sh : d.showable = true
  nd : d.hasDict = false
  dp : d.depth ≤ 6
  sz : d.shown.length ≤ B
structure SmAll (B : Nat) (ds : List PyData) : Prop where
  sh : PyData.showableAll ds = true
  nd : PyData.hasDictAll ds = false
  dp : PyData.depthAll ds ≤ 5
  sz : ∀ x ∈ PyData.shownAll ds, x.length ≤ B
theorem SmAll.nil {B : Nat} : SmAll B [] := ⟨rfl, rfl, by decide, fun _ h => nomatch h⟩
theorem SmAll.cons {B : Nat} {d : PyData} {ds : List PyData} (h : Sm B d) (h5 : d.depth ≤ 5) (t : SmAll B ds) : SmAll B (d :: ds) := by
  refine ⟨?_, ?_, ?_, fun x hx => ?_⟩
  · show (PyData.showable d && PyData.showableAll ds) = true
    rw [h.sh, t.sh]
    rfl
  · show (PyData.hasDict d || PyData.hasDictAll ds) = false
    rw [h.nd, t.nd]
    rfl
  · exact Nat.max_le.mpr ⟨h5, t.dp⟩
  · rcases List.mem_cons.mp hx with e | e
    · rw [e]
      exact h.sz
    · exact t.sz x e
theorem shownAll_len : ∀ ds : List PyData, (PyData.shownAll ds).length = ds.length
  | [] => rfl
  | _ :: r => congrArg (· + 1) (shownAll_len r)
theorem sum_le {B : Nat} : ∀ {l : List Nat}, (∀ x ∈ l, x ≤ B) → l.sum ≤ B * l.length
  | [], _ => Nat.zero_le _
  | x :: r, h => by
    have h1 := h x List.mem_cons_self
    have h2 := sum_le (l := r) fun y hy => h y (List.mem_cons_of_mem _ hy)
    rw [List.sum_cons, List.length_cons, Nat.mul_add]
    omega
theorem SmAll.sum {B : Nat} {ds : List PyData} (h : SmAll B ds) : ((PyData.shownAll ds).map (·.length)).sum ≤ B * ds.length := by
  have := sum_le (B := B) (l := (PyData.shownAll ds).map (·.length)) fun x hx => by
    obtain ⟨y, hy, rfl⟩ := List.mem_map.mp hx
    exact h.sz y hy
  rw [List.length_map, shownAll_len] at this
  exact this
theorem SmAll.list {B n B' : Nat} {ds : List PyData} (h : SmAll B ds) (l : ds.length ≤ n) (hb : B * n + 2 * n + 3 ≤ B') : Sm B' (.list ds) := by
  have e := listText_len_le (PyData.shownAll ds)
  have s := h.sum
  rw [shownAll_len] at e
  have m : B * ds.length ≤ B * n := Nat.mul_le_mul_left _ l
  exact ⟨h.sh, h.nd, by show PyData.depthAll ds + 1 ≤ 6; have := h.dp; omega, by show (listText (PyData.shownAll ds)).length ≤ B'; omega⟩
theorem SmAll.tuple {B n B' : Nat} {ds : List PyData} (h : SmAll B ds) (l : ds.length ≤ n) (hb : B * n + 2 * n + 3 ≤ B') : Sm B' (.tuple ds) := by
  have e := tupleText_len_le (PyData.shownAll ds)
  have s := h.sum
  rw [shownAll_len] at e
  have m : B * ds.length ≤ B * n := Nat.mul_le_mul_left _ l
  exact ⟨h.sh, h.nd, by show PyData.depthAll ds + 1 ≤ 6; have := h.dp; omega, by show (tupleText (PyData.shownAll ds)).length ≤ B'; omega⟩
theorem SmAll.cat {B : Nat} : ∀ {ds es : List PyData}, SmAll B ds → SmAll B es → SmAll B (ds ++ es)
  | [], _, _, g => g
  | d :: r, es, h, g => by
    have hs := h.sh
    have hn := h.nd
    have hd := h.dp
    have hz := h.sz
    have hs' : (PyData.showable d && PyData.showableAll r) = true := hs
    have hn' : (PyData.hasDict d || PyData.hasDictAll r) = false := hn
    rw [Bool.and_eq_true] at hs'
    rw [Bool.or_eq_false_iff] at hn'
    have hd' : Nat.max (PyData.depth d) (PyData.depthAll r) ≤ 5 := hd
    have z := Nat.max_le.mp hd'
    have hr : SmAll B r := ⟨hs'.2, hn'.2, z.2, fun x hx => hz x (List.mem_cons_of_mem _ hx)⟩
    exact SmAll.cons ⟨hs'.1, hn'.1, by omega, hz _ List.mem_cons_self⟩ z.1 (SmAll.cat hr g)
theorem SmAll.of {B : Nat} : ∀ {ds : List PyData}, (∀ d ∈ ds, Sm B d ∧ d.depth ≤ 5) → SmAll B ds
  | [], _ => .nil
  | d :: r, h => SmAll.cons (h d List.mem_cons_self).1 (h d List.mem_cons_self).2 (SmAll.of fun x hx => h x (List.mem_cons_of_mem _ hx))
theorem SmAll.mem {B : Nat} : ∀ {ds : List PyData}, SmAll B ds → ∀ d ∈ ds, Sm B d ∧ d.depth ≤ 5
  | [], _, d, hd => nomatch hd
  | e :: r, h, d, hd => by
    have hs' : (PyData.showable e && PyData.showableAll r) = true := h.sh
    have hn' : (PyData.hasDict e || PyData.hasDictAll r) = false := h.nd
    rw [Bool.and_eq_true] at hs'
    rw [Bool.or_eq_false_iff] at hn'
    have hd' : Nat.max (PyData.depth e) (PyData.depthAll r) ≤ 5 := h.dp
    have z := Nat.max_le.mp hd'
    rcases List.mem_cons.mp hd with u | u
    · rw [u]
      exact ⟨⟨hs'.1, hn'.1, by omega, h.sz _ List.mem_cons_self⟩, z.1⟩
    · exact SmAll.mem (ds := r) ⟨hs'.2, hn'.2, z.2, fun x hx => h.sz x (List.mem_cons_of_mem _ hx)⟩ d u
theorem Sm.mono {B B' : Nat} {d : PyData} (h : Sm B d) (l : B ≤ B') : Sm B' d := ⟨h.sh, h.nd, h.dp, Nat.le_trans h.sz l⟩
theorem small_ints : ∀ n : Fin 130, PyData.showable (.int ((n.val : Int) - 60)) = true ∧ (PyData.shown (.int ((n.val : Int) - 60))).length ≤ 3 := by decide +kernel
theorem sm_int {n : Int} (h0 : -60 ≤ n) (h1 : n < 70) : Sm 3 (.int n) := by
  have := small_ints ⟨(n + 60).toNat, by omega⟩
  rw [show (((n + 60).toNat : Nat) : Int) - 60 = n by omega] at this
  exact ⟨this.1, rfl, by show 0 ≤ 6; decide, this.2⟩
theorem OdV.un {g : Addr → Prop} (h : ∀ a, g a → f a) : ∀ {d : PyData} {v : V}, OdV f H v d → OdV g H v d := fun {d v} => OdV.rec (motive_1 := fun v d _ => OdV g H v d) (motive_2 := fun vs ds _ => OdAll g H vs ds) .non .bl .int .str (fun h1 n _ ih => .lst h1 (fun z => n (h _ z)) ih) (fun h1 _ ih => .tup h1 ih) .nil (fun _ _ i1 i2 => .cons i1 i2)
theorem OdAll.un {g : Addr → Prop} (h : ∀ a, g a → f a) : ∀ {ds : List PyData} {vs : List V}, OdAll f H vs ds → OdAll g H vs ds
  | [], _, x => by cases x; exact .nil
  | _ :: _, _, x => by cases x with | cons h1 h2 => exact .cons (OdV.un h h1) (OdAll.un h h2)
end Od
namespace Lr
open PySem PySem.Spec PyProof.Rows L2 GxR Nw Dr Kp Ct
/-! ### rows, ladders, their claims -/
inductive Rw where
  | book (n : Nat)
  | cut (i j : Nat) (k : Int)
/-- the row's parts -/
def Rw.vs : Rw → List V
  | .book n => [.str "book", .int (n : Nat)]
  | .cut i j k => [.str "cut", .int (i : Nat), .int (j : Nat), .int k]
def RowAt (H : Hp) (v : V) (r : Rw) : Prop := ∃ a, v = .ref a ∧ H a = some (.tup r.vs)
variable {F : Addr → Prop} {H H' : Hp}
theorem RowAt.ke {v : V} {r : Rw} (h : RowAt H v r) (k : Ke F H H') : RowAt H' v r := by
  obtain ⟨a, e, h⟩ := h
  exact ⟨a, e, k.tups _ _ h⟩
/-- items told one by one -/
def All2 {α β : Type} (R : α → β → Prop) (xs : List α) (ys : List β) : Prop := xs.length = ys.length ∧ ∀ (i : Nat) (x : α) (y : β), xs[i]? = some x → ys[i]? = some y → R x y
theorem All2.imp {α β : Type} {R S : α → β → Prop} {xs : List α} {ys : List β} (h : All2 R xs ys) (f : ∀ x y, R x y → S x y) : All2 S xs ys := ⟨h.1, fun i x y h1 h2 => f x y (h.2 i x y h1 h2)⟩
theorem All2.nil {α β : Type} {R : α → β → Prop} : All2 R ([] : List α) ([] : List β) := ⟨rfl, fun i x y h => by cases h⟩
theorem All2.snoc {α β : Type} {R : α → β → Prop} {xs : List α} {ys : List β} {x : α} {y : β} (h : All2 R xs ys) (r : R x y) : All2 R (xs ++ [x]) (ys ++ [y]) := by
  refine ⟨by rw [List.length_append, List.length_append, h.1]; rfl, fun i x' y' h1 h2 => ?_⟩
  by_cases hi : i < xs.length
  · rw [List.getElem?_append_left hi] at h1
    rw [List.getElem?_append_left (by rw [← h.1]; exact hi)] at h2
    exact h.2 i x' y' h1 h2
  · have e : i = xs.length := by
      have := (List.getElem?_eq_some_iff.mp h1).1
      rw [List.length_append, List.length_singleton] at this
      omega
    subst e
    rw [List.getElem?_append_right (Nat.le_refl _), Nat.sub_self] at h1
    rw [List.getElem?_append_right (by rw [h.1]; exact Nat.le_refl _), show xs.length - ys.length = 0 by rw [h.1]; exact Nat.sub_self _] at h2
    cases h1
    cases h2
    exact r
theorem All2.cat {α β : Type} {R : α → β → Prop} {xs us : List α} {ys ws : List β} (h : All2 R xs ys) (g : All2 R us ws) : All2 R (xs ++ us) (ys ++ ws) := by
  refine ⟨by rw [List.length_append, List.length_append, h.1, g.1], fun i x y h1 h2 => ?_⟩
  by_cases hi : i < xs.length
  · rw [List.getElem?_append_left hi] at h1
    rw [List.getElem?_append_left (by rw [← h.1]; exact hi)] at h2
    exact h.2 i x y h1 h2
  · rw [List.getElem?_append_right (by omega)] at h1
    rw [List.getElem?_append_right (by rw [← h.1]; omega), ← h.1] at h2
    exact g.2 _ x y h1 h2
theorem All2.take {α β : Type} {R : α → β → Prop} {xs : List α} {ys : List β} (h : All2 R xs ys) (n : Nat) : All2 R (xs.take n) (ys.take n) := by
  refine ⟨by rw [List.length_take, List.length_take, h.1], fun i x y h1 h2 => ?_⟩
  rw [List.getElem?_take] at h1 h2
  by_cases l : i < n
  · rw [if_pos l] at h1 h2
    exact h.2 i x y h1 h2
  · rw [if_neg l] at h1
    cases h1
theorem All2.at {α β : Type} {R : α → β → Prop} {xs : List α} {ys : List β} (h : All2 R xs ys) {i : Nat} {x : α} (e : xs[i]? = some x) : ∃ y, ys[i]? = some y ∧ R x y := by
  have l := (List.getElem?_eq_some_iff.mp e).1
  have l2 : i < ys.length := by rw [← h.1]; exact l
  exact ⟨ys[i], List.getElem?_eq_getElem l2, h.2 i x _ e (List.getElem?_eq_getElem l2)⟩
theorem All2.atR {α β : Type} {R : α → β → Prop} {xs : List α} {ys : List β} (h : All2 R xs ys) {i : Nat} {y : β} (e : ys[i]? = some y) : ∃ x, xs[i]? = some x ∧ R x y := by
  have l := (List.getElem?_eq_some_iff.mp e).1
  have l2 : i < xs.length := by rw [h.1]; exact l
  exact ⟨xs[i], List.getElem?_eq_getElem l2, h.2 i _ y (List.getElem?_eq_getElem l2) e⟩
/-- a list of claims, a list of rows -/
def ClL (H : Hp) (L : Addr) (cls : List (List Int)) : Prop := ∃ vs, H L = some (.lst vs) ∧ All2 (TupI H) vs cls
def RwL (H : Hp) (L : Addr) (rows : List Rw) : Prop := ∃ vs, H L = some (.lst vs) ∧ All2 (RowAt H) vs rows
theorem ClL.ke {L : Addr} {cls : List (List Int)} (h : ClL H L cls) (k : Ke F H H') (n : ¬ F L) : ClL H' L cls := by
  obtain ⟨vs, h1, h2⟩ := h
  exact ⟨vs, k.lst h1 n, h2.imp fun x y r => r.ke k⟩
theorem RwL.ke {L : Addr} {rows : List Rw} (h : RwL H L rows) (k : Ke F H H') (n : ¬ F L) : RwL H' L rows := by
  obtain ⟨vs, h1, h2⟩ := h
  exact ⟨vs, k.lst h1 n, h2.imp fun x y r => r.ke k⟩
theorem bk_all {v : V} {css : List (List Int)} (h : Bk H v css) : ∃ a vs, v = .ref a ∧ H a = some (.tup vs) ∧ All2 (TupI H) vs css := by
  obtain ⟨a, vs, e, h, l, t⟩ := h
  exact ⟨a, vs, e, h, l, t⟩
/-- the claim of a row behind rows with the claims cls -/
def RowCl (css cls : List (List Int)) : Rw → List Int → Prop
  | .book n, c => css[n]? = some c
  | .cut i j k, c => ∃ x y, cls[i]? = some x ∧ cls[j]? = some y ∧ Comes x y k c
/-- a ladder by the book, with its claims -/
def Lad (css : List (List Int)) (rows : List Rw) (cls : List (List Int)) : Prop := rows.length = cls.length ∧ ∀ (i : Nat) (r : Rw) (c : List Int), rows[i]? = some r → cls[i]? = some c → RowCl css (cls.take i) r c
theorem Lad.nil (css : List (List Int)) : Lad css [] [] := ⟨rfl, fun i r c h => by cases h⟩
theorem Lad.snoc {css cls : List (List Int)} {rows : List Rw} {r : Rw} {c : List Int} (h : Lad css rows cls) (hr : RowCl css cls r c) : Lad css (rows ++ [r]) (cls ++ [c]) := by
  refine ⟨by rw [List.length_append, List.length_append, h.1]; rfl, fun i r' c' h1 h2 => ?_⟩
  by_cases hi : i < rows.length
  · rw [List.getElem?_append_left hi] at h1
    rw [List.getElem?_append_left (by rw [← h.1]; exact hi)] at h2
    rw [List.take_append_of_le_length (by have := h.1; omega)]
    exact h.2 i r' c' h1 h2
  · have e : i = rows.length := by
      have := (List.getElem?_eq_some_iff.mp h1).1
      rw [List.length_append, List.length_singleton] at this
      omega
    subst e
    rw [List.getElem?_append_right (Nat.le_refl _), Nat.sub_self] at h1
    rw [List.getElem?_append_right (by rw [h.1]; exact Nat.le_refl _), show rows.length - cls.length = 0 by rw [h.1]; exact Nat.sub_self _] at h2
    cases h1
    cases h2
    rw [h.1, List.take_append_of_le_length (Nat.le_refl _), List.take_length]
    exact hr
theorem Lad.take {css cls : List (List Int)} {rows : List Rw} (h : Lad css rows cls) (n : Nat) : Lad css (rows.take n) (cls.take n) := by
  refine ⟨by rw [List.length_take, List.length_take, h.1], fun i r c h1 h2 => ?_⟩
  rw [List.getElem?_take] at h1 h2
  by_cases l : i < n
  · rw [if_pos l] at h1 h2
    rw [List.take_take, Nat.min_eq_left (by omega)]
    exact h.2 i r c h1 h2
  · rw [if_neg l] at h1
    cases h1
/-- what any two tellings of a row's claim tell is one -/
theorem RowCl.one {css cls : List (List Int)} {r : Rw} {c d : List Int} (a : RowCl css cls r c) (b : RowCl css cls r d) : c = d := by
  cases r with
  | book n => exact Option.some.inj (a.symm.trans b)
  | cut i j k =>
    obtain ⟨x, y, h1, h2, h3⟩ := a
    obtain ⟨x', y', h1', h2', h3'⟩ := b
    cases h1.symm.trans h1'
    cases h2.symm.trans h2'
    exact h3.one h3'
theorem RowCl.parts {css cls : List (List Int)} {i j : Nat} {k : Int} {c : List Int} (a : RowCl css cls (.cut i j k) c) : i < cls.length ∧ j < cls.length := by
  obtain ⟨x, y, h1, h2, _⟩ := a
  exact ⟨(List.getElem?_eq_some_iff.mp h1).1, (List.getElem?_eq_some_iff.mp h2).1⟩
theorem len_sub : ∀ (l m : List Int), l.Nodup → (∀ x ∈ l, x ∈ m) → l.length ≤ m.length
  | [], _, _, _ => Nat.zero_le _
  | x :: r, m, nd, h => by
    obtain ⟨h1, h2⟩ := List.nodup_cons.mp nd
    have ih := len_sub r (m.erase x) h2 fun y hy => (List.mem_erase_of_ne (fun e => h1 (by rw [← e]; exact hy))).mpr (h y (List.mem_cons_of_mem _ hy))
    have e := List.length_erase_of_mem (h x List.mem_cons_self)
    have p := List.length_pos_of_mem (h x List.mem_cons_self)
    rw [List.length_cons]
    omega
/-- rising, from -8 to 8, not 0, none opposite: a claim -/
theorem cl_mk {ns : List Int} (up : ns.Pairwise (· < ·)) (says : ∀ k ∈ ns, k ≠ 0 ∧ -8 ≤ k ∧ k ≤ 8) (opp : ∀ k ∈ ns, -k ∉ ns) : IsCl ns := by
  refine ⟨up, says, opp, ?_⟩
  have nd : (ns.map fun s => (s.natAbs : Int)).Nodup := List.pairwise_map.mpr (up.imp_of_mem fun {a b} ha hb hab e => by
    have : a = b ∨ a = -b := by omega
    rcases this with z | z
    · omega
    · have e2 : -b = a := by omega
      exact opp b hb (by rw [e2]; exact ha))
  have := len_sub _ [1, 2, 3, 4, 5, 6, 7, 8] nd fun x hx => by
    obtain ⟨s, hs, rfl⟩ := List.mem_map.mp hx
    have := says s hs
    simp only [List.mem_cons, List.not_mem_nil, or_false]
    omega
  rw [List.length_map] at this
  exact this
theorem cl_comes {cs ds ns : List Int} {k : Int} (hc : IsCl cs) (hd : IsCl ds) (h : Comes cs ds k ns) : IsCl ns := by
  obtain ⟨_, _, _, no, up, me⟩ := h
  refine cl_mk up (fun j hj => ?_) fun j hj hn => no j ((me j).mp hj) ((me (-j)).mp hn)
  rcases ((me j).mp hj).1 with z | z
  · exact hc.says j z
  · exact hd.says j z
theorem RowCl.isCl {css cls : List (List Int)} {r : Rw} {c : List Int} (hb : ∀ c ∈ css, IsCl c) (hc : ∀ c ∈ cls, IsCl c) (h : RowCl css cls r c) : IsCl c := by
  cases r with
  | book n => exact hb c (List.mem_of_getElem? h)
  | cut i j k =>
    obtain ⟨x, y, h1, h2, h3⟩ := h
    exact cl_comes (hc x (List.mem_of_getElem? h1)) (hc y (List.mem_of_getElem? h2)) h3
theorem Lad.isCl {css cls : List (List Int)} {rows : List Rw} (hb : ∀ c ∈ css, IsCl c) (h : Lad css rows cls) : ∀ c ∈ cls, IsCl c := by
  have key : ∀ n, n ≤ cls.length → ∀ c ∈ cls.take n, IsCl c := by
    intro n
    induction n with
    | zero => exact fun _ c hc => by simp at hc
    | succ n ih =>
      intro hn c hc
      rw [List.take_add_one] at hc
      rcases List.mem_append.mp hc with hc | hc
      · exact ih (by omega) c hc
      · have ln : n < cls.length := by omega
        have lr : n < rows.length := by rw [h.1]; exact ln
        rw [List.getElem?_eq_getElem ln] at hc
        obtain rfl : c = cls[n] := List.mem_singleton.mp hc
        exact (h.2 n rows[n] cls[n] (List.getElem?_eq_getElem lr) (List.getElem?_eq_getElem ln)).isCl hb (ih (by omega))
  have := key cls.length (Nat.le_refl _)
  rwa [List.take_length] at this
/-! ### min, max of a tuple of two whole numbers -/
section
variable {X : Cx}
def rT2 (K : PySem.W.Frag) (f : Int → Int → Int) : List V → Hp → VK → Prop := fun vs H Q => ∃ (a : Addr) (i j : Int), vs = [V.ref a] ∧ SqT K H a [.int i, .int j] ∧ Q (.int (f i j)) H
theorem two_of {its : List Value} {i j : Int} (r : Vals [V.int i, V.int j] its) : IntsAre its [i, j] := by
  obtain ⟨t, u, rfl⟩ := Vals.int2 r
  exact .cons _ _ (.cons _ _ .nil)
theorem cr_minT (hc : X.calm = true) (hu : X.A.units + 70 < cLine) : CallR X (.builtin "min") (rT2 X.K fun i j => if j < i then j else i) := by
  intro pins s σ H vs us Q I r h
  obtain ⟨a, i, j, rfl, hs, q⟩ := h
  obtain ⟨its, rv, hl, _⟩ := I.tuple hs
  rw [Vals.ref1 r]
  refine PySem.W.min_tuple_datum (α := Int) (x := i) (xs := [j]) (I.ok.hd hc) hl (PySem.W.HoldAll.of_ints (two_of rv)) (by show X.A.units + 1 + 0 < cLine; omega) fun n v h' tk hv hh hk => ?_
  have e : PySem.W.minOf i [j] = if j < i then j else i := by
    show (if decide (j < i) = true then j else i) = _
    by_cases z : j < i
    · rw [if_pos z, if_pos (decide_eq_true z)]
    · rw [if_neg z, if_neg (by rw [decide_eq_false z]; exact Bool.false_ne_true)]
  rw [e] at hh
  obtain ⟨as, hh⟩ := hh
  cases hh
  exact ⟨.int _, H, I.kept hk, ⟨_, rfl⟩, q⟩
theorem cr_maxT (hc : X.calm = true) (hu : X.A.units + 70 < cLine) : CallR X (.builtin "max") (rT2 X.K fun i j => if i < j then j else i) := by
  intro pins s σ H vs us Q I r h
  obtain ⟨a, i, j, rfl, hs, q⟩ := h
  obtain ⟨its, rv, hl, _⟩ := I.tuple hs
  rw [Vals.ref1 r]
  refine PySem.W.max_tuple_datum (α := Int) (x := i) (xs := [j]) (I.ok.hd hc) hl (PySem.W.HoldAll.of_ints (two_of rv)) (by show X.A.units + 1 + 0 < cLine; omega) fun n v h' tk hv hh hk => ?_
  have e : PySem.W.maxOf i [j] = if i < j then j else i := by
    show (if decide (i < j) = true then j else i) = _
    by_cases z : i < j
    · rw [if_pos z, if_pos (decide_eq_true z)]
    · rw [if_neg z, if_neg (by rw [decide_eq_false z]; exact Bool.false_ne_true)]
  rw [e] at hh
  obtain ⟨as, hh⟩ := hh
  cases hh
  exact ⟨.int _, H, I.kept hk, ⟨_, rfl⟩, q⟩
end
end Lr
namespace Lp
open PySem PySem.Spec PyProof.Rows L2 GxR Nw Dr Kp Se Ct Lr
structure Zp (mg : Str → Option Value) : Prop where
  z_len : mg "len" = none
  z_isinstance : mg "isinstance" = none
  z_tuple : mg "tuple" = none
  z_list : mg "list" = none
  z_max : mg "max" = none
theorem TupI.wr {H : Hp} {D : Addr} {x : V} {ns : List Int} {ys : List V} {o : HO} (h : TupI H x ns) (hD : H D = some (.lst ys)) : TupI (upd H D o) x ns := by
  obtain ⟨a, e, h⟩ := h
  refine ⟨a, e, ?_⟩
  rw [upd_ne (fun z => by rw [z, hD] at h; cases h)]
  exact h
theorem RowAt.wr {H : Hp} {D : Addr} {x : V} {r : Rw} {ys : List V} {o : HO} (h : RowAt H x r) (hD : H D = some (.lst ys)) : RowAt (upd H D o) x r := by
  obtain ⟨a, e, h⟩ := h
  refine ⟨a, e, ?_⟩
  rw [upd_ne (fun z => by rw [z, hD] at h; cases h)]
  exact h
theorem cl_snoc {H : Hp} {D : Addr} {vs : List V} {cls : List (List Int)} {x : V} {c : List Int} (hD : H D = some (.lst vs)) (h : All2 (TupI H) vs cls) (hx : TupI H x c) : ClL (upd H D (.lst (vs ++ [x]))) D (cls ++ [c]) :=
  ⟨_, upd_same, (h.imp fun _ _ r => TupI.wr r hD).snoc (TupI.wr hx hD)⟩
theorem take_snoc {α : Type} {l : List α} {i : Nat} {x : α} (h : l[i]? = some x) : l.take (i + 1) = l.take i ++ [x] := by
  rw [List.take_add_one, h]
  rfl
theorem cut_all {xs : List V} {n : Nat} (h : xs.length ≤ n) : cutV xs none (some (n : Int)) = xs := by
  unfold cutV
  rw [HT.sIx_none, HT.sIx_nat, List.drop_zero, Nat.sub_zero, Nat.min_eq_right h, List.take_length]
section
variable {P : Program} {w : World} {K : PySem.W.Frag} {mg : Str → Option Value} {base : Heap}
abbrev sNum : Stmt := topS 8
theorem scNum : FnScope ["thing", "many"] ["thing", "many"] (defScope sNum) := ⟨rfl, rfl, rfl, by decide +kernel, rfl, by decide +kernel, by decide +kernel⟩
def spNum : Sp := fun vs H Q _ => ∃ n m : Int, vs = [.int n, .int m] ∧ Q (.bl (decide (0 ≤ n) && decide (n < m))) H
theorem ok_num {f fW : Addr} {fd fdW : FuncData} {k : Nat} (F : Fun K "is_number_of" "is_number_of" sNum f fd) (FW : Fun K "is_whole" "is_whole" sWho fW fdW) (bW : Binds K fdW ["thing"] []) (gW : mg "is_whole" = some (.ref fW)) (GW : FnOk P w K mg base CX0 1 fW fdW ["thing"] spWho) :
    FnOk P w K mg base CX0 (k + 2) f fd ["thing", "many"] spNum := by
  refine F.ok scNum (fun vs H Q E h => ?_) (fun cdv A outer s H vs Q E hr h => ?_)
  · obtain ⟨n, m, rfl, _⟩ := h
    rfl
  · obtain ⟨n, m, rfl, q⟩ := h
    have hr1 : Room 1 _ := hr.mono (by omega)
    refine ⟨_, (pss_one (ps_ret (pe_and (pe_call GW hr1 (by rfl) gW FW.kp bW .nil pass0 (pa_cons (pv 0) pa_nil)) (pe_one (pe_chain op_le op_lt pe_int (pv 0) (pv 1)))))), ?_⟩
    refine ⟨_, rfl, n, rfl, _, rfl, ?_⟩
    refine ⟨_, rfl, 0, _, rfl, rfl, decide (0 ≤ n), rfl, ?_⟩
    cases e1 : decide (0 ≤ n) with
    | false =>
      rw [e1] at q
      exact q
    | true =>
      rw [e1] at q
      exact ⟨_, rfl, _, _, rfl, rfl, q⟩
theorem num_at {α : Type} {l : List α} {n : Nat} (h : (decide ((0 : Int) ≤ (n : Int)) && decide ((n : Int) < (l.length : Int))) = true) : n < l.length := by
  rw [Bool.and_eq_true] at h
  have := of_decide_eq_true h.2
  omega
theorem num_no {α : Type} {l : List α} {n : Nat} (h : ¬ (decide ((0 : Int) ≤ (n : Int)) && decide ((n : Int) < (l.length : Int))) = true) : l.length ≤ n := by
  rw [Bool.and_eq_true] at h
  by_cases z : n < l.length
  · exact absurd ⟨decide_eq_true (by omega), decide_eq_true (by omega)⟩ h
  · omega
end
end Lp
namespace Og
open PySem PySem.Spec PyProof.Rows L2 GxR Nw Dr Kp Se Ct Lr Lp Od
/-! ### whole numbers, numbers of, cuts: of anything (from wg, for texts that have no claim_of_row) -/
section
variable {P : Program} {w : World} {K : PySem.W.Frag} {mg : Str → Option Value} {base : Heap} {CX : CXT} {k : Nat} {f : Addr} {fd : FuncData} {ps : List Str}
def orS (a b : Sp) : Sp := fun vs H Q E => a vs H Q E ∨ b vs H Q E
theorem ok_or {a b : Sp} (F : FnOk P w K mg base CX k f fd ps a) (G : FnOk P w K mg base CX k f fd ps b) : FnOk P w K mg base CX k f fd ps (orS a b) :=
  ⟨fun us H Q E h => h.elim (F.len us H Q E) (G.len us H Q E), fun A outer s H args us vs Q E room env bind rel ask => ask.elim (F.run A outer s H args us vs Q E room env bind rel) (G.run A outer s H args us vs Q E room env bind rel)⟩
theorem ok_weak {a b : Sp} (F : FnOk P w K mg base CX k f fd ps a) (i : ∀ vs H Q E, b vs H Q E → a vs H Q E) : FnOk P w K mg base CX k f fd ps b :=
  ⟨fun us H Q E h => F.len us H Q E (i _ _ _ _ h), fun A outer s H args us vs Q E room env bind rel ask => F.run A outer s H args us vs Q E room env bind rel (i _ _ _ _ ask)⟩
end
theorem eqv_str {d : PyData} {x : Str} : PyData.eqv d (.str x) = true ↔ d = .str x := by
  cases d <;> simp [PyData.eqv]
theorem two_of {f0 : Addr → Prop} {H : Hp} {xs : List V} {ds : List PyData} (h : OdAll f0 H xs ds) (l : xs.length = 2) : ∃ v0 v1 d0 d1, xs = [v0, v1] ∧ ds = [d0, d1] ∧ OdV f0 H v0 d0 ∧ OdV f0 H v1 d1 := by
  match xs, l, h with
  | [v0, v1], _, .cons h0 (.cons h1 .nil) => exact ⟨v0, v1, _, _, rfl, rfl, h0, h1⟩
theorem four_of {f0 : Addr → Prop} {H : Hp} {xs : List V} {ds : List PyData} (h : OdAll f0 H xs ds) (l : xs.length = 4) : ∃ v0 v1 v2 v3 d0 d1 d2 d3, xs = [v0, v1, v2, v3] ∧ ds = [d0, d1, d2, d3] ∧ OdV f0 H v0 d0 ∧ OdV f0 H v1 d1 ∧ OdV f0 H v2 d2 ∧ OdV f0 H v3 d3 := by
  match xs, l, h with
  | [v0, v1, v2, v3], _, .cons h0 (.cons h1 (.cons h2 (.cons h3 .nil))) => exact ⟨v0, v1, v2, v3, _, _, _, _, rfl, rfl, h0, h1, h2, h3⟩
theorem num_int {d : PyData} {m : Int} (h : numD d m = true) : ∃ n : Nat, d = .int (n : Nat) ∧ ((n : Nat) : Int) < m := by
  cases d with
  | int i =>
    have h : (decide (0 ≤ i) && decide (i < m)) = true := h
    rw [Bool.and_eq_true] at h
    have h1 := of_decide_eq_true h.1
    have h2 := of_decide_eq_true h.2
    exact ⟨i.toNat, by rw [Int.toNat_of_nonneg h1], by omega⟩
  | _ => cases h
theorem num_yes {n : Nat} {m : Int} (h : (n : Int) < m) : numD (.int (n : Nat)) m = true := by
  show (decide ((0 : Int) ≤ (n : Nat)) && decide (((n : Nat) : Int) < m)) = true
  rw [decide_eq_true (by omega), decide_eq_true h]
  rfl
theorem shaped_all : ∀ {ds : List PyData}, PyData.canLayAll0 ds = true → ∀ e ∈ ds, PyData.canLay0 e = true
  | [], _, e, he => nomatch he
  | d :: r, h, e, he => by
    have h : (PyData.canLay0 d && PyData.canLayAll0 r) = true := h
    rw [Bool.and_eq_true] at h
    rcases List.mem_cons.mp he with z | z
    · rw [z]
      exact h.1
    · exact shaped_all h.2 e z
theorem depth_all : ∀ {ds : List PyData} {e : PyData}, e ∈ ds → e.depth ≤ PyData.depthAll ds
  | d :: r, e, he => by
    have h : PyData.depthAll (d :: r) = Nat.max d.depth (PyData.depthAll r) := rfl
    rw [h]
    rcases List.mem_cons.mp he with z | z
    · rw [z]
      exact Nat.le_max_left _ _
    · exact Nat.le_trans (depth_all z) (Nat.le_max_right _ _)
theorem shaped_mk {d : PyData} (h : PyData.canLay0 d = true) (l : d.depth ≤ 64) : SeqAt.shaped d = true := by
  show (PyData.canLay0 d && decide (d.depth ≤ 64)) = true
  rw [h, decide_eq_true l]
  rfl
theorem shaped_ps {d : PyData} (h : SeqAt.shaped d = true) : PyData.canLay0 d = true ∧ d.depth ≤ 64 := by
  have h : (PyData.canLay0 d && decide (d.depth ≤ 64)) = true := h
  rw [Bool.and_eq_true] at h
  exact ⟨h.1, of_decide_eq_true h.2⟩
theorem shaped_tup {ds : List PyData} (h : SeqAt.shaped (.tuple ds) = true) : ∀ e ∈ ds, SeqAt.shaped e = true := fun e he => by
  obtain ⟨h1, h2⟩ := shaped_ps h
  refine shaped_mk (shaped_all h1 e he) ?_
  have := depth_all he
  have h2 : PyData.depthAll ds + 1 ≤ 64 := h2
  omega
theorem shaped_lst {ds : List PyData} (h : SeqAt.shaped (.list ds) = true) : ∀ e ∈ ds, SeqAt.shaped e = true := fun e he => by
  obtain ⟨h1, h2⟩ := shaped_ps h
  refine shaped_mk (shaped_all h1 e he) ?_
  have := depth_all he
  have h2 : PyData.depthAll ds + 1 ≤ 64 := h2
  omega
theorem shaped_book : SeqAt.shaped (.str "book") = true := by decide +kernel
theorem shaped_cut : SeqAt.shaped (.str "cut") = true := by decide +kernel
section
variable {P : Program} {w : World} {K : PySem.W.Frag} {mg : Str → Option Value} {base : Heap}
/-- whether it is a whole number, of anything -/
def spWhG : Sp := fun vs H Q _ => ∃ (f0 : Addr → Prop) (v : V) (d : PyData), vs = [v] ∧ OdV f0 H v d ∧ Q (.bl (whD d)) H
theorem ok_whp {f : Addr} {fd : FuncData} {k : Nat} (F : Fun K "is_whole" "is_whole" sWho f fd) (T : Zc mg) : FnOk P w K mg base CX0 (k + 1) f fd ["thing"] spWhG := by
  refine F.ok scWho (fun vs H Q E h => ?_) (fun cdv A outer s H vs Q E hr h => ?_)
  · obtain ⟨f0, v, d, rfl, _⟩ := h
    rfl
  · obtain ⟨f0, v, d, rfl, hv, q⟩ := h
    refine ⟨_, (pss_one (ps_ret (pe_and (pe_callB call_isi (by rfl) T.z_isinstance (by decide +kernel) (pa_cons (pv 0) (pa_cons (pe_bltn (v := .ty "int") (u := .type "int") (by rfl) T.z_int (by decide +kernel) rfl) pa_nil))) (pe_one (pe_not (pe_callB call_isi (by rfl) T.z_isinstance (by decide +kernel) (pa_cons (pv 0) (pa_cons (pe_bltn (v := .ty "bool") (u := .type "bool") (by rfl) T.z_bool (by decide +kernel) rfl) pa_nil)))))))), ?_⟩
    have t := hv.ty (K := K)
    cases d with
    | int n => exact ⟨_, rfl, v, .ty "int", .type "int", .type "int", true, rfl, .ty _, t, kit_ty (by decide +kernel), _, rfl, _, rfl, v, .ty "bool", .type "int", .type "bool", false, rfl, .ty _, t, kit_ty (by decide +kernel), _, rfl, q⟩
    | bool b => exact ⟨_, rfl, v, .ty "int", .type "bool", .type "int", true, rfl, .ty _, t, kit_ty (by decide +kernel), _, rfl, _, rfl, v, .ty "bool", .type "bool", .type "bool", true, rfl, .ty _, t, kit_ty (by decide +kernel), _, rfl, q⟩
    | none => exact ⟨_, rfl, v, .ty "int", .type "NoneType", .type "int", false, rfl, .ty _, t, kit_ty (by decide +kernel), _, rfl, q⟩
    | str x => exact ⟨_, rfl, v, .ty "int", .type "str", .type "int", false, rfl, .ty _, t, kit_ty (by decide +kernel), _, rfl, q⟩
    | list x => exact ⟨_, rfl, v, .ty "int", .type "list", .type "int", false, rfl, .ty _, t, kit_ty (by decide +kernel), _, rfl, q⟩
    | tuple x => exact ⟨_, rfl, v, .ty "int", .type "tuple", .type "int", false, rfl, .ty _, t, kit_ty (by decide +kernel), _, rfl, q⟩
    | dict x => cases hv
theorem wh_weak {f : Addr} {fd : FuncData} {k : Nat} (F : FnOk P w K mg base CX0 k f fd ["thing"] spWhG) : FnOk P w K mg base CX0 k f fd ["thing"] spWho := ok_weak F fun vs H Q E ⟨n, e, q⟩ => ⟨Nof, .int n, .int n, e, .int n, q⟩
def spNmG : Sp := fun vs H Q _ => ∃ (f0 : Addr → Prop) (v : V) (d : PyData) (m : Int), vs = [v, .int m] ∧ OdV f0 H v d ∧ Q (.bl (numD d m)) H
theorem ok_numG {f fW : Addr} {fd fdW : FuncData} {k : Nat} (F : Fun K "is_number_of" "is_number_of" sNum f fd) (FW : Fun K "is_whole" "is_whole" sWho fW fdW) (bW : Binds K fdW ["thing"] []) (gW : mg "is_whole" = some (.ref fW)) (GW : FnOk P w K mg base CX0 1 fW fdW ["thing"] spWhG) :
    FnOk P w K mg base CX0 (k + 2) f fd ["thing", "many"] spNmG := by
  refine F.ok scNum (fun vs H Q E h => ?_) (fun cdv A outer s H vs Q E hr h => ?_)
  · obtain ⟨f0, v, d, m, rfl, _⟩ := h
    rfl
  · obtain ⟨f0, v, d, m, rfl, hv, q⟩ := h
    have hr1 : Room 1 _ := hr.mono (by omega)
    refine ⟨_, (pss_one (ps_ret (pe_and (pe_call GW hr1 (by rfl) gW FW.kp bW .nil pass0 (pa_cons (pv 0) pa_nil)) (pe_one (pe_chain op_le op_lt pe_int (pv 0) (pv 1)))))), ?_⟩
    cases d with
    | int n =>
      cases hv
      refine ⟨_, rfl, f0, .int n, .int n, rfl, .int n, _, rfl, ?_⟩
      refine ⟨_, rfl, 0, _, rfl, rfl, decide (0 ≤ n), rfl, ?_⟩
      have q : Q (.bl (decide (0 ≤ n) && decide (n < m))) H := q
      cases e1 : decide (0 ≤ n) with
      | false =>
        rw [e1] at q
        exact q
      | true =>
        rw [e1] at q
        exact ⟨_, rfl, _, _, rfl, rfl, q⟩
    | bool b => exact ⟨_, rfl, f0, v, _, rfl, hv, _, rfl, q⟩
    | none => exact ⟨_, rfl, f0, v, _, rfl, hv, _, rfl, q⟩
    | str x => exact ⟨_, rfl, f0, v, _, rfl, hv, _, rfl, q⟩
    | list x => exact ⟨_, rfl, f0, v, _, rfl, hv, _, rfl, q⟩
    | tuple x => exact ⟨_, rfl, f0, v, _, rfl, hv, _, rfl, q⟩
    | dict x => cases hv
/-- by what is no whole number no two meet -/
def spCmN : Sp := fun vs H Q _ => ∃ (f0 : Addr → Prop) (v u kv : V) (d : PyData), vs = [v, u, kv] ∧ OdV f0 H kv d ∧ whD d = false ∧ Q (.bl false) H
theorem ok_cmN {f fW : Addr} {fd fdW : FuncData} {k : Nat} {tk : Tok} (F : Fun K "can_meet" "can_meet" sCme f fd) (T : Zc mg) (M8 : mg "MOST_THINGS" = some (.int 8 tk)) (FW : Fun K "is_whole" "is_whole" sWho fW fdW) (bW : Binds K fdW ["thing"] []) (gW : mg "is_whole" = some (.ref fW)) (GW : FnOk P w K mg base CX0 1 fW fdW ["thing"] spWhG) :
    FnOk P w K mg base CX0 (k + 2) f fd ["one", "other", "k"] spCmN := by
  refine F.ok scCme (fun vs H Q E h => ?_) (fun cdv A outer s H vs Q E hr h => ?_)
  · obtain ⟨f0, v, u, kv, d, rfl, _⟩ := h
    rfl
  · obtain ⟨f0, v, u, kv, d, rfl, hv, no, q⟩ := h
    have hr1 : Room 1 _ := hr.mono (by omega)
    refine ⟨_, (pss_one (ps_ret (pe_and (pe_call GW hr1 (by rfl) gW FW.kp bW .nil pass0 (pa_cons (pv 2) pa_nil)) (pe_and (pe_chain op_le op_le pe_int (pv 2) (pe_glob (v := .int 8) rfl M8 ⟨_, rfl⟩)) (pe_and (pe_cmpR op_in_seq (pv 2) (pv 0) (by rfl)) (pe_one (pe_cmpR op_in_seq (pe_un un_neg (pv 2)) (pv 1) (by rfl)))))))), ?_⟩
    refine ⟨_, rfl, f0, kv, d, rfl, hv, _, rfl, ?_⟩
    rw [no]
    exact q
def spCoN : Sp := fun vs H Q _ => ∃ (f0 : Addr → Prop) (v u kv : V) (d : PyData), vs = [v, u, kv] ∧ OdV f0 H kv d ∧ whD d = false ∧ Q .non H
theorem ok_coN {f fM fH Po : Addr} {fd fdM fdH : FuncData} {k : Nat} (F : Fun K "cut_or_none" "cut_or_none" sCon f fd) (T : Zc mg) (FM : Fun K "can_meet" "can_meet" sCme fM fdM) (bM : Binds K fdM ["one", "other", "k"] []) (gM : mg "can_meet" = some (.ref fM)) (GM : FnOk P w K mg base CX0 2 fM fdM ["one", "other", "k"] spCmN)
    (kpH : PySem.W.keepIn K (.ref fH) = true) (bH : Binds K fdH ["says"] []) (gH : mg "has_opposites" = some (.ref fH)) (GH : FnOk P w K mg base CX0 3 fH fdH ["says"] (spHop Po)) :
    FnOk P w K mg base CX0 (k + 4) f fd ["one", "other", "k"] spCoN := by
  refine F.ok scCon (fun vs H Q E h => ?_) (fun cdv A outer s H vs Q E hr h => ?_)
  · obtain ⟨f0, v, u, kv, d, rfl, _⟩ := h
    rfl
  · obtain ⟨f0, v, u, kv, d, rfl, hv, no, q⟩ := h
    have hr2 : Room 2 _ := hr.mono (by omega)
    have hr3 : Room 3 _ := hr.mono (by omega)
    refine ⟨_, (pss_cons (ps_if (pt_not (pt_val (pe_call GM hr2 (by rfl) gM FM.kp bM .nil pass0 (pa_cons (pv 0) (pa_cons (pv 1) (pa_cons (pv 2) pa_nil)))))) (pss_one (ps_ret pe_non)) pss_nil)
      (Evl.pss_cut (ps_set (i := 3) scCon.nd rfl (.inl rfl) (pe_op op_catN (pe_lc (own := [("say", 4)]) (g := (gName 4))  rfl scCon.nd (pi_tup (pv 0)) (blkOk_by (N := nCon) (sc := defScope sCon) (by decide +kernel)) (fun _ _ _ _ _ => (pg_name (i := 4) scCon.nd rfl (.inl rfl))) (fun _ _ _ _ _ => (pts_one (pt_cmpR op_ne (pv 4) (pv 2) (nomark _)))) (fun _ _ _ _ _ => (pv 4))) (pe_lc (own := [("say", 4)]) (g := (gName 4))  rfl scCon.nd (pi_tup (pv 1)) (blkOk_by (N := nCon) (sc := defScope sCon) (by decide +kernel)) (fun _ _ _ _ _ => (pg_name (i := 4) scCon.nd rfl (.inl rfl))) (fun _ _ _ _ _ => (pts_one (pt_cmpR op_ne (pv 4) (pe_un un_neg (pv 2)) (nomark _)))) (fun _ _ _ _ _ => (pv 4)))))
      (pss_cons (ps_if (pt_val (pe_call GH hr3 (by rfl) gH kpH bH .nil pass0 (pa_cons (pv 3) pa_nil))) (pss_one (ps_ret pe_non)) pss_nil)
      (pss_one (ps_ret (pe_callTy call_tuple_ofN (by rfl) T.z_tuple (by decide +kernel) (pa_cons (pe_callB (St.cr_sortedS rfl) (by rfl) T.z_sorted (by decide +kernel) (pa_cons (pe_callTy (St.cr_setL rfl) (by rfl) T.z_set (by decide +kernel) (pa_cons (pv 3) pa_nil)) pa_nil)) pa_nil))))))), ?_⟩
    exact ⟨_, rfl, _, rfl, _, rfl, f0, v, u, kv, d, rfl, hv, no, _, rfl, q⟩
end
end Og
namespace Tr
open PySem PySem.Spec PyProof.Rows L2 GxR Nw Dr Kp Ct Lr
/-! ### trees -/
inductive T where
  | leaf (n : Nat)
  | cut (t u : T) (k : Int)
def T.depth : T → Nat
  | .leaf _ => 1
  | .cut t u _ => 1 + max t.depth u.depth
def T.pieces : T → Nat
  | .leaf _ => 1
  | .cut t u _ => 1 + t.pieces + u.pieces
def T.cuts : T → Nat
  | .leaf _ => 0
  | .cut t u _ => 1 + t.cuts + u.cuts
def T.isCut : T → Bool
  | .leaf _ => false
  | .cut _ _ _ => true
theorem T.pos : ∀ t : T, 1 ≤ t.depth ∧ 1 ≤ t.pieces
  | .leaf _ => ⟨Nat.le_refl _, Nat.le_refl _⟩
  | .cut t u _ => ⟨Nat.le_add_right _ _, by show 1 ≤ 1 + t.pieces + u.pieces; omega⟩
/-- at v stands the tree -/
def At (H : Hp) : T → V → Prop
  | .leaf n, v => ∃ a, v = .ref a ∧ H a = some (.tup [.str "book", .int (n : Nat)])
  | .cut t u k, v => ∃ a x y, v = .ref a ∧ H a = some (.tup [.str "cut", x, y, .int k]) ∧ At H t x ∧ At H u y
theorem At.ke {F : Addr → Prop} {H H' : Hp} (k : Ke F H H') : ∀ {t : T} {v : V}, At H t v → At H' t v
  | .leaf n, v, h => by
    obtain ⟨a, e, h⟩ := h
    exact ⟨a, e, k.tups _ _ h⟩
  | .cut t u i, v, h => by
    obtain ⟨a, x, y, e, h, h1, h2⟩ := h
    exact ⟨a, x, y, e, k.tups _ _ h, At.ke k h1, At.ke k h2⟩
theorem At.wr {H : Hp} {D : Addr} {ys : List V} {o : HO} (hD : H D = some (.lst ys)) : ∀ {t : T} {v : V}, At H t v → At (upd H D o) t v
  | .leaf n, v, h => by
    obtain ⟨a, e, h⟩ := h
    refine ⟨a, e, ?_⟩
    rw [upd_ne (fun z => by rw [z, hD] at h; cases h)]
    exact h
  | .cut t u i, v, h => by
    obtain ⟨a, x, y, e, h, h1, h2⟩ := h
    refine ⟨a, x, y, e, ?_, At.wr hD h1, At.wr hD h2⟩
    rw [upd_ne (fun z => by rw [z, hD] at h; cases h)]
    exact h
/-- its claim -/
def Cl (css : List (List Int)) : T → List Int → Prop
  | .leaf n, c => css[n]? = some c
  | .cut t u k, c => ∃ x y, Cl css t x ∧ Cl css u y ∧ Comes x y k c
theorem Cl.one {css : List (List Int)} : ∀ {t : T} {c d : List Int}, Cl css t c → Cl css t d → c = d
  | .leaf n, _, _, a, b => Option.some.inj (a.symm.trans b)
  | .cut t u k, _, _, a, b => by
    obtain ⟨x, y, h1, h2, h3⟩ := a
    obtain ⟨x', y', h1', h2', h3'⟩ := b
    cases Cl.one h1 h1'
    cases Cl.one h2 h2'
    exact h3.one h3'
theorem Cl.isCl {css : List (List Int)} (hb : ∀ c ∈ css, IsCl c) : ∀ {t : T} {c : List Int}, Cl css t c → IsCl c
  | .leaf n, c, h => hb c (List.mem_of_getElem? h)
  | .cut t u k, c, h => by
    obtain ⟨x, y, h1, h2, h3⟩ := h
    exact cl_comes (Cl.isCl hb h1) (Cl.isCl hb h2) h3
/-- all pieces, in the order in which they are done -/
def T.all : T → List T
  | .leaf n => [.leaf n]
  | .cut t u k => t.all ++ u.all ++ [.cut t u k]
theorem T.all_len : ∀ t : T, t.all.length = t.pieces
  | .leaf _ => rfl
  | .cut t u k => by
    show (t.all ++ u.all ++ [T.cut t u k]).length = 1 + t.pieces + u.pieces
    rw [List.length_append, List.length_append, T.all_len t, T.all_len u]
    show t.pieces + u.pieces + 1 = _
    omega
theorem T.all_cuts : ∀ t : T, t.all.countP T.isCut = t.cuts
  | .leaf _ => rfl
  | .cut t u k => by
    show (t.all ++ u.all ++ [T.cut t u k]).countP T.isCut = 1 + t.cuts + u.cuts
    rw [List.countP_append, List.countP_append, T.all_cuts t, T.all_cuts u]
    show t.cuts + u.cuts + 1 = _
    omega
theorem T.all_sub {css : List (List Int)} : ∀ {t : T} {c : List Int}, Cl css t c → ∀ s ∈ t.all, s.depth ≤ t.depth ∧ s.pieces ≤ t.pieces ∧ ∃ d, Cl css s d
  | .leaf n, c, h, s, hs => by
    obtain rfl : s = .leaf n := List.mem_singleton.mp hs
    exact ⟨Nat.le_refl _, Nat.le_refl _, c, h⟩
  | .cut t u k, c, h, s, hs => by
    obtain ⟨x, y, h1, h2, h3⟩ := id h
    rcases List.mem_append.mp hs with hs | hs
    · rcases List.mem_append.mp hs with hs | hs
      · obtain ⟨a1, a2, a3⟩ := T.all_sub h1 s hs
        exact ⟨by show s.depth ≤ 1 + max t.depth u.depth; omega, by show s.pieces ≤ 1 + t.pieces + u.pieces; omega, a3⟩
      · obtain ⟨a1, a2, a3⟩ := T.all_sub h2 s hs
        exact ⟨by show s.depth ≤ 1 + max t.depth u.depth; omega, by show s.pieces ≤ 1 + t.pieces + u.pieces; omega, a3⟩
    · rw [List.mem_singleton.mp hs]
      exact ⟨Nat.le_refl _, Nat.le_refl _, c, h⟩
theorem unsnoc {α β : Type} {R : α → β → Prop} {xs : List α} {ys : List β} (h : All2 R xs ys) (ne : xs ≠ []) : ∃ xs0 x ys0 y, xs = xs0 ++ [x] ∧ ys = ys0 ++ [y] ∧ All2 R xs0 ys0 ∧ R x y := by
  have l := h.1
  have lp : 0 < xs.length := by
    cases xs with
    | nil => exact absurd rfl ne
    | cons a t => exact Nat.zero_lt_succ _
  have e1 : xs = xs.take (xs.length - 1) ++ [xs[xs.length - 1]] := by
    have := Lp.take_snoc (List.getElem?_eq_getElem (show xs.length - 1 < xs.length by omega))
    rw [show xs.length - 1 + 1 = xs.length by omega, List.take_length] at this
    exact this
  have e2 : ys = ys.take (xs.length - 1) ++ [ys[xs.length - 1]] := by
    have := Lp.take_snoc (List.getElem?_eq_getElem (show xs.length - 1 < ys.length by omega))
    rw [show xs.length - 1 + 1 = ys.length by omega, List.take_length] at this
    exact this
  exact ⟨_, _, _, _, e1, e2, h.take _, h.2 _ _ _ (List.getElem?_eq_getElem _) (List.getElem?_eq_getElem _)⟩
end Tr
namespace Ta
open PySem PySem.Spec PyProof.Rows L2 GxR Nw Dr Kp Se Ct Lr Lp Od Og
/-! ### trees: of anything (k20) -/
/-- made as a cut is, as a claim of the book is -/
def forkD : PyData → Bool
  | .tuple ds => decide (ds.length = 4) && PyData.eqv (ds.headD .none) (.str "cut")
  | _ => false
def leafD : PyData → Bool
  | .tuple ds => decide (ds.length = 2) && PyData.eqv (ds.headD .none) (.str "book")
  | _ => false
theorem fork_of {d : PyData} (h : forkD d = true) : ∃ a b k, d = .tuple [.str "cut", a, b, k] := by
  cases d with
  | tuple ds =>
    have h : (decide (ds.length = 4) && PyData.eqv (ds.headD .none) (.str "cut")) = true := h
    rw [Bool.and_eq_true] at h
    have l := of_decide_eq_true h.1
    match ds, l, h.2 with
    | [x, a, b, k], _, h2 =>
      have e : x = .str "cut" := eqv_str.mp h2
      exact ⟨a, b, k, by rw [e]⟩
  | _ => cases h
theorem leaf_of {d : PyData} (h : leafD d = true) : ∃ n, d = .tuple [.str "book", n] := by
  cases d with
  | tuple ds =>
    have h : (decide (ds.length = 2) && PyData.eqv (ds.headD .none) (.str "book")) = true := h
    rw [Bool.and_eq_true] at h
    have l := of_decide_eq_true h.1
    match ds, l, h.2 with
    | [x, n], _, h2 =>
      have e : x = .str "book" := eqv_str.mp h2
      exact ⟨n, by rw [e]⟩
  | _ => cases h
/-- the claim that a thing tells as a tree -/
inductive TrC (css : List (List Int)) : PyData → List Int → Prop
  | leaf {n : Nat} {c : List Int} : css[n]? = some c → TrC css (.tuple [.str "book", .int (n : Nat)]) c
  | cut {a b : PyData} {x y c : List Int} {k : Int} : TrC css a x → TrC css b y → Comes x y k c → TrC css (.tuple [.str "cut", a, b, .int k]) c
theorem TrC.isCl {css : List (List Int)} (hb : ∀ c ∈ css, IsCl c) {d : PyData} {c : List Int} (h : TrC css d c) : IsCl c := by
  induction h with
  | leaf h => exact hb _ (List.mem_of_getElem? h)
  | cut _ _ h i1 i2 => exact cl_comes i1 i2 h
theorem TrC.way {css : List (List Int)} {d : PyData} {c : List Int} (h : TrC css d c) : leafD d = true ∨ forkD d = true := by
  cases h with
  | leaf h => exact .inl rfl
  | cut _ _ _ => exact .inr rfl
theorem TrC.one {css : List (List Int)} {d : PyData} {c e : List Int} (h : TrC css d c) (g : TrC css d e) : c = e := by
  induction h generalizing e with
  | leaf h =>
    generalize hd : PyData.tuple [.str "book", .int _] = d' at g
    cases g with
    | leaf g =>
      obtain ⟨_, h2⟩ := List.cons.inj (PyData.tuple.inj hd)
      have e := Int.ofNat_inj.mp (PyData.int.inj (List.cons.inj h2).1)
      subst e
      exact Option.some.inj (h.symm.trans g)
    | cut _ _ _ => cases (PyData.tuple.inj hd)
  | cut h1 h2 h3 i1 i2 =>
    generalize hd : PyData.tuple [.str "cut", _, _, .int _] = d' at g
    cases g with
    | leaf g => cases (PyData.tuple.inj hd)
    | cut g1 g2 g3 =>
      obtain ⟨_, e1⟩ := List.cons.inj (PyData.tuple.inj hd)
      obtain ⟨ea, e2⟩ := List.cons.inj e1
      obtain ⟨eb, e3⟩ := List.cons.inj e2
      have ek := PyData.int.inj (List.cons.inj e3).1
      subst ea eb ek
      cases i1 g1
      cases i2 g2
      exact h3.one g3
theorem bl_t' {b : Bool} (h : b = true) : V.bl b = V.bl true := by rw [h]
theorem bl_f' {b : Bool} (h : b = false) : V.bl b = V.bl false := by rw [h]
structure Zt (mg : Str → Option Value) : Prop where
  z_len : mg "len" = none
  z_isinstance : mg "isinstance" = none
  z_tuple : mg "tuple" = none
section
variable {P : Program} {w : World} {K : PySem.W.Frag} {mg : Str → Option Value} {base : Heap}
abbrev sFork : Stmt := topS 12
theorem scFork : FnScope ["thing"] ["thing"] (defScope sFork) := ⟨rfl, rfl, rfl, by decide +kernel, rfl, by decide +kernel, by decide +kernel⟩
def spFkG : Sp := fun vs H Q _ => ∃ (f0 : Addr → Prop) (v : V) (d : PyData), vs = [v] ∧ OdV f0 H v d ∧ SeqAt.shaped d = true ∧ Q (.bl (forkD d)) H
theorem ok_fkG {f : Addr} {fd : FuncData} {k : Nat} (F : Fun K "is_fork" "is_fork" sFork f fd) (T : Zt mg) : FnOk P w K mg base CX0 (k + 1) f fd ["thing"] spFkG := by
  refine F.ok scFork (fun vs H Q E h => ?_) (fun cdv A outer s H vs Q E hr h => ?_)
  · obtain ⟨f0, v, d, rfl, _⟩ := h
    rfl
  · obtain ⟨f0, v, d, rfl, hv, sh, q⟩ := h
    refine ⟨_, (pss_one (ps_ret (pe_and (pe_callB call_isi (by rfl) T.z_isinstance (by decide +kernel) (pa_cons (pv 0) (pa_cons (pe_bltn (v := .ty "tuple") (u := .type "tuple") (by rfl) T.z_tuple (by decide +kernel) rfl) pa_nil))) (pe_and (pe_cmpR op_eq (pe_callB call_len_seq (by rfl) T.z_len (by decide +kernel) (pa_cons (pv 0) pa_nil)) pe_int (nomark _)) (pe_one (pe_cmpR (op_eqD hr.units) (pe_ix ix_tup (pv 0) pe_int (fun _ _ => rfl)) pe_str (nomark _))))))), ?_⟩
    have t := hv.ty (K := K)
    cases d with
    | int n => exact ⟨_, rfl, v, .ty "tuple", .type "int", .type "tuple", false, rfl, .ty _, t, kit_ty (by decide +kernel), _, rfl, q⟩
    | bool n => exact ⟨_, rfl, v, .ty "tuple", .type "bool", .type "tuple", false, rfl, .ty _, t, kit_ty (by decide +kernel), _, rfl, q⟩
    | none => exact ⟨_, rfl, v, .ty "tuple", .type "NoneType", .type "tuple", false, rfl, .ty _, t, kit_ty (by decide +kernel), _, rfl, q⟩
    | str x => exact ⟨_, rfl, v, .ty "tuple", .type "str", .type "tuple", false, rfl, .ty _, t, kit_ty (by decide +kernel), _, rfl, q⟩
    | list x => exact ⟨_, rfl, v, .ty "tuple", .type "list", .type "tuple", false, rfl, .ty _, t, kit_ty (by decide +kernel), _, rfl, q⟩
    | dict x => cases hv
    | tuple ds =>
      cases id hv with
      | tup ha od =>
        rename_i a xs
        have lx := od.len
        have shp := shaped_tup sh
        refine ⟨_, rfl, .ref a, .ty "tuple", .type "tuple", .type "tuple", true, rfl, .ty _, t, kit_ty (by decide +kernel), _, rfl, ?_⟩
        have q : Q (.bl (decide (ds.length = 4) && PyData.eqv (ds.headD .none) (.str "cut"))) H := q
        by_cases h4 : xs.length = 4
        · obtain ⟨v0, v1, v2, v3, d0, d1, d2, d3, rfl, rfl, o0, o1, o2, o3⟩ := four_of od h4
          refine ⟨_, rfl, a, _, rfl, .inr (.of ha), rfl, true, rfl, ?_⟩
          exact ⟨_, rfl, a, _, 0, v0, rfl, rfl, .of ha, rfl, d0, .str "cut", o0.dp, .str _, shp d0 (by simp), shaped_cut, q⟩
        · refine ⟨_, rfl, a, _, rfl, .inr (.of ha), rfl, false, ?_, ?_⟩
          · rw [decide_eq_false]
            intro z
            have := V.int.inj z
            omega
          · rw [decide_eq_false (by omega)] at q
            exact q
abbrev sLeaf : Stmt := topS 13
theorem scLeaf : FnScope ["thing"] ["thing"] (defScope sLeaf) := ⟨rfl, rfl, rfl, by decide +kernel, rfl, by decide +kernel, by decide +kernel⟩
def spLfG : Sp := fun vs H Q _ => ∃ (f0 : Addr → Prop) (v : V) (d : PyData), vs = [v] ∧ OdV f0 H v d ∧ SeqAt.shaped d = true ∧ Q (.bl (leafD d)) H
theorem ok_lfG {f : Addr} {fd : FuncData} {k : Nat} (F : Fun K "is_leaf" "is_leaf" sLeaf f fd) (T : Zt mg) : FnOk P w K mg base CX0 (k + 1) f fd ["thing"] spLfG := by
  refine F.ok scLeaf (fun vs H Q E h => ?_) (fun cdv A outer s H vs Q E hr h => ?_)
  · obtain ⟨f0, v, d, rfl, _⟩ := h
    rfl
  · obtain ⟨f0, v, d, rfl, hv, sh, q⟩ := h
    refine ⟨_, (pss_one (ps_ret (pe_and (pe_callB call_isi (by rfl) T.z_isinstance (by decide +kernel) (pa_cons (pv 0) (pa_cons (pe_bltn (v := .ty "tuple") (u := .type "tuple") (by rfl) T.z_tuple (by decide +kernel) rfl) pa_nil))) (pe_and (pe_cmpR op_eq (pe_callB call_len_seq (by rfl) T.z_len (by decide +kernel) (pa_cons (pv 0) pa_nil)) pe_int (nomark _)) (pe_one (pe_cmpR (op_eqD hr.units) (pe_ix ix_tup (pv 0) pe_int (fun _ _ => rfl)) pe_str (nomark _))))))), ?_⟩
    have t := hv.ty (K := K)
    cases d with
    | int n => exact ⟨_, rfl, v, .ty "tuple", .type "int", .type "tuple", false, rfl, .ty _, t, kit_ty (by decide +kernel), _, rfl, q⟩
    | bool n => exact ⟨_, rfl, v, .ty "tuple", .type "bool", .type "tuple", false, rfl, .ty _, t, kit_ty (by decide +kernel), _, rfl, q⟩
    | none => exact ⟨_, rfl, v, .ty "tuple", .type "NoneType", .type "tuple", false, rfl, .ty _, t, kit_ty (by decide +kernel), _, rfl, q⟩
    | str x => exact ⟨_, rfl, v, .ty "tuple", .type "str", .type "tuple", false, rfl, .ty _, t, kit_ty (by decide +kernel), _, rfl, q⟩
    | list x => exact ⟨_, rfl, v, .ty "tuple", .type "list", .type "tuple", false, rfl, .ty _, t, kit_ty (by decide +kernel), _, rfl, q⟩
    | dict x => cases hv
    | tuple ds =>
      cases id hv with
      | tup ha od =>
        rename_i a xs
        have lx := od.len
        have shp := shaped_tup sh
        refine ⟨_, rfl, .ref a, .ty "tuple", .type "tuple", .type "tuple", true, rfl, .ty _, t, kit_ty (by decide +kernel), _, rfl, ?_⟩
        have q : Q (.bl (decide (ds.length = 2) && PyData.eqv (ds.headD .none) (.str "book"))) H := q
        by_cases h4 : xs.length = 2
        · obtain ⟨v0, v1, d0, d1, rfl, rfl, o0, o1⟩ := two_of od h4
          refine ⟨_, rfl, a, _, rfl, .inr (.of ha), rfl, true, rfl, ?_⟩
          exact ⟨_, rfl, a, _, 0, v0, rfl, rfl, .of ha, rfl, d0, .str "book", o0.dp, .str _, shp d0 (by simp), shaped_book, q⟩
        · refine ⟨_, rfl, a, _, rfl, .inr (.of ha), rfl, false, ?_, ?_⟩
          · rw [decide_eq_false]
            intro z
            have := V.int.inj z
            omega
          · rw [decide_eq_false (by omega)] at q
            exact q
/-- so many cuts within one another at most, whatever the pieces are -/
inductive Wn : Nat → PyData → Prop
  | one {n : Nat} {d : PyData} : forkD d = false → Wn (n + 1) d
  | fork {n : Nat} {a b k : PyData} : Wn n a → Wn n b → Wn (n + 1) (.tuple [.str "cut", a, b, k])
theorem Wn.parts {n : Nat} {a b k : PyData} (h : Wn (n + 1) (.tuple [.str "cut", a, b, k])) : Wn n a ∧ Wn n b := by
  generalize hd : PyData.tuple [.str "cut", a, b, k] = d at h
  cases h with
  | one h =>
    rw [← hd] at h
    cases h
  | fork h1 h2 =>
    obtain ⟨_, e1⟩ := List.cons.inj (PyData.tuple.inj hd)
    obtain ⟨ea, e2⟩ := List.cons.inj e1
    obtain ⟨eb, e3⟩ := List.cons.inj e2
    rw [ea, eb]
    exact ⟨h1, h2⟩
abbrev sCn : Stmt := topS 15
theorem scCn : FnScope ["book", "thing", "one", "other"] ["book", "thing"] (defScope sCn) := ⟨rfl, rfl, rfl, by decide +kernel, rfl, by decide +kernel, by decide +kernel⟩
def spCnG (Po : Addr) (m : Nat) : Sp := fun vs H Q _ => ∃ (f0 : Addr → Prop) (b v : V) (css : List (List Int)) (d : PyData), vs = [b, v] ∧ Bk H b css ∧ (∀ c ∈ css, IsCl c) ∧ OdV f0 H v d ∧ SeqAt.shaped d = true ∧ Wn m d ∧ TabG H Po ∧
  (∀ H', Ke Nof H H' → (∀ c, ¬ TrC css d c) → Q .non H') ∧ ∀ c p H', Ke Nof H H' → TrC css d c → H' p = some (.tup (c.map V.int)) → Q (.ref p) H'
theorem ok_cnG {f fF fE fN fC Po : Addr} {fd fdF fdE fdN fdC : FuncData} (F : Fun K "claim_or_none" "claim_or_none" sCn f fd) (T : Zt mg) (bS : Binds K fd ["book", "thing"] []) (gS : mg "claim_or_none" = some (.ref f))
    (FF : Fun K "is_fork" "is_fork" sFork fF fdF) (bF : Binds K fdF ["thing"] []) (gF : mg "is_fork" = some (.ref fF)) (GF : FnOk P w K mg base CX0 1 fF fdF ["thing"] spFkG)
    (FE : Fun K "is_leaf" "is_leaf" sLeaf fE fdE) (bE : Binds K fdE ["thing"] []) (gE : mg "is_leaf" = some (.ref fE)) (GE : FnOk P w K mg base CX0 1 fE fdE ["thing"] spLfG)
    (FN : Fun K "is_number_of" "is_number_of" sNum fN fdN) (bN : Binds K fdN ["thing", "many"] []) (gN : mg "is_number_of" = some (.ref fN)) (GN : FnOk P w K mg base CX0 2 fN fdN ["thing", "many"] spNmG)
    (FC : Fun K "cut_or_none" "cut_or_none" sCon fC fdC) (bC : Binds K fdC ["one", "other", "k"] []) (gC : mg "cut_or_none" = some (.ref fC)) (GC : FnOk P w K mg base CX0 4 fC fdC ["one", "other", "k"] (orS (spCon Po) spCoN)) :
    ∀ m, FnOk P w K mg base CX0 (m + 5) f fd ["book", "thing"] (spCnG Po m) := by
  intro m
  induction m with
  | zero =>
    refine F.ok scCn (fun vs H Q E h => ?_) (fun cdv A outer s H vs Q E hr h => ?_)
    · obtain ⟨f0, b, v, css, d, rfl, _⟩ := h
      rfl
    · obtain ⟨f0, b, v, css, d, rfl, _, _, _, _, h0, _⟩ := h
      cases h0
  | succ m ih =>
    refine F.ok scCn (fun vs H Q E h => ?_) (fun cdv A outer s H vs Q E hr h => ?_)
    · obtain ⟨f0, b, v, css, d, rfl, _⟩ := h
      rfl
    · obtain ⟨f0, b, v, css, d, rfl, hb, ib, hv, sh, wn, tg, q1, q2⟩ := h
      have hr1 : Room 1 _ := hr.mono (by omega)
      have hr2 : Room 2 _ := hr.mono (by omega)
      have hr4 : Room 4 _ := hr.mono (by omega)
      have hrd : Room (m + 5) _ := hr
      refine ⟨_, (Evl.pss_cut (ps_if (pt_val (pe_call GE hr1 (by rfl) gE FE.kp bE .nil pass0 (pa_cons (pv 1) pa_nil))) (pss_one (ps_ret (pe_ifExp (pt_val (pe_call GN hr2 (by rfl) gN FN.kp bN .nil pass0 (pa_cons (pe_ix ix_tup (pv 1) pe_int (fun _ _ => rfl)) (pa_cons (pe_callB call_len_seq (by rfl) T.z_len (by decide +kernel) (pa_cons (pv 0) pa_nil)) pa_nil)))) (pe_ix ix_tup (pv 0) (pe_ix ix_tup (pv 1) pe_int (fun _ _ => rfl)) (fun _ _ => rfl)) pe_non))) pss_nil)
      (Evl.pss_cut (ps_if (pt_not (pt_val (pe_call GF hr1 (by rfl) gF FF.kp bF .nil pass0 (pa_cons (pv 1) pa_nil)))) (pss_one (ps_ret pe_non)) pss_nil)
      (Evl.pss_cut (ps_set (i := 2) scCn.nd rfl (.inl rfl) (pe_call ih hrd (by rfl) gS F.kp bS .nil pass0 (pa_cons (pv 0) (pa_cons (pe_ix ix_tup (pv 1) pe_int (fun _ _ => rfl)) pa_nil))))
      (Evl.pss_cut (ps_set (i := 3) scCn.nd rfl (.inl rfl) (pe_call ih hrd (by rfl) gS F.kp bS .nil pass0 (pa_cons (pv 0) (pa_cons (pe_ix ix_tup (pv 1) pe_int (fun _ _ => rfl)) pa_nil))))
      (pss_cons (ps_if (PW.pt (pw_or (pt_cmpR op_isN (pv 2) pe_non (nomark _)) (pw_or1 (pt_cmpR op_isN (pv 3) pe_non (nomark _))))) (pss_one (ps_ret pe_non)) pss_nil)
      (pss_one (ps_ret (pe_call GC hr4 (by rfl) gC FC.kp bC .nil pass0 (pa_cons (pv 2) (pa_cons (pv 3) (pa_cons (pe_ix ix_tup (pv 1) pe_int (fun _ _ => rfl)) pa_nil))))))))))), ?_⟩
      obtain ⟨ba, bvs, rfl, hbt, aB⟩ := bk_all hb
      refine Evl.q_cut (M := fun σ' G => σ' = [some (.ref ba), some v, none, none] ∧ H = G ∧ leafD d = false) ?_ ?_
      · refine ⟨_, rfl, f0, v, d, rfl, hv, sh, _, rfl, ?_⟩
        cases hl : leafD d with
        | false => exact ⟨rfl, rfl, rfl⟩
        | true =>
          obtain ⟨d1, rfl⟩ := leaf_of hl
          cases id hv with
          | tup ha od =>
            rename_i a xs
            obtain ⟨v0, v1, d0, d1', rfl, e, o0, o1⟩ := two_of od (by have := od.len; simpa using this)
            obtain ⟨_, e2⟩ := List.cons.inj e
            obtain ⟨rfl, _⟩ := List.cons.inj e2
            refine ⟨_, rfl, a, _, 1, v1, rfl, rfl, .of ha, rfl, _, rfl, ba, _, rfl, .inr (.of hbt), f0, v1, d1, _, rfl, o1, _, rfl, ite2 (fun y => ?_) (fun y => ?_)⟩
            · obtain ⟨n, rfl, lt⟩ := num_int y
              cases o1
              have lt : n < bvs.length := by omega
              obtain ⟨c, hc, p, e, hp⟩ := aB.at (List.getElem?_eq_getElem lt)
              refine ⟨_, rfl, _, rfl, a, _, 1, .int (n : Nat), rfl, rfl, .of ha, rfl, ba, bvs, _, .ref p, rfl, rfl, .of hbt, at_of (j := n) rfl (by rw [List.getElem?_eq_getElem lt, e]), ?_⟩
              exact q2 c p H (.refl _ _) (.leaf hc) hp
            · refine q1 H (.refl _ _) fun c tr => ?_
              generalize hd : PyData.tuple [.str "book", d1] = d' at tr
              cases tr with
              | leaf h =>
                obtain ⟨_, e2⟩ := List.cons.inj (PyData.tuple.inj hd)
                obtain ⟨rfl, _⟩ := List.cons.inj e2
                have h1 := (List.getElem?_eq_some_iff.mp h).1
                have h3 := aB.1
                exact y (num_yes (by omega))
              | cut _ _ _ => cases (PyData.tuple.inj hd)
      rintro σ' G ⟨rfl, rfl, hl⟩
      refine Evl.q_cut (M := fun σ' G => σ' = [some (.ref ba), some v, none, none] ∧ H = G ∧ forkD d = true) ?_ ?_
      · refine ⟨_, rfl, f0, v, d, rfl, hv, sh, forkD d, rfl, ?_⟩
        cases hf : forkD d with
        | true => exact ⟨rfl, rfl, rfl⟩
        | false =>
          refine q1 H (.refl _ _) fun c tr => ?_
          rcases tr.way with z | z
          · rw [hl] at z
            cases z
          · rw [hf] at z
            cases z
      rintro σ' G ⟨rfl, rfl, hf⟩
      obtain ⟨da, db, dk, rfl⟩ := fork_of hf
      obtain ⟨w1, w2⟩ := wn.parts
      have shp := shaped_tup sh
      cases id hv with
      | tup ha od =>
        rename_i a xs
        obtain ⟨v0, v1, v2, v3, d0, d1, d2, d3, rfl, e, o0, o1, o2, o3⟩ := four_of od (by have := od.len; simpa using this)
        obtain ⟨_, e1⟩ := List.cons.inj e
        obtain ⟨rfl, e2⟩ := List.cons.inj e1
        obtain ⟨rfl, e3⟩ := List.cons.inj e2
        obtain ⟨rfl, _⟩ := List.cons.inj e3
        have no : (∀ c, ¬ TrC css da c) ∨ (∀ c, ¬ TrC css db c) → ∀ c, ¬ TrC css (.tuple [.str "cut", da, db, dk]) c := fun z c tr => by
          generalize hd : PyData.tuple [.str "cut", da, db, dk] = d' at tr
          cases tr with
          | leaf _ => cases (PyData.tuple.inj hd)
          | cut t1 t2 _ =>
            obtain ⟨_, e1⟩ := List.cons.inj (PyData.tuple.inj hd)
            obtain ⟨rfl, e2⟩ := List.cons.inj e1
            obtain ⟨rfl, e3⟩ := List.cons.inj e2
            exact z.elim (fun z => z _ t1) fun z => z _ t2
        refine Evl.q_cut (M := fun σ' G => ∃ u : V, σ' = [some (.ref ba), some (.ref a), some u, none] ∧ Ke Nof H G ∧ ((u = .non ∧ ∀ c, ¬ TrC css da c) ∨ ∃ c p, u = .ref p ∧ TrC css da c ∧ G p = some (.tup (c.map V.int)))) ?_ ?_
        · exact ⟨_, rfl, _, rfl, a, _, 1, v1, rfl, rfl, .of ha, rfl, f0, .ref ba, v1, css, da, rfl, hb, ib, o1, shp da (by simp), w1, tg, fun G k n => ⟨.non, rfl, k, .inl ⟨rfl, n⟩⟩, fun c p G k tr hp => ⟨.ref p, rfl, k, .inr ⟨c, p, rfl, tr, hp⟩⟩⟩
        rintro σ' H1 ⟨u1, rfl, k1, y1⟩
        refine Evl.q_cut (M := fun σ' G => ∃ u : V, σ' = [some (.ref ba), some (.ref a), some u1, some u] ∧ Ke Nof H1 G ∧ ((u = .non ∧ ∀ c, ¬ TrC css db c) ∨ ∃ c p, u = .ref p ∧ TrC css db c ∧ G p = some (.tup (c.map V.int)))) ?_ ?_
        · exact ⟨_, rfl, _, rfl, a, _, 2, v2, rfl, rfl, .of (k1.tups _ _ ha), rfl, f0, .ref ba, v2, css, db, rfl, hb.ke k1, ib, o2.ke k1.all, shp db (by simp), w2, k1.tabs _ tg, fun G k n => ⟨.non, rfl, k, .inl ⟨rfl, n⟩⟩, fun c p G k tr hp => ⟨.ref p, rfl, k, .inr ⟨c, p, rfl, tr, hp⟩⟩⟩
        rintro σ' H2 ⟨u2, rfl, k2, y2⟩
        have k12 := k1.trans k2
        rcases y1 with ⟨rfl, n1⟩ | ⟨c1, p1, rfl, t1, hp1⟩
        · refine ⟨_, rfl, rfl, true, rfl, ?_⟩
          exact q1 H2 k12 (no (.inl n1))
        refine ⟨_, rfl, rfl, false, rfl, ?_⟩
        rcases y2 with ⟨rfl, n2⟩ | ⟨c2, p2, rfl, t2, hp2⟩
        · refine ⟨_, rfl, rfl, true, rfl, ?_⟩
          exact q1 H2 k12 (no (.inr n2))
        refine ⟨_, rfl, rfl, false, rfl, ?_⟩
        have hp1' := k2.tups _ _ hp1
        have i1 := t1.isCl ib
        have i2 := t2.isCl ib
        have z1 := i1.len
        have z2 := i2.len
        refine ⟨_, rfl, _, rfl, _, rfl, a, _, 3, v3, rfl, rfl, .of (k12.tups _ _ ha), rfl, ?_⟩
        have noc : (∀ k c, dk = .int k → ¬ Comes c1 c2 k c) → ∀ c, ¬ TrC css (.tuple [.str "cut", da, db, dk]) c := fun z c tr => by
          generalize hd : PyData.tuple [.str "cut", da, db, dk] = d' at tr
          cases tr with
          | leaf _ => cases (PyData.tuple.inj hd)
          | cut s1 s2 cm =>
            obtain ⟨_, e1⟩ := List.cons.inj (PyData.tuple.inj hd)
            obtain ⟨rfl, e2⟩ := List.cons.inj e1
            obtain ⟨rfl, e3⟩ := List.cons.inj e2
            obtain ⟨rfl, _⟩ := List.cons.inj e3
            cases t1.one s1
            cases t2.one s2
            exact z _ _ rfl cm
        have o3' := o3.ke k12.all
        cases hw : whD dk with
        | false =>
          refine .inr ⟨f0, .ref p1, .ref p2, v3, dk, rfl, o3', hw, q1 H2 k12 (noc fun k c e => ?_)⟩
          rw [e] at hw
          cases hw
        | true =>
          obtain ⟨k, rfl⟩ : ∃ k : Int, dk = .int k := by
            cases dk with
            | int k => exact ⟨k, rfl⟩
            | _ => cases hw
          cases o3'
          refine .inl ⟨.ref p1, .ref p2, k, c1, c2, rfl, ⟨p1, rfl, hp1'⟩, ⟨p2, rfl, hp2⟩, by omega, by omega, k12.tabs _ tg, fun H3 k3 n => ?_, fun ns p H3 k3 m' o up me hp => ?_⟩
          · refine q1 H3 (k12.trans k3) (noc fun k' c e cm => ?_)
            cases e
            exact cm.no (nocome_of i1 i2 n)
          · exact q2 ns p H3 (k12.trans k3) (.cut t1 t2 (comes_of i1 i2 m' o up me)) hp
/-! ### how great a thing is -/
mutual
theorem OdV.newD {f : Addr → Prop} {H H' : Hp} {S : Addr} (n : H S = none) (s : Same H H') : ∀ {d : PyData} {v : V}, OdV f H v d → OdV (· = S) H' v d
  | .none, _, h => by cases h; exact .non
  | .bool _, _, h => by cases h; exact .bl _
  | .int _, _, h => by cases h; exact .int _
  | .str _, _, h => by cases h; exact .str _
  | .list ds, _, h => by cases h with | lst h1 _ h2 => exact .lst (s _ _ h1) (ne_of_none h1 n) (OdAll.newD n s h2)
  | .tuple ds, _, h => by cases h with | tup h1 h2 => exact .tup (s _ _ h1) (OdAll.newD n s h2)
  | .dict _, _, h => by cases h
theorem OdAll.newD {f : Addr → Prop} {H H' : Hp} {S : Addr} (n : H S = none) (s : Same H H') : ∀ {ds : List PyData} {vs : List V}, OdAll f H vs ds → OdAll (· = S) H' vs ds
  | [], _, h => by cases h; exact .nil
  | d :: ds, _, h => by cases h with | cons h1 h2 => exact .cons (OdV.newD n s h1) (OdAll.newD n s h2)
end
theorem od_tup {f : Addr → Prop} {H : Hp} {v : V} {ds : List PyData} (h : OdV f H v (.tuple ds)) : ∃ a xs, v = .ref a ∧ H a = some (.tup xs) ∧ OdAll f H xs ds := by
  cases h with
  | tup ha od => exact ⟨_, _, rfl, ha, od⟩
/-- how many pieces, and how many within one another -/
inductive Sz : PyData → Nat → Nat → Prop
  | one {d : PyData} : forkD d = false → Sz d 1 1
  | fork {a b k : PyData} {m n i j : Nat} : Sz a m i → Sz b n j → Sz (.tuple [.str "cut", a, b, k]) (1 + m + n) (1 + max i j)
theorem Sz.pos {d : PyData} {n h : Nat} (s : Sz d n h) : 1 ≤ n ∧ 1 ≤ h := by
  cases s with
  | one _ => exact ⟨Nat.le_refl _, Nat.le_refl _⟩
  | fork _ _ => exact ⟨by omega, by omega⟩
theorem Sz.ex : ∀ (m : Nat) (d : PyData), d.depth ≤ m → ∃ n h, Sz d n h := by
  intro m
  induction m with
  | zero =>
    intro d hd
    cases hf : forkD d with
    | false => exact ⟨1, 1, .one hf⟩
    | true =>
      obtain ⟨a, b, k, rfl⟩ := fork_of hf
      have hd : PyData.depthAll [.str "cut", a, b, k] + 1 ≤ 0 := hd
      omega
  | succ m ih =>
    intro d hd
    cases hf : forkD d with
    | false => exact ⟨1, 1, .one hf⟩
    | true =>
      obtain ⟨a, b, k, rfl⟩ := fork_of hf
      have hd : PyData.depthAll [.str "cut", a, b, k] + 1 ≤ m + 1 := hd
      have h1 := depth_all (ds := [.str "cut", a, b, k]) (show a ∈ _ by simp)
      have h2 := depth_all (ds := [.str "cut", a, b, k]) (show b ∈ _ by simp)
      obtain ⟨n1, i1, s1⟩ := ih a (by omega)
      obtain ⟨n2, i2, s2⟩ := ih b (by omega)
      exact ⟨_, _, .fork s1 s2⟩
theorem Sz.parts {a b k : PyData} {n h : Nat} (s : Sz (.tuple [.str "cut", a, b, k]) n h) : ∃ m l i j, Sz a m i ∧ Sz b l j ∧ n = 1 + m + l ∧ h = 1 + max i j := by
  generalize hd : PyData.tuple [.str "cut", a, b, k] = d at s
  cases s with
  | one h =>
    rw [← hd] at h
    cases h
  | fork h1 h2 =>
    obtain ⟨_, e1⟩ := List.cons.inj (PyData.tuple.inj hd)
    obtain ⟨ea, e2⟩ := List.cons.inj e1
    obtain ⟨eb, e3⟩ := List.cons.inj e2
    rw [ea, eb]
    exact ⟨_, _, _, _, h1, h2, rfl, rfl⟩
theorem Sz.wn {d : PyData} {n h : Nat} (s : Sz d n h) : ∀ m, h ≤ m → Wn m d := by
  induction s with
  | one hf =>
    intro m hm
    obtain ⟨k, rfl⟩ : ∃ k, m = k + 1 := ⟨m - 1, by omega⟩
    exact .one hf
  | fork _ _ i1 i2 =>
    intro m hm
    obtain ⟨k, rfl⟩ : ∃ k, m = k + 1 := ⟨m - 1, by omega⟩
    exact .fork (i1 k (by omega)) (i2 k (by omega))
/-- what waits: a thing, within how many, its pieces and its height -/
structure Ww where
  d : PyData
  w : Nat
  n : Nat
  h : Nat
def Wt (D : Addr) (H : Hp) (x : V) (t : Ww) : Prop := ∃ p y, x = .ref p ∧ H p = some (.tup [y, .int (t.w : Nat)]) ∧ OdV (· = D) H y t.d ∧ SeqAt.shaped t.d = true ∧ Sz t.d t.n t.h
theorem Wt.ke {D : Addr} {H H' : Hp} {x : V} {t : Ww} (h : Wt D H x t) (k : Ke (· = D) H H') : Wt D H' x t := by
  obtain ⟨p, y, e, h1, h2, h3, h4⟩ := h
  exact ⟨p, y, e, k.tups _ _ h1, h2.ke k, h3, h4⟩
theorem ke_wr {H : Hp} {p : Addr} {xs : List V} {o : HO} (hp : H p = some (.lst xs)) : Ke (· = p) H (upd H p o) := by
  refine ⟨fun b x e _ m => by rw [upd_ne m]; exact e, fun Q hQ => ?_, fun b ys e => by rw [upd_ne (fun z => by rw [z, hp] at e; cases e)]; exact e⟩
  obtain ⟨qs, e, t⟩ := hQ
  exact ⟨qs, by rw [upd_ne fun z => by rw [z, hp] at e; cases e]; exact e, t⟩
def left (ws : List Ww) : Nat := (ws.map (·.n)).sum
theorem left_snoc (ws : List Ww) (t : Ww) : left (ws ++ [t]) = left ws + t.n := by
  unfold left
  rw [List.map_append, List.sum_append]
  rfl
abbrev sSize : Stmt := topS 14
theorem scSize : FnScope ["thing", "waiting", "pieces", "part", "within"] ["thing"] (defScope sSize) := ⟨rfl, rfl, rfl, by decide +kernel, rfl, by decide +kernel, by decide +kernel⟩
def spSzG : Sp := fun vs H Q _ => ∃ (f0 : Addr → Prop) (v : V) (d : PyData), vs = [v] ∧ OdV f0 H v d ∧ SeqAt.shaped d = true ∧ ∀ b H' n h, Ke Nof H H' → Sz d n h → (b = true ↔ n ≤ 360 ∧ h ≤ 40) → Q (.bl b) H'
theorem ok_szG {f fF : Addr} {fd fdF : FuncData} {k : Nat} {tk tk' : Tok} (F : Fun K "has_size_of_tree" "has_size_of_tree" sSize f fd) (M3 : mg "MOST_PIECES" = some (.int 360 tk)) (M4 : mg "MOST_WITHIN" = some (.int 40 tk')) (FF : Fun K "is_fork" "is_fork" sFork fF fdF) (bF : Binds K fdF ["thing"] []) (gF : mg "is_fork" = some (.ref fF)) (GF : FnOk P w K mg base CX0 1 fF fdF ["thing"] spFkG) :
    FnOk P w K mg base CX0 (k + 2) f fd ["thing"] spSzG := by
  refine F.ok scSize (fun vs H Q E h => ?_) (fun cdv A outer s H vs Q E hr h => ?_)
  · obtain ⟨f0, v, d, rfl, _⟩ := h
    rfl
  · obtain ⟨f0, v, d, rfl, hv, sh, q⟩ := h
    have hr1 : Room 1 _ := hr.mono (by omega)
    obtain ⟨N, Ht, sz⟩ := Sz.ex _ d (Nat.le_refl _)
    have p0 := sz.pos
    refine ⟨_, (Evl.pss_cut (ps_set (i := 1) scSize.nd rfl (.inl rfl) (pe_lstN (pa_cons (pe_tupN (pa_cons (pv 0) (pa_cons pe_int pa_nil))) pa_nil)))
      (Evl.pss_cut (ps_set (i := 2) scSize.nd rfl (.inl rfl) pe_int)
      (pss_cons (ps_while PassesOwn.never (pt_truth (pv 1) (fun _ => rfl)) (Evl.pss_cut (ps_asg (pe_bm0 PySem.F.plainAttrs_list PySem.F.slot_list_pop PySem.F.type_list_pop mt_pop (pv 1)) (pg_tup rfl (pgs_cons (pg_name (i := 3) scSize.nd rfl (.inl rfl)) (pgs_cons (pg_name (i := 4) scSize.nd rfl (.inl rfl)) pgs_nil))))
      (Evl.pss_cut (ps_aug (i := 2) scSize.nd rfl (.inl rfl) pe_int ip_add)
      (Evl.pss_cut (ps_if (PW.pt (pw_or (pt_cmpR op_gt (pv 2) (pe_glob (v := .int 360) rfl M3 ⟨_, rfl⟩) (nomark _)) (pw_or1 (pt_cmpR op_gt (pv 4) (pe_glob (v := .int 40) rfl M4 ⟨_, rfl⟩) (nomark _))))) (pss_one (ps_ret pe_bl)) pss_nil)
      (pss_one (ps_if (pt_val (pe_call GF hr1 (by rfl) gF FF.kp bF .nil pass0 (pa_cons (pv 3) pa_nil))) (pss_cons (ps_expr (pe_bm PySem.F.plainAttrs_list PySem.F.slot_list_append PySem.F.type_list_append mt_append (pv 1) (pa_cons (pe_tupN (pa_cons (pe_ix ix_tup (pv 3) pe_int (fun _ _ => rfl)) (pa_cons (pe_op op_add (pv 4) pe_int) pa_nil))) pa_nil)))
      (pss_one (ps_expr (pe_bm PySem.F.plainAttrs_list PySem.F.slot_list_append PySem.F.type_list_append mt_append (pv 1) (pa_cons (pe_tupN (pa_cons (pe_ix ix_tup (pv 3) pe_int (fun _ _ => rfl)) (pa_cons (pe_op op_add (pv 4) pe_int) pa_nil))) pa_nil))))) pss_nil))))))
      (pss_one (ps_ret pe_bl))))), ?_⟩
    refine Evl.q_cut (M := fun σ' G => ∃ D : Addr, σ' = [some v, some (.ref D), none, none, none] ∧ H D = none ∧ Ke Nof H G ∧ ∃ vs, G D = some (.lst vs) ∧ All2 (Wt D G) vs [⟨d, 1, N, Ht⟩]) ?_ ?_
    · refine ⟨_, rfl, by show 2 ≤ sizeLine; decide, fun p H1 np s1 hp1 _ => ?_⟩
      refine ⟨by show 1 ≤ sizeLine; decide, fun D H2 nD s2 hD _ => ?_⟩
      have s12 := s1.trans s2
      exact ⟨D, rfl, s1.free nD, .same s12, _, hD, All2.nil.snoc ⟨p, v, rfl, s2 _ _ hp1, OdV.newD (s1.free nD) s12 hv, sh, sz⟩⟩
    rintro σ' H1 ⟨D, rfl, nD, k1, vs1, hD1, a1⟩
    refine Evl.q_cut (M := fun σ' G => σ' = [some v, some (.ref D), some (.int 0), none, none] ∧ G = H1) ⟨rfl, rfl⟩ ?_
    rintro σ' H' ⟨rfl, rfl⟩
    refine ⟨fun m σ H2 => ∃ (y3 y4 : Option V) (ws : List Ww) (n : Nat) (vs : List V), σ = [some v, some (.ref D), some (.int (n : Nat)), y3, y4] ∧ Ke Nof H H2 ∧ H2 D = some (.lst vs) ∧ All2 (Wt D H2) vs ws ∧ m = left ws ∧ n + m = N ∧ n ≤ 360 ∧ ws.length ≤ n + 1 ∧ (Ht ≤ 40 ↔ ∀ t ∈ ws, t.w + t.h ≤ 41), ⟨N, none, none, [⟨d, 1, N, Ht⟩], 0, vs1, rfl, k1, hD1, a1, rfl, by omega, by omega, by show 1 ≤ 1; omega, ?_⟩, ?_⟩
    · constructor
      · intro z t ht
        rw [List.mem_singleton.mp ht]
        show 1 + Ht ≤ 41
        omega
      · intro z
        have := z _ (List.mem_singleton.mpr rfl)
        have : 1 + Ht ≤ 41 := this
        omega
    · rintro m σ H2 ⟨y3, y4, ws, n, vs, rfl, k2, hD2, a2, rfl, nm, n360, wl, J⟩
      refine ⟨_, rfl, !vs.isEmpty, .inl ⟨vs, .of hD2, rfl⟩, ?_⟩
      cases hv : vs with
      | nil =>
        have e : ws = [] := List.length_eq_zero_iff.mp (by rw [← a2.1, hv]; rfl)
        subst e
        have nm : n + 0 = N := nm
        exact q true H2 N Ht k2 sz ⟨fun _ => ⟨by omega, J.mpr fun t ht => nomatch ht⟩, fun _ => rfl⟩
      | cons v0 vt =>
        have ne : vs ≠ [] := by rw [hv]; exact List.cons_ne_nil _ _
        rw [if_pos (by rfl)]
        obtain ⟨vs0, x, ws0, ⟨d0, w0, n0, h0⟩, e1, e2, a0, p, y, rfl, hp0, oy, shy, szy⟩ := Tr.unsnoc a2 ne
        have ll := left_snoc ws0 ⟨d0, w0, n0, h0⟩
        have ll : left (ws0 ++ [⟨d0, w0, n0, h0⟩]) = left ws0 + n0 := ll
        have oy : OdV (· = D) H2 y d0 := oy
        have shy : SeqAt.shaped d0 = true := shy
        have szy : Sz d0 n0 h0 := szy
        have pz := szy.pos
        rw [e2, ll] at nm
        rw [e2, List.length_append, List.length_singleton] at wl
        have J1 : Ht ≤ 40 → w0 + h0 ≤ 41 := fun z => J.mp z ⟨d0, w0, n0, h0⟩ (by rw [e2]; exact List.mem_append_right _ List.mem_cons_self)
        have J2 : Ht ≤ 40 → ∀ t ∈ ws0, t.w + t.h ≤ 41 := fun z t ht => J.mp z t (by rw [e2]; exact List.mem_append_left _ ht)
        have J3 : w0 + h0 ≤ 41 → (∀ t ∈ ws0, t.w + t.h ≤ 41) → Ht ≤ 40 := fun z1 z2 => J.mpr fun t ht => by
          rw [e2] at ht
          rcases List.mem_append.mp ht with z | z
          · exact z2 t z
          · rw [List.mem_singleton.mp z]
            exact z1
        refine ⟨fun σ' H' => ∃ (y3 y4 : Option V) (ws' : List Ww) (vs' : List V), σ' = [some v, some (.ref D), some (.int ((n + 1 : Nat) : Int)), y3, y4] ∧ Ke Nof H H' ∧ H' D = some (.lst vs') ∧ All2 (Wt D H') vs' ws' ∧ left ws' + 1 = left ws0 + n0 ∧ n + 1 ≤ 360 ∧ ws'.length ≤ n + 2 ∧ (Ht ≤ 40 ↔ ∀ t ∈ ws', t.w + t.h ≤ 41), ?_, ?_⟩
        · rintro σ' H' ⟨z3, z4, ws', vs', rfl, k', hD', a', l', n', w', J'⟩
          exact ⟨left ws', by rw [e2, ll]; omega, z3, z4, ws', n + 1, vs', rfl, k', hD', a', rfl, by omega, n', by omega, J'⟩
        -- part, within
        refine Evl.q_cut (M := fun σ' H' => σ' = [some v, some (.ref D), some (.int (n : Nat)), some y, some (.int (w0 : Nat))] ∧ Ke Nof H H' ∧ H' D = some (.lst vs0) ∧ All2 (Wt D H') vs0 ws0 ∧ OdV (· = D) H' y d0) ?_ ?_
        · refine ⟨_, rfl, .inl ⟨rfl, _, .of hD2⟩, D, vs, .ref p, rfl, rfl, hD2, ?_, ?_⟩
          · rw [e1, List.length_append, List.length_singleton, Nat.add_sub_cancel, List.getElem?_append_right (Nat.le_refl _), Nat.sub_self]
            rfl
          rw [e1, List.dropLast_concat]
          have kw : Ke (· = D) H2 (upd H2 D (.lst vs0)) := ke_wr hD2
          exact ⟨p, _, rfl, .of (kw.tups _ _ hp0), rfl, _, _, rfl, _, _, rfl, rfl, rfl, k2.upd nD, upd_same, a0.imp fun _ _ h => h.ke kw, oy.ke kw⟩
        rintro σ' H3 ⟨rfl, k3, hD3, a3, oy3⟩
        refine Evl.q_cut (M := fun σ' H' => σ' = [some v, some (.ref D), some (.int ((n + 1 : Nat) : Int)), some y, some (.int (w0 : Nat))] ∧ H' = H3) ?_ ?_
        · exact ⟨_, rfl, _, _, rfl, rfl, by rw [show ((n + 1 : Nat) : Int) = (n : Int) + 1 by omega]; rfl, rfl⟩
        rintro σ' H' ⟨rfl, rfl⟩
        -- not too great
        refine Evl.q_cut (M := fun σ' H4 => σ' = [some v, some (.ref D), some (.int ((n + 1 : Nat) : Int)), some y, some (.int (w0 : Nat))] ∧ H4 = H' ∧ n + 1 ≤ 360 ∧ w0 ≤ 40) ?_ ?_
        · by_cases g1 : n + 1 > 360
          · refine ⟨_, rfl, _, _, rfl, rfl, true, bl_t' (decide_eq_true (show ((n + 1 : Nat) : Int) > 360 by omega)), ?_⟩
            exact q false H' N Ht k3 sz ⟨fun z => (nomatch z), fun z => by omega⟩
          · refine ⟨_, rfl, _, _, rfl, rfl, false, bl_f' (decide_eq_false (show ¬ ((n + 1 : Nat) : Int) > 360 by omega)), ?_⟩
            by_cases g2 : w0 > 40
            · refine ⟨_, rfl, _, _, rfl, rfl, true, bl_t' (decide_eq_true (show ((w0 : Nat) : Int) > 40 by omega)), ?_⟩
              exact q false H' N Ht k3 sz ⟨fun z => (nomatch z), fun z => by have := J1 z.2; omega⟩
            · exact ⟨_, rfl, _, _, rfl, rfl, false, bl_f' (decide_eq_false (show ¬ ((w0 : Nat) : Int) > 40 by omega)), rfl, rfl, by omega, by omega⟩
        rintro σ' H4 ⟨rfl, rfl, n3, w4⟩
        refine ⟨_, rfl, _, y, d0, rfl, oy3, shy, forkD d0, rfl, ?_⟩
        cases hf : forkD d0 with
        | false =>
          obtain ⟨rfl, rfl⟩ : n0 = 1 ∧ h0 = 1 := by
            cases szy with
            | one _ => exact ⟨rfl, rfl⟩
            | fork _ _ => cases hf
          exact ⟨_, _, ws0, vs0, rfl, k3, hD3, a3, rfl, n3, by omega, J2, fun z => J3 (by omega) z⟩
        | true =>
          obtain ⟨da, db, dk, rfl⟩ := fork_of hf
          obtain ⟨na, nb, ia, ib, sza, szb, rfl, rfl⟩ := szy.parts
          have shp := shaped_tup shy
          obtain ⟨a, xs, rfl, ha, od⟩ := od_tup oy3
          obtain ⟨v0', x0, y0, v3, dd0, dd1, dd2, dd3, rfl, e, o0, o1, o2, o3⟩ := four_of od (by have := od.len; simpa using this)
          obtain ⟨_, ee1⟩ := List.cons.inj e
          obtain ⟨rfl, ee2⟩ := List.cons.inj ee1
          obtain ⟨rfl, _⟩ := List.cons.inj ee2
          have lv0 := a3.1
          refine ⟨_, rfl, .inl ⟨rfl, _, .of hD3⟩, _, rfl, a, _, 1, x0, rfl, rfl, .of ha, rfl, _, rfl, _, _, rfl, rfl, by show 2 ≤ sizeLine; decide, fun p1 H5 np1 s5 hp1 _ => ?_⟩
          have hD5 := s5 _ _ hD3
          refine ⟨D, _, _, rfl, rfl, hD5, small1000 (by omega), ?_⟩
          have kw : Ke (· = D) H4 (upd H5 D (.lst (vs0 ++ [.ref p1]))) := (Ke.same s5).trans (ke_wr hD5)
          have kw5 : Ke (· = D) H5 (upd H5 D (.lst (vs0 ++ [.ref p1]))) := ke_wr hD5
          have a6 : All2 (Wt D (upd H5 D (.lst (vs0 ++ [.ref p1])))) (vs0 ++ [.ref p1]) (ws0 ++ [⟨da, w0 + 1, na, ia⟩]) := (a3.imp fun _ _ h => h.ke kw).snoc ⟨p1, x0, rfl, kw5.tups _ _ hp1, o1.ke kw, shp da (by simp), sza⟩
          have k6 : Ke Nof H (upd H5 D (.lst (vs0 ++ [.ref p1]))) := (k3.trans (.same s5)).upd nD
          have ha6 := kw.tups _ _ ha
          have o26 := o2.ke kw
          have hD6 : (upd H5 D (.lst (vs0 ++ [.ref p1]))) D = some (.lst (vs0 ++ [.ref p1])) := upd_same
          generalize upd H5 D (.lst (vs0 ++ [.ref p1])) = H6 at a6 k6 ha6 o26 hD6 kw kw5
          refine ⟨_, rfl, .inl ⟨rfl, _, .of hD6⟩, _, rfl, a, _, 2, y0, rfl, rfl, .of ha6, rfl, _, rfl, _, _, rfl, rfl, by show 2 ≤ sizeLine; decide, fun p2 H7 np2 s7 hp2 _ => ?_⟩
          have hD7 := s7 _ _ hD6
          refine ⟨D, _, _, rfl, rfl, hD7, ?_, ?_⟩
          · rw [List.length_append]
            exact small1000 (by show vs0.length + 1 ≤ 1000; omega)
          have kv : Ke (· = D) H6 (upd H7 D (.lst (vs0 ++ [.ref p1] ++ [.ref p2]))) := (Ke.same s7).trans (ke_wr hD7)
          have kv7 : Ke (· = D) H7 (upd H7 D (.lst (vs0 ++ [.ref p1] ++ [.ref p2]))) := ke_wr hD7
          have a8 : All2 (Wt D (upd H7 D (.lst (vs0 ++ [.ref p1] ++ [.ref p2])))) (vs0 ++ [.ref p1] ++ [.ref p2]) (ws0 ++ [⟨da, w0 + 1, na, ia⟩] ++ [⟨db, w0 + 1, nb, ib⟩]) := (a6.imp fun _ _ h => h.ke kv).snoc ⟨p2, y0, rfl, kv7.tups _ _ hp2, o26.ke kv, shp db (by simp), szb⟩
          refine ⟨_, _, _, _, rfl, (k6.trans (.same s7)).upd nD, upd_same, a8, ?_, n3, ?_, fun z t ht => ?_, fun z => J3 ?_ fun t ht => z t (List.mem_append_left _ (List.mem_append_left _ ht))⟩
          · rw [left_snoc, left_snoc]
            show left ws0 + na + nb + 1 = _
            omega
          · rw [List.length_append, List.length_append, List.length_singleton, List.length_singleton]
            omega
          · have j1 := J1 z
            rcases List.mem_append.mp ht with m | m
            · rcases List.mem_append.mp m with m | m
              · exact J2 z t m
              · rw [List.mem_singleton.mp m]
                show w0 + 1 + ia ≤ 41
                omega
            · rw [List.mem_singleton.mp m]
              show w0 + 1 + ib ≤ 41
              omega
          · have z1 : w0 + 1 + ia ≤ 41 := z ⟨da, w0 + 1, na, ia⟩ (List.mem_append_left _ (List.mem_append_right _ List.mem_cons_self))
            have z2 : w0 + 1 + ib ≤ 41 := z ⟨db, w0 + 1, nb, ib⟩ (List.mem_append_right _ List.mem_cons_self)
            omega
theorem Sz.uniq {d : PyData} {n h : Nat} (s : Sz d n h) : ∀ {m i : Nat}, Sz d m i → n = m ∧ h = i := by
  induction s with
  | one hf =>
    intro m i t
    cases t with
    | one _ => exact ⟨rfl, rfl⟩
    | fork _ _ => cases hf
  | fork _ _ i1 i2 =>
    intro m i t
    obtain ⟨_, _, _, _, t1, t2, rfl, rfl⟩ := t.parts
    obtain ⟨rfl, rfl⟩ := i1 t1
    obtain ⟨rfl, rfl⟩ := i2 t2
    exact ⟨rfl, rfl⟩
/-- a tree by the book -/
def IsTree (css : List (List Int)) (d : PyData) : Prop := ∃ n h c, Sz d n h ∧ n ≤ 360 ∧ h ≤ 40 ∧ TrC css d c
abbrev sIst : Stmt := topS 16
theorem scIst : FnScope ["book", "thing"] ["book", "thing"] (defScope sIst) := ⟨rfl, rfl, rfl, by decide +kernel, rfl, by decide +kernel, by decide +kernel⟩
def spItG (Po : Addr) : Sp := fun vs H Q _ => ∃ (f0 : Addr → Prop) (b v : V) (css : List (List Int)) (d : PyData), vs = [b, v] ∧ Bk H b css ∧ (∀ c ∈ css, IsCl c) ∧ OdV f0 H v d ∧ SeqAt.shaped d = true ∧ TabG H Po ∧ ∀ b H', Ke Nof H H' → (b = true ↔ IsTree css d) → Q (.bl b) H'
theorem ok_itG {f fS fC Po : Addr} {fd fdS fdC : FuncData} (F : Fun K "is_tree" "is_tree" sIst f fd) (FS : Fun K "has_size_of_tree" "has_size_of_tree" sSize fS fdS) (bS : Binds K fdS ["thing"] []) (gS : mg "has_size_of_tree" = some (.ref fS)) (GS : FnOk P w K mg base CX0 2 fS fdS ["thing"] spSzG)
    (FC : Fun K "claim_or_none" "claim_or_none" sCn fC fdC) (bC : Binds K fdC ["book", "thing"] []) (gC : mg "claim_or_none" = some (.ref fC)) (GC : FnOk P w K mg base CX0 45 fC fdC ["book", "thing"] (spCnG Po 40)) :
    FnOk P w K mg base CX0 46 f fd ["book", "thing"] (spItG Po) := by
  refine F.ok scIst (fun vs H Q E h => ?_) (fun cdv A outer s H vs Q E hr h => ?_)
  · obtain ⟨f0, b, v, css, d, rfl, _⟩ := h
    rfl
  · obtain ⟨f0, b, v, css, d, rfl, hb, ib, hv, sh, tg, q⟩ := h
    have hr2 : Room 2 _ := hr.mono (by omega)
    have hrd : Room 45 _ := hr
    refine ⟨_, (pss_one (ps_ret (pe_and (pe_call GS hr2 (by rfl) gS FS.kp bS .nil pass0 (pa_cons (pv 1) pa_nil)) (pe_one (pe_cmpR op_notN (pe_call GC hrd (by rfl) gC FC.kp bC .nil pass0 (pa_cons (pv 0) (pa_cons (pv 1) pa_nil))) pe_non (nomark _)))))), ?_⟩
    refine ⟨_, rfl, f0, v, d, rfl, hv, sh, fun x H1 n h k1 sz hx => ⟨x, rfl, ?_⟩⟩
    cases x with
    | false =>
      refine q false H1 k1 ⟨fun z => (nomatch z), fun ⟨n', h', c, sz', a, b, _⟩ => ?_⟩
      obtain ⟨rfl, rfl⟩ := sz.uniq sz'
      exact hx.mpr ⟨a, b⟩
    | true =>
      obtain ⟨a, b⟩ := hx.mp rfl
      refine ⟨_, rfl, _, rfl, f0, _, v, css, d, rfl, hb.ke k1, ib, hv.ke k1.all, sh, sz.wn 40 b, k1.tabs _ tg, fun H2 k2 no => ⟨rfl, ?_⟩, fun c p H2 k2 tr hp => ⟨rfl, ?_⟩⟩
      · exact q false H2 (k1.trans k2) ⟨fun z => (nomatch z), fun ⟨_, _, c, _, _, _, t⟩ => (no c t).elim⟩
      · exact q true H2 (k1.trans k2) ⟨fun _ => ⟨n, h, c, sz, a, b, tr⟩, fun _ => rfl⟩
end
end Ta
namespace Ta
open PySem PySem.Spec PyProof.Rows L2 GxR Nw Dr Kp Se Ct Lr Lp Od Og
/-! ### the law's own look at a tree: of anything (k20) -/
/-- made as a tree, so many within one another at most; its pieces may be none that can be cut -/
inductive StD (m : Nat) : Nat → PyData → Prop
  | leaf {l n : Nat} : n < m → StD m (l + 1) (.tuple [.str "book", .int (n : Nat)])
  | cut {l : Nat} {a b : PyData} {k : Int} : StD m l a → StD m l b → StD m (l + 1) (.tuple [.str "cut", a, b, .int k])
theorem StD.leaf_inv {m l : Nat} {d : PyData} (h : StD m l (.tuple [.str "book", d])) : ∃ n : Nat, d = .int (n : Nat) ∧ n < m := by
  generalize hd : PyData.tuple [.str "book", d] = d' at h
  cases h with
  | leaf h =>
    obtain ⟨_, e1⟩ := List.cons.inj (PyData.tuple.inj hd)
    obtain ⟨e2, _⟩ := List.cons.inj e1
    exact ⟨_, e2, h⟩
  | cut _ _ => cases (PyData.tuple.inj hd)
theorem StD.cut_inv {m l : Nat} {a b d : PyData} (h : StD m l (.tuple [.str "cut", a, b, d])) : ∃ l', l = l' + 1 ∧ StD m l' a ∧ StD m l' b := by
  generalize hd : PyData.tuple [.str "cut", a, b, d] = d' at h
  cases h with
  | leaf h => cases (PyData.tuple.inj hd)
  | cut h1 h2 =>
    obtain ⟨_, e1⟩ := List.cons.inj (PyData.tuple.inj hd)
    obtain ⟨ea, e2⟩ := List.cons.inj e1
    obtain ⟨eb, _⟩ := List.cons.inj e2
    rw [ea, eb]
    exact ⟨_, rfl, h1, h2⟩
/-- what it needs of a thing: a tuple of two and a word, or of four -/
theorem StD.way {m l : Nat} {d : PyData} (h : StD m l d) : (∃ n : Nat, d = .tuple [.str "book", .int (n : Nat)] ∧ n < m) ∨ ∃ a b k, d = .tuple [.str "cut", a, b, .int k] := by
  cases h with
  | leaf h => exact .inl ⟨_, rfl, h⟩
  | cut _ _ => exact .inr ⟨_, _, _, rfl⟩
section
variable {P : Program} {w : World} {K : PySem.W.Frag} {mg : Str → Option Value} {base : Heap}
structure Zs (mg : Str → Option Value) : Prop where
  z_len : mg "len" = none
  z_isinstance : mg "isinstance" = none
  z_tuple : mg "tuple" = none
  z_int : mg "int" = none
  z_bool : mg "bool" = none
  z_all : mg "all" = none
abbrev sSwh : Stmt := topS 21
theorem scSwh : FnScope ["thing"] ["thing"] (defScope sSwh) := ⟨rfl, rfl, rfl, by decide +kernel, rfl, by decide +kernel, by decide +kernel⟩
theorem ok_swh {f : Addr} {fd : FuncData} {k : Nat} (F : Fun K "_law_swhole" "_law_swhole" sSwh f fd) (T : Zs mg) : FnOk P w K mg base CX0 (k + 1) f fd ["thing"] spWhG := by
  refine F.ok scSwh (fun vs H Q E h => ?_) (fun cdv A outer s H vs Q E hr h => ?_)
  · obtain ⟨f0, v, d, rfl, _⟩ := h
    rfl
  · obtain ⟨f0, v, d, rfl, hv, q⟩ := h
    refine ⟨_, (pss_one (ps_ret (pe_and (pe_callB call_isi (by rfl) T.z_isinstance (by decide +kernel) (pa_cons (pv 0) (pa_cons (pe_bltn (v := .ty "int") (u := .type "int") (by rfl) T.z_int (by decide +kernel) rfl) pa_nil))) (pe_one (pe_not (pe_callB call_isi (by rfl) T.z_isinstance (by decide +kernel) (pa_cons (pv 0) (pa_cons (pe_bltn (v := .ty "bool") (u := .type "bool") (by rfl) T.z_bool (by decide +kernel) rfl) pa_nil)))))))), ?_⟩
    have t := hv.ty (K := K)
    cases d with
    | int n => exact ⟨_, rfl, v, .ty "int", .type "int", .type "int", true, rfl, .ty _, t, kit_ty (by decide +kernel), _, rfl, _, rfl, v, .ty "bool", .type "int", .type "bool", false, rfl, .ty _, t, kit_ty (by decide +kernel), _, rfl, q⟩
    | bool b => exact ⟨_, rfl, v, .ty "int", .type "bool", .type "int", true, rfl, .ty _, t, kit_ty (by decide +kernel), _, rfl, _, rfl, v, .ty "bool", .type "bool", .type "bool", true, rfl, .ty _, t, kit_ty (by decide +kernel), _, rfl, q⟩
    | none => exact ⟨_, rfl, v, .ty "int", .type "NoneType", .type "int", false, rfl, .ty _, t, kit_ty (by decide +kernel), _, rfl, q⟩
    | str x => exact ⟨_, rfl, v, .ty "int", .type "str", .type "int", false, rfl, .ty _, t, kit_ty (by decide +kernel), _, rfl, q⟩
    | list x => exact ⟨_, rfl, v, .ty "int", .type "list", .type "int", false, rfl, .ty _, t, kit_ty (by decide +kernel), _, rfl, q⟩
    | tuple x => exact ⟨_, rfl, v, .ty "int", .type "tuple", .type "int", false, rfl, .ty _, t, kit_ty (by decide +kernel), _, rfl, q⟩
    | dict x => cases hv
theorem same_wr' {H H1 : Hp} {D : Addr} {o : HO} (s : Same H H1) (n : H D = none) : Same H (upd H1 D o) := fun b x e => by
  rw [upd_ne (ne_of_none e n)]
  exact s b x e
theorem fn_no {CX : CXT} {k : Nat} {f : Addr} {fd : FuncData} {ps : List Str} : FnOk P w K mg base CX k f fd ps (fun _ _ _ _ => False) :=
  ⟨fun us H Q E h => h.elim, fun A outer s H args us vs Q E room env bind rel ask => ask.elim⟩
theorem at_last {xs : List V} {x : V} (h : xs[xs.length - 1]? = some x) : atI xs (-1) = some x := by
  have l := (List.getElem?_eq_some_iff.mp h).1
  unfold atI ixN
  rw [if_neg (by decide), if_pos (by omega)]
  exact (congrArg (fun i => xs[i]?) (show ((-1 : Int) + (xs.length : Int)).toNat = xs.length - 1 by omega)).trans h
abbrev sSit : Stmt := topS 30
abbrev nSit : List Str := ["book", "thing", "left", "part"]
theorem scSit : FnScope nSit ["book", "thing", "left"] (defScope sSit) := ⟨rfl, rfl, rfl, by decide +kernel, rfl, by decide +kernel, by decide +kernel⟩
def spSit (l : Nat) : Sp := fun vs H Q _ => ∃ (f0 : Addr → Prop) (b : Addr) (bvs : List V) (v : V) (d : PyData), vs = [.ref b, v, .int (l : Nat)] ∧ H b = some (.tup bvs) ∧ OdV f0 H v d ∧ SeqAt.shaped d = true ∧ ∀ x H', Same H H' → (x = true ↔ StD bvs.length l d) → Q (.bl x) H'
theorem ok_sit {f fW : Addr} {fd fdW : FuncData} (F : Fun K "_law_sis_tree" "_law_sis_tree" sSit f fd) (T : Zs mg) (bS : Binds K fd ["book", "thing", "left"] []) (gS : mg "_law_sis_tree" = some (.ref f))
    (FW : Fun K "_law_swhole" "_law_swhole" sSwh fW fdW) (bW : Binds K fdW ["thing"] []) (gW : mg "_law_swhole" = some (.ref fW)) (GW : FnOk P w K mg base CX0 1 fW fdW ["thing"] spWhG) :
    ∀ l, FnOk P w K mg base CX0 (l + 2) f fd ["book", "thing", "left"] (spSit l) := by
  have main : ∀ l, (0 < l → FnOk P w K mg base CX0 (l + 1) f fd ["book", "thing", "left"] (spSit (l - 1))) → FnOk P w K mg base CX0 (l + 2) f fd ["book", "thing", "left"] (spSit l) := by
    intro l ih0
    refine F.ok scSit (fun vs H Q E h => ?_) (fun cdv A outer s H vs Q E hr h => ?_)
    · obtain ⟨f0, b, bvs, v, d, rfl, _⟩ := h
      rfl
    · obtain ⟨f0, b, bvs, v, d, rfl, hb, hv, sh, q⟩ := h
      have hr1 : Room 1 _ := hr.mono (by omega)
      have hrd : Room (l + 1) _ := hr
      have ih : FnOk P w K mg base CX0 (l + 1) f fd ["book", "thing", "left"] (fun vs H Q E => 0 < l ∧ spSit (l - 1) vs H Q E) := by
        by_cases z : 0 < l
        · exact ok_weak (ih0 z) fun vs H Q E h => h.2
        · exact ok_weak fn_no fun vs H Q E h => z h.1
      refine ⟨_, (Evl.pss_cut (ps_if (PW.pt (pw_or (pt_not (pt_val (pe_callB call_isi (by rfl) T.z_isinstance (by decide +kernel) (pa_cons (pv 1) (pa_cons (pe_bltn (v := .ty "tuple") (u := .type "tuple") (by rfl) T.z_tuple (by decide +kernel) rfl) pa_nil))))) (pw_or (pt_cmpR op_lt (pe_callB call_len_seq (by rfl) T.z_len (by decide +kernel) (pa_cons (pv 1) pa_nil)) pe_int (nomark _)) (pw_or (pt_cmpR op_eq (pv 2) pe_int (nomark _)) (pw_or1 (pt_not (pt_val (pe_call GW hr1 (by rfl) gW FW.kp bW .nil pass0 (pa_cons (pe_ix ix_tup (pv 1) (pe_un un_neg pe_int) (fun _ _ => rfl)) pa_nil))))))))) (pss_one (ps_ret pe_bl)) pss_nil)
      (Evl.pss_cut (ps_if (PW.pt (pw_and (pt_cmpR (op_eqD hr.units) (pe_ix ix_tup (pv 1) pe_int (fun _ _ => rfl)) pe_str (nomark _)) (pw_and1 (pt_cmpR op_eq (pe_callB call_len_seq (by rfl) T.z_len (by decide +kernel) (pa_cons (pv 1) pa_nil)) pe_int (nomark _))))) (pss_one (ps_ret (pe_chain op_le op_lt pe_int (pe_ix ix_tup (pv 1) pe_int (fun _ _ => rfl)) (pe_callB call_len_seq (by rfl) T.z_len (by decide +kernel) (pa_cons (pv 0) pa_nil))))) pss_nil)
      (Evl.pss_cut (ps_if (PW.pt (pw_or (pt_cmpR (op_neD hr.units) (pe_ix ix_tup (pv 1) pe_int (fun _ _ => rfl)) pe_str (nomark _)) (pw_or1 (pt_cmpR op_ne (pe_callB call_len_seq (by rfl) T.z_len (by decide +kernel) (pa_cons (pv 1) pa_nil)) pe_int (nomark _))))) (pss_one (ps_ret pe_bl)) pss_nil)
      (pss_one (ps_ret (pe_callB (cr_all rfl) (by rfl) T.z_all (by decide +kernel) (pa_cons (pe_lc (own := [("part", 3)]) (g := (gName 3)) (tt := tYes) rfl scSit.nd (pi_tup (pe_slice sl_tupN (pv 1) (po_some pe_int) (po_some pe_int))) (blkOk_by (N := nSit) (sc := defScope sSit) (by decide +kernel)) (fun _ _ _ _ _ => (pg_name (i := 3) scSit.nd rfl (.inl rfl))) (fun _ _ _ _ _ => pts_nil) (fun _ _ _ _ _ => (pe_call ih hrd (by rfl) gS F.kp bS .nil pass0 (pa_cons (pv 0) (pa_cons (pv 3) (pa_cons (pe_op op_sub (pv 2) pe_int) pa_nil)))))) pa_nil))))))), ?_⟩
      have t := hv.ty (K := K)
      refine Evl.q_cut (M := fun σ' G => σ' = [some (.ref b), some v, some (.int (l : Nat)), none] ∧ H = G ∧ 0 < l ∧ ∃ (ds : List PyData) (n : Int), d = .tuple ds ∧ 2 ≤ ds.length ∧ ds[ds.length - 1]? = some (.int n)) ?_ ?_
      · cases d with
        | int n => exact ⟨_, rfl, v, .ty "tuple", .type "int", .type "tuple", false, rfl, .ty _, t, kit_ty (by decide +kernel), false, rfl, q false H (.refl _) ⟨(fun z => nomatch z), fun h => by rcases h.way with ⟨_, e, _⟩ | ⟨_, _, _, e⟩ <;> cases e⟩⟩
        | bool n => exact ⟨_, rfl, v, .ty "tuple", .type "bool", .type "tuple", false, rfl, .ty _, t, kit_ty (by decide +kernel), false, rfl, q false H (.refl _) ⟨(fun z => nomatch z), fun h => by rcases h.way with ⟨_, e, _⟩ | ⟨_, _, _, e⟩ <;> cases e⟩⟩
        | none => exact ⟨_, rfl, v, .ty "tuple", .type "NoneType", .type "tuple", false, rfl, .ty _, t, kit_ty (by decide +kernel), false, rfl, q false H (.refl _) ⟨(fun z => nomatch z), fun h => by rcases h.way with ⟨_, e, _⟩ | ⟨_, _, _, e⟩ <;> cases e⟩⟩
        | str n => exact ⟨_, rfl, v, .ty "tuple", .type "str", .type "tuple", false, rfl, .ty _, t, kit_ty (by decide +kernel), false, rfl, q false H (.refl _) ⟨(fun z => nomatch z), fun h => by rcases h.way with ⟨_, e, _⟩ | ⟨_, _, _, e⟩ <;> cases e⟩⟩
        | list n => exact ⟨_, rfl, v, .ty "tuple", .type "list", .type "tuple", false, rfl, .ty _, t, kit_ty (by decide +kernel), false, rfl, q false H (.refl _) ⟨(fun z => nomatch z), fun h => by rcases h.way with ⟨_, e, _⟩ | ⟨_, _, _, e⟩ <;> cases e⟩⟩
        | dict n => cases hv
        | tuple ds =>
          obtain ⟨a, xs, rfl, ha, od⟩ := od_tup hv
          have lx := od.len
          refine ⟨_, rfl, .ref a, .ty "tuple", .type "tuple", .type "tuple", true, rfl, .ty _, t, kit_ty (by decide +kernel), true, rfl, ?_⟩
          by_cases g2 : xs.length < 2
          · refine ⟨_, rfl, a, _, rfl, .inr (.of ha), _, _, rfl, rfl, true, bl_t' (decide_eq_true (show ((xs.length : Nat) : Int) < 2 by omega)), ?_⟩
            exact q false H (.refl _) ⟨(fun z => nomatch z), fun h => by
              rcases h.way with ⟨_, e, _⟩ | ⟨_, _, _, e⟩
              · rw [PyData.tuple.inj e] at lx
                simp at lx
                omega
              · rw [PyData.tuple.inj e] at lx
                simp at lx
                omega⟩
          refine ⟨_, rfl, a, _, rfl, .inr (.of ha), _, _, rfl, rfl, false, bl_f' (decide_eq_false (show ¬ ((xs.length : Nat) : Int) < 2 by omega)), ?_⟩
          by_cases g3 : l = 0
          · refine ⟨_, rfl, rfl, true, bl_t' (decide_eq_true (by rw [g3]; rfl)), ?_⟩
            refine q false H (.refl _) ⟨(fun z => nomatch z), fun h => ?_⟩
            rw [g3] at h
            cases h
          refine ⟨_, rfl, rfl, false, bl_f' (decide_eq_false fun e => g3 (by have := V.int.inj e; omega)), ?_⟩
          have hx := List.getElem?_eq_getElem (show xs.length - 1 < xs.length by omega)
          generalize xs[xs.length - 1]'(by omega) = x at hx
          obtain ⟨dl, hdl, ox⟩ := od.at hx
          rw [lx] at hdl
          refine ⟨_, rfl, _, rfl, a, _, _, x, rfl, rfl, .of ha, at_last hx, f0, x, dl, rfl, ox, whD dl, rfl, ?_⟩
          cases hw : whD dl with
          | true =>
            obtain ⟨k, rfl⟩ : ∃ k : Int, dl = .int k := by
              cases dl with
              | int k => exact ⟨k, rfl⟩
              | _ => cases hw
            exact ⟨rfl, rfl, by omega, ds, k, rfl, by omega, hdl⟩
          | false =>
            refine q false H (.refl _) ⟨(fun z => nomatch z), fun h => ?_⟩
            rcases h.way with ⟨n, e, _⟩ | ⟨_, _, n, e⟩
            · rw [PyData.tuple.inj e] at hdl
              cases hdl
              cases hw
            · rw [PyData.tuple.inj e] at hdl
              cases hdl
              cases hw
      rintro σ' G ⟨rfl, rfl, l0, ds, kn, rfl, l2, last⟩
      obtain ⟨a, xs, rfl, ha, od⟩ := od_tup hv
      have lx := od.len
      have shp := shaped_tup sh
      have h0 := List.getElem?_eq_getElem (show 0 < xs.length by omega)
      generalize xs[0]'(by omega) = x0 at h0
      obtain ⟨d0, hd0, o0⟩ := od.at h0
      have m0 := List.mem_of_getElem? hd0
      -- a claim of the book
      refine Evl.q_cut (M := fun σ' G => σ' = [some (.ref b), some (.ref a), some (.int (l : Nat)), none] ∧ H = G ∧ ¬ (d0 = .str "book" ∧ ds.length = 2)) ?_ ?_
      · refine ⟨_, rfl, a, _, 0, x0, rfl, rfl, .of ha, at_of (j := 0) rfl h0, d0, .str "book", o0.dp, .str _, shp d0 m0, shaped_book, _, rfl, ite2 (fun e => ?_) (fun e => ?_)⟩
        · have e0 := eqv_str.mp e
          by_cases g : xs.length = 2
          · refine ⟨_, rfl, a, _, rfl, .inr (.of ha), rfl, true, bl_t' (decide_eq_true (by rw [g]; rfl)), ?_⟩
            obtain ⟨v0, v1, e0', e1', rfl, rfl, q0, q1⟩ := two_of od g
            cases hd0
            cases last
            cases q1
            refine ⟨_, rfl, a, _, 1, .int kn, rfl, rfl, .of ha, rfl, _, _, rfl, rfl, decide (0 ≤ kn), rfl, ?_⟩
            have key : ∀ x, (x = true ↔ 0 ≤ kn ∧ kn < (bvs.length : Nat)) → Q (.bl x) H := fun x hx => q x H (.refl _) (hx.trans ⟨fun z => by
              rw [e0]
              obtain ⟨n, rfl⟩ : ∃ n : Nat, kn = (n : Int) := ⟨kn.toNat, by omega⟩
              rw [show l = (l - 1) + 1 by omega]
              exact .leaf (n := n) (by omega), fun h => by
              rw [e0] at h
              obtain ⟨n, e, ln⟩ := h.leaf_inv
              have := PyData.int.inj e
              omega⟩)
            by_cases g0 : 0 ≤ kn
            · rw [decide_eq_true g0]
              refine ⟨_, rfl, b, _, rfl, .inr (.of hb), _, _, rfl, rfl, ?_⟩
              refine key _ ⟨fun z => ⟨g0, of_decide_eq_true z⟩, fun z => decide_eq_true z.2⟩
            · rw [decide_eq_false g0]
              exact key false ⟨(fun z => nomatch z), fun z => absurd z.1 g0⟩
          · refine ⟨_, rfl, a, _, rfl, .inr (.of ha), rfl, false, bl_f' (decide_eq_false fun e => g (by have := V.int.inj e; omega)), rfl, rfl, fun z => g (by omega)⟩
        · exact ⟨rfl, rfl, fun z => e (eqv_str.mpr z.1)⟩
      rintro σ' G ⟨rfl, rfl, nb⟩
      -- a cut
      have nocut : (d0 ≠ .str "cut" ∨ xs.length ≠ 4) → ¬ StD bvs.length l (.tuple ds) := fun z h => by
        rcases h.way with ⟨n, e, _⟩ | ⟨x, y, n, e⟩
        · cases PyData.tuple.inj e
          cases hd0
          exact nb ⟨rfl, rfl⟩
        · cases PyData.tuple.inj e
          cases hd0
          rcases z with z | z
          · exact z rfl
          · exact z lx
      refine Evl.q_cut (M := fun σ' G => σ' = [some (.ref b), some (.ref a), some (.int (l : Nat)), none] ∧ H = G ∧ d0 = .str "cut" ∧ xs.length = 4) ?_ ?_
      · refine ⟨_, rfl, a, _, 0, x0, rfl, rfl, .of ha, at_of (j := 0) rfl h0, d0, .str "cut", o0.dp, .str _, shp d0 m0, shaped_cut, _, rfl, ite2 (fun e => ?_) (fun e => ?_)⟩
        · exact q false H (.refl _) ⟨(fun z => nomatch z), fun h => (nocut (.inl fun z => by rw [eqv_str.mpr z] at e; cases e) h).elim⟩
        · have e0 : d0 = .str "cut" := eqv_str.mp (by cases z : PyData.eqv d0 (.str "cut") with | true => rfl | false => exact absurd (by rw [z]; rfl) e)
          by_cases g : xs.length = 4
          · exact ⟨_, rfl, a, _, rfl, .inr (.of ha), rfl, false, bl_f' (by rw [g]; rfl), rfl, rfl, e0, g⟩
          · refine ⟨_, rfl, a, _, rfl, .inr (.of ha), rfl, true, bl_t' (by rw [decide_eq_false fun e => g (by have := V.int.inj e; omega)]; rfl), ?_⟩
            exact q false H (.refl _) ⟨(fun z => nomatch z), fun h => (nocut (.inr g) h).elim⟩
      rintro σ' G ⟨rfl, rfl, e0, l4⟩
      obtain ⟨v0, v1, v2, v3, dd0, da, db, dk, rfl, rfl, o0', o1, o2, o3⟩ := four_of od l4
      cases hd0
      subst e0
      cases last
      -- both parts
      refine ⟨_, rfl, 1, rfl, 3, rfl, a, _, rfl, ha, fun p H1 s1 hp => ?_⟩
      have hp : H1 p = some (.tup [v1, v2]) := hp
      refine ⟨p, rfl, ⟨_, .of hp⟩, fun D nD => ?_⟩
      refine lc_tup (xs := [v1, v2]) (Pv := fun i G => Same H1 G ∧ ∃ bs : List Bool, G D = some (.lst (bs.map V.bl)) ∧ bs.length = i ∧ (∀ x, bs[0]? = some x → (x = true ↔ StD bvs.length (l - 1) da)) ∧ ∀ x, bs[1]? = some x → (x = true ↔ StD bvs.length (l - 1) db)) ⟨same_new nD, [], upd_same, rfl, (fun x z => nomatch z), fun x z => nomatch z⟩ (fun i G _ z => .of (z.1 _ _ hp)) ?_ ?_
      · rintro i x G hx ⟨s2, bs, hD, lb, b0, b1⟩
        have el : V.int (((l : Nat) : Int) - 1) = V.int ((l - 1 : Nat) : Int) := by rw [show ((l : Nat) : Int) - 1 = ((l - 1 : Nat) : Int) by omega]
        have hb2 := s2 _ _ (s1 _ _ hb)
        have k2 : Ke f0 H G := .same (s1.trans s2)
        rcases i with _ | _ | i
        · cases hx
          obtain rfl : bs = [] := List.length_eq_zero_iff.mp lb
          refine ⟨rfl, _, rfl, _, rfl, _, rfl, _, _, rfl, rfl, l0, f0, b, bvs, v1, da, (by show [V.ref b, v1, V.int (((l : Nat) : Int) - 1)] = _; rw [el]), hb2, o1.ke k2, shp da (by simp), fun y G' s3 hy => ⟨_, s3 _ _ hD, by show 0 < sizeLine; decide, same_wr' (s2.trans s3) nD, [y], upd_same, rfl, fun x e => ?_, fun x e => nomatch e⟩⟩
          cases e
          exact hy
        · cases hx
          match bs, lb with
          | [z], _ =>
            have b0 := b0 z rfl
            refine ⟨rfl, _, rfl, _, rfl, _, rfl, _, _, rfl, rfl, l0, f0, b, bvs, v2, db, (by show [V.ref b, v2, V.int (((l : Nat) : Int) - 1)] = _; rw [el]), hb2, o2.ke k2, shp db (by simp), fun y G' s3 hy => ⟨_, s3 _ _ hD, by show 1 < sizeLine; decide, same_wr' (s2.trans s3) nD, [z, y], upd_same, rfl, fun x e => ?_, fun x e => ?_⟩⟩
            · cases e
              exact b0
            · cases e
              exact hy
        · cases hx
      · rintro G ⟨s2, bs, hD, lb, b0, b1⟩
        match bs, lb with
        | [x, y], _ =>
          have b0 := b0 x rfl
          have b1 := b1 y rfl
          refine ⟨D, _, rfl, .of hD, ?_⟩
          refine q _ G (s1.trans s2) ?_
          have cut : StD bvs.length l (.tuple [.str "cut", da, db, .int kn]) ↔ StD bvs.length (l - 1) da ∧ StD bvs.length (l - 1) db := by
            constructor
            · intro h
              obtain ⟨l', e, h1, h2⟩ := h.cut_inv
              rw [show l - 1 = l' by omega]
              exact ⟨h1, h2⟩
            · rintro ⟨h1, h2⟩
              have : StD bvs.length (l - 1 + 1) (.tuple [.str "cut", da, db, .int kn]) := .cut h1 h2
              rw [show l - 1 + 1 = l by omega] at this
              exact this
          rw [cut, ← b0, ← b1]
          cases x <;> cases y <;> simp
  intro l
  induction l with
  | zero => exact main 0 fun h => absurd h (Nat.lt_irrefl 0)
  | succ l ih => exact main (l + 1) fun _ => ih
end
end Ta
namespace Ta
open PySem PySem.Spec PyProof.Rows L2 GxR Nw Dr Kp Se Ct Lr Lp Od Og
open Tr (T At)
/-! ### trees by their data: what both looks tell is the same (k20) -/
def datT : T → PyData
  | .leaf n => .tuple [.str "book", .int (n : Nat)]
  | .cut t u k => .tuple [.str "cut", datT t, datT u, .int k]
/-- all its claims are of the book -/
def Lf (m : Nat) : T → Prop
  | .leaf n => n < m
  | .cut t u _ => Lf m t ∧ Lf m u
theorem StD.tree {m l : Nat} {d : PyData} (h : StD m l d) : ∃ t, d = datT t ∧ t.depth ≤ l ∧ Lf m t := by
  induction h with
  | @leaf l n h => exact ⟨.leaf n, rfl, by show 1 ≤ l + 1; omega, h⟩
  | @cut l a b k h1 h2 i1 i2 =>
    obtain ⟨t, rfl, d1, l1⟩ := i1
    obtain ⟨u, rfl, d2, l2⟩ := i2
    exact ⟨.cut t u k, rfl, by show 1 + max t.depth u.depth ≤ l + 1; omega, l1, l2⟩
theorem std_of {m : Nat} : ∀ {t : T} {l : Nat}, Lf m t → t.depth ≤ l → StD m l (datT t)
  | .leaf n, l, h, hl => by
    have hl : 1 ≤ l := hl
    obtain ⟨k, rfl⟩ : ∃ k, l = k + 1 := ⟨l - 1, by omega⟩
    exact .leaf h
  | .cut t u k, l, h, hl => by
    have hl : 1 + max t.depth u.depth ≤ l := hl
    obtain ⟨j, rfl⟩ : ∃ j, l = j + 1 := ⟨l - 1, by omega⟩
    exact .cut (std_of h.1 (by omega)) (std_of h.2 (by omega))
theorem at_of_od {f : Addr → Prop} {H : Hp} : ∀ {t : T} {v : V}, OdV f H v (datT t) → At H t v
  | .leaf n, v, h => by
    obtain ⟨a, xs, rfl, ha, od⟩ := od_tup h
    obtain ⟨v0, v1, d0, d1, rfl, e, o0, o1⟩ := two_of od (by have := od.len; simpa using this)
    cases e
    cases o0
    cases o1
    exact ⟨a, rfl, ha⟩
  | .cut t u k, v, h => by
    obtain ⟨a, xs, rfl, ha, od⟩ := od_tup h
    obtain ⟨v0, v1, v2, v3, d0, d1, d2, d3, rfl, e, o0, o1, o2, o3⟩ := four_of od (by have := od.len; simpa using this)
    cases e
    cases o0
    cases o3
    exact ⟨a, v1, v2, rfl, ha, at_of_od o1, at_of_od o2⟩
theorem od_of_at {f : Addr → Prop} {H : Hp} : ∀ {t : T} {v : V}, At H t v → OdV f H v (datT t)
  | .leaf n, v, h => by
    obtain ⟨a, rfl, ha⟩ := h
    exact .tup ha (.cons (.str _) (.cons (.int _) .nil))
  | .cut t u k, v, h => by
    obtain ⟨a, x, y, rfl, ha, h1, h2⟩ := h
    exact .tup ha (.cons (.str _) (.cons (od_of_at h1) (.cons (od_of_at h2) (.cons (.int _) .nil))))
theorem sz_dat : ∀ t : T, Sz (datT t) t.pieces t.depth
  | .leaf n => .one rfl
  | .cut t u k => .fork (sz_dat t) (sz_dat u)
theorem trc_of {css : List (List Int)} : ∀ {t : T} {c : List Int}, Tr.Cl css t c → TrC css (datT t) c
  | .leaf n, c, h => .leaf h
  | .cut t u k, c, h => by
    obtain ⟨x, y, h1, h2, h3⟩ := h
    exact .cut (trc_of h1) (trc_of h2) h3
theorem TrC.tree {css : List (List Int)} {d : PyData} {c : List Int} (h : TrC css d c) : ∃ t, d = datT t ∧ Lf css.length t ∧ Tr.Cl css t c := by
  induction h with
  | @leaf n c h => exact ⟨.leaf n, rfl, (List.getElem?_eq_some_iff.mp h).1, h⟩
  | @cut a b x y c k h1 h2 h3 i1 i2 =>
    obtain ⟨t, rfl, l1, c1⟩ := i1
    obtain ⟨u, rfl, l2, c2⟩ := i2
    exact ⟨.cut t u k, rfl, ⟨l1, l2⟩, x, y, c1, c2, h3⟩
theorem dat_inj : ∀ {t u : T}, datT t = datT u → t = u
  | .leaf n, .leaf m, h => by
    obtain ⟨_, e1⟩ := List.cons.inj (PyData.tuple.inj h)
    have := PyData.int.inj (List.cons.inj e1).1
    have : n = m := by omega
    rw [this]
  | .leaf _, .cut _ _ _, h => by cases (PyData.tuple.inj h)
  | .cut _ _ _, .leaf _, h => by cases (PyData.tuple.inj h)
  | .cut t u k, .cut t' u' k', h => by
    obtain ⟨_, e1⟩ := List.cons.inj (PyData.tuple.inj h)
    obtain ⟨ea, e2⟩ := List.cons.inj e1
    obtain ⟨eb, e3⟩ := List.cons.inj e2
    have ek := PyData.int.inj (List.cons.inj e3).1
    rw [dat_inj ea, dat_inj eb, ek]
/-- what is_tree tells, by the tree -/
theorem isTree_iff {css : List (List Int)} {d : PyData} : IsTree css d ↔ ∃ t, d = datT t ∧ Lf css.length t ∧ t.depth ≤ 40 ∧ t.pieces ≤ 360 ∧ ∃ c, Tr.Cl css t c := by
  constructor
  · rintro ⟨n, h, c, sz, a, b, tr⟩
    obtain ⟨t, rfl, lf, cl⟩ := tr.tree
    obtain ⟨rfl, rfl⟩ := sz.uniq (sz_dat t)
    exact ⟨t, rfl, lf, b, a, c, cl⟩
  · rintro ⟨t, rfl, lf, b, a, c, cl⟩
    exact ⟨_, _, c, sz_dat t, a, b, trc_of cl⟩
/-- what the law tells: it is made as a tree of forty within one another, has as few pieces, and a claim -/
theorem due_iff {css : List (List Int)} {d : PyData} : IsTree css d ↔ StD css.length 40 d ∧ ∀ t, d = datT t → t.pieces ≤ 360 ∧ ∃ c, Tr.Cl css t c := by
  rw [isTree_iff]
  constructor
  · rintro ⟨t, rfl, lf, b, a, c⟩
    exact ⟨std_of lf b, fun u e => by rw [← dat_inj e]; exact ⟨a, c⟩⟩
  · rintro ⟨st, al⟩
    obtain ⟨t, rfl, dp, lf⟩ := st.tree
    obtain ⟨a, c⟩ := al t rfl
    exact ⟨t, rfl, lf, dp, a, c⟩
end Ta
namespace Ta
open PySem PySem.Spec PyProof.Rows L2 GxR Nw Dr Kp Se Ct Lr Lp Od Og
open Tr (At)
/-! ### the law's claim of a tree, or none; what is due (k20) -/
section
variable {P : Program} {w : World} {K : PySem.W.Frag} {mg : Str → Option Value} {base : Heap}
abbrev sStc : Stmt := topS 29
theorem scStc : FnScope ["book", "tree", "one", "other"] ["book", "tree"] (defScope sStc) := ⟨rfl, rfl, rfl, by decide +kernel, rfl, by decide +kernel, by decide +kernel⟩
def spStG (d : Nat) : Sp := fun vs H Q _ => ∃ (b v : V) (css : List (List Int)) (t : Tr.T), vs = [b, v] ∧ Bk H b css ∧ (∀ c ∈ css, IsCl c) ∧ At H t v ∧ t.depth ≤ d ∧ Lf css.length t ∧ (∀ H', Same H H' → (∀ c, ¬ Tr.Cl css t c) → Q .non H') ∧ ∀ c p H', Same H H' → Tr.Cl css t c → H' p = some (.tup (c.map V.int)) → Q (.ref p) H'
theorem ok_stG {f fC : Addr} {fd fdC : FuncData} (F : Fun K "_law_stree_claim" "_law_stree_claim" sStc f fd) (bS : Binds K fd ["book", "tree"] []) (gS : mg "_law_stree_claim" = some (.ref f)) (FC : Fun K "_law_scut" "_law_scut" sSct fC fdC) (bC : Binds K fdC ["one", "other", "k"] []) (gC : mg "_law_scut" = some (.ref fC)) (GC : FnOk P w K mg base CX0 1 fC fdC ["one", "other", "k"] spSct) :
    ∀ d, FnOk P w K mg base CX0 (d + 2) f fd ["book", "tree"] (spStG d) := by
  intro d
  induction d with
  | zero =>
    refine F.ok scStc (fun vs H Q E h => ?_) (fun cdv A outer s H vs Q E hr h => ?_)
    · obtain ⟨b, v, css, t, rfl, _⟩ := h
      rfl
    · obtain ⟨b, v, css, t, rfl, _, _, _, h0, _⟩ := h
      have := t.pos
      omega
  | succ d ih =>
    refine F.ok scStc (fun vs H Q E h => ?_) (fun cdv A outer s H vs Q E hr h => ?_)
    · obtain ⟨b, v, css, t, rfl, _⟩ := h
      rfl
    · obtain ⟨b, v, css, t, rfl, hb, ib, ht, hd, lf, q1, q2⟩ := h
      have hr1 : Room 1 _ := hr.mono (by omega)
      have hrd : Room (d + 2) _ := hr
      refine ⟨_, (Evl.pss_cut (ps_if (pt_cmpR op_eq (pe_ix ix_tup (pv 1) pe_int (fun _ _ => rfl)) pe_str (nomark _)) (pss_one (ps_ret (pe_ix ix_tup (pv 0) (pe_ix ix_tup (pv 1) pe_int (fun _ _ => rfl)) (fun _ _ => rfl)))) pss_nil)
      (Evl.pss_cut (ps_set (i := 2) scStc.nd rfl (.inl rfl) (pe_call ih hrd (by rfl) gS F.kp bS .nil pass0 (pa_cons (pv 0) (pa_cons (pe_ix ix_tup (pv 1) pe_int (fun _ _ => rfl)) pa_nil))))
      (Evl.pss_cut (ps_set (i := 3) scStc.nd rfl (.inl rfl) (pe_call ih hrd (by rfl) gS F.kp bS .nil pass0 (pa_cons (pv 0) (pa_cons (pe_ix ix_tup (pv 1) pe_int (fun _ _ => rfl)) pa_nil))))
      (Evl.pss_cut (ps_if (PW.pt (pw_or (pt_cmpR op_isN (pv 2) pe_non (nomark _)) (pw_or1 (pt_cmpR op_isN (pv 3) pe_non (nomark _))))) (pss_one (ps_ret pe_non)) pss_nil)
      (pss_one (ps_ret (pe_call GC hr1 (by rfl) gC FC.kp bC .nil pass0 (pa_cons (pv 2) (pa_cons (pv 3) (pa_cons (pe_ix ix_tup (pv 1) pe_int (fun _ _ => rfl)) pa_nil)))))))))), ?_⟩
      obtain ⟨ba, bvs, rfl, hbt, aB⟩ := bk_all hb
      cases t with
      | leaf n =>
        obtain ⟨a, rfl, ha⟩ := id ht
        have hc := List.getElem?_eq_getElem (show n < css.length from lf)
        obtain ⟨x, hx, p, rfl, hp⟩ := aB.atR hc
        refine Evl.q_cut (M := fun _ _ => False) ?_ fun _ _ z => z.elim
        refine ⟨_, rfl, a, _, 0, .str "book", rfl, rfl, .of ha, rfl, rfl, true, by simp, ?_⟩
        refine ⟨_, rfl, _, rfl, a, _, 1, .int (n : Nat), rfl, rfl, .of ha, rfl, ba, bvs, _, .ref p, rfl, rfl, .of hbt, at_of (j := n) rfl hx, ?_⟩
        exact q2 _ p H (Same.refl _) hc hp
      | cut tl tr k0 =>
        obtain ⟨a, x, y, rfl, ha, h1, h2⟩ := id ht
        obtain ⟨lf1, lf2⟩ := lf
        have dp : (Tr.T.cut tl tr k0).depth = 1 + max tl.depth tr.depth := rfl
        refine Evl.q_cut (M := fun σ' G => σ' = [some (.ref ba), some (.ref a), none, none] ∧ H = G) ?_ ?_
        · exact ⟨_, rfl, a, _, 0, .str "cut", rfl, rfl, .of ha, rfl, rfl, false, by simp; decide, rfl, rfl⟩
        rintro σ' G ⟨rfl, rfl⟩
        refine Evl.q_cut (M := fun σ' G => ∃ u : V, σ' = [some (.ref ba), some (.ref a), some u, none] ∧ Same H G ∧ ((u = .non ∧ ∀ c, ¬ Tr.Cl css tl c) ∨ ∃ c p, u = .ref p ∧ Tr.Cl css tl c ∧ G p = some (.tup (c.map V.int)))) ?_ ?_
        · exact ⟨_, rfl, _, rfl, a, _, 1, x, rfl, rfl, .of ha, rfl, .ref ba, x, css, tl, rfl, hb, ib, h1, by omega, lf1, fun G s n => ⟨.non, rfl, s, .inl ⟨rfl, n⟩⟩, fun c p G s c' hp => ⟨.ref p, rfl, s, .inr ⟨c, p, rfl, c', hp⟩⟩⟩
        rintro σ' H1 ⟨u1, rfl, s1, y1⟩
        refine Evl.q_cut (M := fun σ' G => ∃ u : V, σ' = [some (.ref ba), some (.ref a), some u1, some u] ∧ Same H1 G ∧ ((u = .non ∧ ∀ c, ¬ Tr.Cl css tr c) ∨ ∃ c p, u = .ref p ∧ Tr.Cl css tr c ∧ G p = some (.tup (c.map V.int)))) ?_ ?_
        · exact ⟨_, rfl, _, rfl, a, _, 2, y, rfl, rfl, .of (s1 _ _ ha), rfl, .ref ba, y, css, tr, rfl, hb.ke (.same s1) (F := Nof), ib, At.ke (Ke.same (F := Nof) s1) h2, by omega, lf2, fun G s n => ⟨.non, rfl, s, .inl ⟨rfl, n⟩⟩, fun c p G s c' hp => ⟨.ref p, rfl, s, .inr ⟨c, p, rfl, c', hp⟩⟩⟩
        rintro σ' H2 ⟨u2, rfl, s2, y2⟩
        have s12 := s1.trans s2
        rcases y1 with ⟨rfl, n1⟩ | ⟨c1, p1, rfl, t1, hp1⟩
        · refine Evl.q_cut (M := fun _ _ => False) ?_ fun _ _ z => z.elim
          exact ⟨_, rfl, rfl, true, rfl, q1 H2 s12 fun c ⟨x, y, z, _⟩ => n1 x z⟩
        rcases y2 with ⟨rfl, n2⟩ | ⟨c2, p2, rfl, t2, hp2⟩
        · refine Evl.q_cut (M := fun _ _ => False) ?_ fun _ _ z => z.elim
          exact ⟨_, rfl, rfl, false, rfl, _, rfl, rfl, true, rfl, q1 H2 s12 fun c ⟨x, y, _, z, _⟩ => n2 y z⟩
        refine Evl.q_cut (M := fun σ' G => σ' = [some (.ref ba), some (.ref a), some (.ref p1), some (.ref p2)] ∧ H2 = G) ?_ ?_
        · exact ⟨_, rfl, rfl, false, rfl, _, rfl, rfl, false, rfl, rfl, rfl⟩
        rintro σ' G ⟨rfl, rfl⟩
        have i1 := Tr.Cl.isCl ib t1
        have i2 := Tr.Cl.isCl ib t2
        have z1 := i1.len
        have z2 := i2.len
        refine ⟨_, rfl, _, rfl, _, rfl, a, _, 3, .int k0, rfl, rfl, .of (s12 _ _ ha), rfl, .ref p1, .ref p2, k0, c1, c2, rfl, ⟨p1, rfl, s2 _ _ hp1⟩, ⟨p2, rfl, hp2⟩, by omega, by omega, fun H3 s3 no => ?_, fun ns p H3 s3 k1 ka kb nop up me hp => ?_⟩
        · refine q1 H3 (s12.trans s3) fun c ⟨x, y, e1, e2, cm⟩ => ?_
          cases Tr.Cl.one t1 e1
          cases Tr.Cl.one t2 e2
          obtain ⟨m1, m2, m3, m4, _, _⟩ := cm
          rcases no with z | z | z | ⟨j, z, z'⟩
          · omega
          · exact z m2
          · exact z m3
          · exact m4 j z z'
        · exact q2 ns p H3 (s12.trans s3) ⟨c1, c2, t1, t2, k1, ka, kb, nop, up, me⟩ hp
end
end Ta
namespace Gx2
open PySem PySem.Spec PyProof.Rows L2
/-! ### promises for calls made while nothing is being shown, with refusals: for defs that show lists or tuples and are called by others -/
structure FnX (P : Program) (w : World) (K : PySem.W.Frag) (mg : Str → Option Value) (base : Heap) (CX : CXT) (k : Nat) (f : Addr) (fd : FuncData) (ps : List Str) (sp : Sp) : Prop where
  len : ∀ us H Q E, sp us H Q E → us.length = ps.length
  run : ∀ (A : Around) (outer : List Env) (s : Shared) (H : Hp) (args : Args) (us : List Value) (vs : List V) (Q : VK) (E : XK), A.guards = some [] → Room k A → Env0 P w K mg base A outer s H → BindsTo s fd args (ps.zip us) → Vals vs us → sp vs H Q E → codeAny (model P w) A (.call (.ref f) args) (CR CX outer P w H s Q E) s
section
variable {P : Program} {w : World} {K : PySem.W.Frag} {mg : Str → Option Value} {base : Heap} {CX : CXT}
theorem of_ok {k : Nat} {f : Addr} {fd : FuncData} {ps : List Str} {sp : Sp} (F : FnOk P w K mg base CX k f fd ps sp) : FnX P w K mg base CX k f fd ps sp := ⟨F.len, fun A outer s H args us vs Q E _ => F.run A outer s H args us vs Q E⟩
theorem okX {x qual : Str} {st : Stmt} {f : Addr} {fd : FuncData} {N ps : List Str} {k : Nat} {sp : Sp} (F : Fun K x qual st f fd) (S : FnScope N ps (defScope st)) (ln : ∀ us H Q E, sp us H Q E → us.length = ps.length)
    (body : ∀ (cdv : Value) (A : Around) (outer : List Env) (s : Shared) (H : Hp) (vs : List V) (Q : VK) (E : XK), A.guards = some [] → Room k (A.deeper (envOfC qual (defScope st) s.heap.objs.size f cdv)) → sp vs H Q E →
      ∃ t, PSs (cxOf CX P w K mg base N qual (defScope st) f cdv A outer s H E) (defBody st) t ∧ t { nx := fun _ H' => Q .non H', rt := Q } (start N vs) H) : FnX P w K mg base CX (k + 1) f fd ps sp := by
  obtain ⟨oc, od, kV, doc, pm, an, cdv, ct, osl, rfl, lk, hcd⟩ := F.ex
  refine ⟨ln, fun A outer s H args us vs Q E gd room env bind rel ask => ?_⟩
  have inS : K.In s.heap := env.mod.kin.keeps fun b o e => (env.bs b o e).1
  have noL : s.heap.NoLimit := env.mod.nolimit.keeps fun b o e => (env.bs b o e).1
  refine codeAny_call_function room.depth (inS _ _ lk) rfl S.co S.gen rfl (PySem.W.codeRec_of inS hcd) (bind _ _ _ _ (wpAny_newFunctionEnv_cells S.kind (fun y hy => ?_) fun env' he s1 z => ?_))
  · rcases S.par y.1 (List.of_mem_zip (a := y.1) (b := y.2) hy).1 with q | q
    · exact Or.inl q
    · exact Or.inr ⟨q, PySem.W.cellsFrom_some _ _ _ (Or.inl q)⟩
  · subst he
    obtain ⟨t, h1, h2⟩ := body cdv A outer s H vs Q E gd (room.deeper _) ask
    have J := inv_start (CX := CX) (E := E) S room.hd env (ln _ _ _ _ ask) rel z
    refine ⟨noL.keeps z.toInCall.keep, codeAny_func (wpAny_mono (h1.run [] s1 _ H _ J h2) (fun fl s' r => ?_) fun _ _ r => r)⟩
    match fl, r with
    | .ret u, r =>
      obtain ⟨v, σ', H', I, rv, q⟩ := r
      exact ⟨v, H', I.os, I.bare, I.base, I.hok, rv, q⟩
    | .next, r =>
      obtain ⟨σ', H', I, q⟩ := r
      exact ⟨.non, H', I.os, I.bare, I.base, I.hok, rfl, q⟩
    | .brk, r =>
      obtain ⟨_, _, _, q⟩ := r
      exact q.elim
    | .cont, r =>
      obtain ⟨_, _, _, q⟩ := r
      exact q.elim
end
section
variable {X : Cx} {CX : CXT} {k : Nat} {f : Addr} {fd : FuncData} {ps : List Str} {sp : Sp} {dvs : List V} {ds : List Value} {E : XK}
theorem runX {pins : List (Addr × Obj)} {σ : L2.St} {H : Hp} {s : Shared} {Q : VK} {us : List Value} {vs : List V} (F : FnX X.prog X.w X.K X.mg X.base CX k f fd ps sp) (gd : X.A.guards = some []) (room : Room k X.A) (bind : Binds X.K fd ps ds) (dv : Vals dvs ds) (pass : Passes CX X E)
    (I : Inv X pins σ H s) (rel : Vals vs us) (ask : sp (vs ++ dvs) H Q E) : wpAny (model X.prog X.w) X.A (call (.ref f) us) (EP X pins σ Q) X.xe s := by
  have r2 : Vals (vs ++ dvs) (us ++ ds) := rel.append dv
  have ll : (us ++ ds).length = ps.length := r2.length.symm.trans (F.len _ _ _ _ ask)
  refine wpAny_call (codeAny_mono (F.run X.A X.stack s H ⟨us, []⟩ _ _ Q E gd room I.env0 (bind s us I.kIn ll) r2 ask) fun r s' z => ?_)
  match r, z with
  | .error e, z => exact pass pins σ H s e s' I z
  | .ok (.ret u), z => exact I.after z
  | .ok .next, z => exact z.elim
  | .ok .brk, z => exact z.elim
  | .ok .cont, z => exact z.elim
/-- f(..) where nothing is being shown -/
theorem pe_callX {x : Str} {p pos : Pos} {e : Expr} {es : List Expr} {t : TA} (F : FnX X.prog X.w X.K X.mg X.base CX k f fd ps sp) (gd : X.A.guards = some []) (room : Room k X.A) (gl : Gl X x) (at_ : X.mg x = some (.ref f)) (kp : PySem.W.keepIn X.K (.ref f) = true) (bind : Binds X.K fd ps ds) (dv : Vals dvs ds) (pass : Passes CX X E)
    (ha : PA X (e :: es) t) (hdb : (x == ("__debug__" : Str)) = false := by decide) (he : starEach (e :: es) X.env = (false, eval e X.env) :: starEach es X.env := by rfl) (hpl : (backTo pos (starEach es X.env)).any (·.1) = false := by rfl) :
    PE X (.Call (.Name x p) (e :: es) [] pos) (tCall sp dvs E t) :=
  ⟨fun pins s σ H Q I h => wpAny_Call_Name_kw (ld_glob I gl at_ (PySem.W.callWith_K (h₀ := X.base) I.ok.mod.kin kp (thn (ha.run pos pins s σ H _ I h) fun us s1 ⟨vs, H1, I1, r, q⟩ => ⟨I1.kIn, runX F gd room bind dv pass I1 r q⟩) he hpl) hdb)⟩
end
end Gx2
namespace Rk
open PySem PySem.Spec PyProof.Rows L2 Nw Ev1 Gx2
/-! ### a call of a value that an expression tells; a caught error kept as a value; count of truths -/
theorem takes0 {X : Cx} : Takes X (fun _ _ _ _ => False) := fun _ _ x => by
  obtain ⟨_, _, _, _, _, _, _, _, _, _, _, _, _, _, _, _, z⟩ := x
  exact z.elim
section
variable {X : Cx} {CX : CXT} {k : Nat} {f : Addr} {fd : FuncData} {ps : List Str} {sp : Sp} {E : L2.St → XK}
theorem runS {pins : List (Addr × Obj)} {σ : L2.St} {H : Hp} {s : Shared} {Q : VK} {us : List Value} {vs : List V} (F : FnX X.prog X.w X.K X.mg X.base CX k f fd ps sp) (gd : X.A.guards = some []) (room : Room k X.A) (bind : Binds X.K fd ps []) (pass : PassesAt CX X σ (E σ))
    (I : Inv X pins σ H s) (rel : Vals vs us) (ask : sp vs H Q (E σ)) : wpAny (model X.prog X.w) X.A (call (.ref f) us) (EP X pins σ Q) X.xe s := by
  have ll : us.length = ps.length := rel.length.symm.trans (F.len _ _ _ _ ask)
  have b := bind s us I.kIn (by rw [List.append_nil]; exact ll)
  rw [List.append_nil] at b
  refine wpAny_call (codeAny_mono (F.run X.A X.stack s H ⟨us, []⟩ us vs Q (E σ) gd room I.env0 b rel ask) fun r s' z => ?_)
  match r, z with
  | .error e, z => exact pass pins H s e s' I z
  | .ok (.ret u), z => exact I.after z
  | .ok .next, z => exact z.elim
  | .ok .brk, z => exact z.elim
  | .ok .cont, z => exact z.elim
/-- g(e, ..), g an expression that tells the def f -/
def tCallV (f : Addr) (tf : TE) (sp : Sp) (E : L2.St → XK) (t : TA) : TE := fun σ H Q => tf σ H fun v H1 => v = .ref f ∧ t σ H1 fun vs H2 => sp vs H2 Q (E σ)
theorem pe_callV {fe e : Expr} {es : List Expr} {tf : TE} {t : TA} {pos : Pos} (F : FnX X.prog X.w X.K X.mg X.base CX k f fd ps sp) (gd : X.A.guards = some []) (room : Room k X.A) (kp : PySem.W.keepIn X.K (.ref f) = true) (bind : Binds X.K fd ps []) (pass : ∀ σ, PassesAt CX X σ (E σ)) (hf : PE X fe tf)
    (ha : PA X (e :: es) t) (hc : eval (.Call fe (e :: es) [] pos) X.env = (do callWith pos (← eval fe X.env) [] (backTo pos (starEach (e :: es) X.env)) (backToKw pos (keywordEach [] X.env))) := by rfl)
    (he : starEach (e :: es) X.env = (false, eval e X.env) :: starEach es X.env := by rfl) (hpl : (backTo pos (starEach es X.env)).any (·.1) = false := by rfl) :
    PE X (.Call fe (e :: es) [] pos) (tCallV f tf sp E t) := by
  refine ⟨fun pins s σ H Q I h => ?_⟩
  rw [hc]
  refine wpAny_bind (thn (hf.run pins s σ H _ I h) fun u s1 ⟨v, H1, I1, r1, e1, q1⟩ => ?_)
  subst e1
  cases r1
  exact PySem.W.callWith_K (h₀ := X.base) I1.ok.mod.kin kp (thn (ha.run pos pins s1 σ H1 _ I1 q1) fun us s2 ⟨vs, H2, I2, r, q⟩ => ⟨I2.kIn, runS F gd room bind (pass σ) I2 r q⟩) he hpl
end
section
variable {X : Cx} {pins : List (Addr × Obj)} {σ : L2.St} {H : Hp} {s : Shared} {a : Addr} {oe : Obj} {cls : Value} {d : Option Addr}
/-- an exception that stands in the heap comes to be known -/
theorem track {vs : Array Value} (I : Inv X pins σ H s) (ha : s.heap.get? a = some oe) (hz : Zc cls d oe) (hd : oe.data = .fields vs) (na : H a = none) (nL : a ≠ X.env.locals) (n0 : X.s_0.heap.get? a = none) (np : ∀ p ∈ X.pn ++ pins, p.1 ≠ a) :
    Inv X pins σ (upd H a (ExV cls d a)) s := by
  have new : ObjOk X.prog X.w (upd H a (ExV cls d a)) s.heap a (ExV cls d a) := ⟨⟨oe, vs, ha, hz, hd⟩, ⟨oe, ha⟩, fun h1 h2 ⟨o, v, y, r⟩ i => ⟨o, v, i o y, r⟩⟩
  have b := I.base
  refine ⟨I.ok, I.os, I.bare, ⟨b.keep, b.slot, fun x o e n m => ?_, b.there, fun x xs e => ?_, fun x o u e => ?_, fun x ps e => ?_⟩, I.loc, I.cell, ?_, fun x c e => ?_, fun p hp => ?_, I.hok.laidN (fun _ _ z => z) na new, I.len⟩
  · rw [upd_ne (fun z => by rw [z, n0] at e; cases e)]
    exact b.free x o e n m
  · rw [upd_ne (ne_of_none (b.tups x xs e) na)]
    exact b.tups x xs e
  · rw [upd_ne (ne_of_none (b.frzs x o u e) na)]
    exact b.frzs x o u e
  · obtain ⟨more, z⟩ := b.tbls x ps e
    exact ⟨more, by rw [upd_ne (ne_of_none z na)]; exact z⟩
  · rw [upd_ne (Ne.symm nL)]
    exact I.free
  · obtain ⟨w, z⟩ := I.cell x c e
    rw [upd_ne (fun y => ?_)]
    · exact I.freeC x c e
    · rw [y] at z
      obtain ⟨o, z1, z2⟩ := z
      rw [ha] at z1
      cases z1
      simp_all
  · obtain ⟨e, n, ne, nf, c⟩ := I.pin p hp
    exact ⟨e, by rw [upd_ne (np p hp)]; exact n, ne, nf, c⟩
end
/-- what «except x as n: suite» wishes of an exception of the body, where the suite ends and the exception is known behind it -/
def wKeep (K : PySem.W.Frag) (c : Value) (i : Nat) (ts : Addr → Value → Option Addr → TS) (Wout : WX) (D : Ends) : WX := fun cls d σ H =>
  ∃ b, PySem.W.exmOne K cls c = some b ∧ (b = true → ∀ a, H a = none → ts a cls d { nx := fun σ' H' => H' a = none → D.nx (σ'.set i none) (upd H' a (ExV cls d a)), rt := fun _ _ => False, bk := fun _ _ => False, ct := fun _ _ => False } (σ.set i (some (.ref a))) H) ∧
    (b = false → Wout cls d σ H)
section
variable {X : Cx} {x n : Str} {c : Value} {i : Nat} {body suite : List Stmt} {b₀ : Stmt} {np pos pos' : Pos} {tb : WX → TS} {ts : Addr → Value → Option Addr → TS} {Wout : WX}
theorem ps_try_keep (hs : X.stack = X.env :: X.outer) (hf : X.env.frame = some X.env.locals) (hex : X.ex = []) (hN : X.N.Nodup) (hi : X.N[i]? = some n) (hln : X.env.kindOf n = some .local) (hc : Names X x c) (tk : Takes X Wout)
    (hb : ∀ (W : WX) (pn : List (Addr × Obj)) (xe : Value → Shared → Prop), Takes (X.tr pn xe) W → PassesOwn (model X.prog X.w) X.A X.env xe → PSs (X.tr pn xe) body (tb W))
    (hsu : ∀ (a : Addr) (oe : Obj) (cls : Value) (d : Option Addr) (pn : List (Addr × Obj)), Zc cls d oe → (∃ vs, oe.data = .fields vs) → PSs (X.suite a ((a, oe) :: pn)) (b₀ :: suite) (ts a cls d)) :
    PS X (.Try body [.ExceptHandler (some (.Name x np)) (some n) (b₀ :: suite) pos'] [] [] pos) (fun D σ H => tb (wKeep X.K c i ts Wout D) D σ H) := by
  refine ⟨fun pins s σ H D I h => ?_⟩
  have ok := I.ok
  have hfr : X.A.frames = some (X.env :: X.outer) := by rw [ok.frames, hs]
  have hloc : Loc X.env.scope n := .inl hln
  refine wpAny_Try_except ?_
  refine wpAny_mono ((hb (wKeep X.K c i ts Wout D) (X.pn ++ pins) (fun e s₁ => wpAny (model X.prog X.w) X.A (noteFrame e X.env) (fun _ s₂ => wpAny (model X.prog X.w) X.A (setFlight e none) (fun _ s₃ =>
    wpAny (model X.prog X.w) X.A (handleBy e X.env [.ExceptHandler (some (.Name x np)) (some n) (b₀ :: suite) pos']) (SP X pins D) X.xe s₃) X.xe s₂) X.xe s₁) (fun u s' xx => ?_) PassesOwn.looking).run [] s σ H D (I.toTry _) h) (fun f s1 hsp => ?_) (fun e s1 he => he)
  · obtain ⟨a, B, sI, pins', σ', H', cls, d, rfl, J', nb, up, sky, na, os, ag, b, hb1, hyes, hno⟩ := xx
    have J : Inv X pins σ' H' sI := J'.ofTry ok
    have sky' : Sky B (X.env :: X.outer) a (Zc cls d) X.env.locals s'.heap := by rw [← hs]; exact sky
    have Ba : B.get? a = none := by
      rcases sky with z | z | z
      · exact z.2.1
      · exact z.2.1
      · exact z.2.1
    show wpAny (model X.prog X.w) X.A (noteFrame (.ref a) X.env) _ _ _
    refine Sky.land Zc.steady hfr hf sky' fun h3 fl3 up3 => ?_
    have J3 : Inv X pins σ' H' { s' with heap := h3 } := J.landed nb fl3.1 (up.trans up3) os ag
    obtain ⟨oe3, vs3, he3, hz3, hd3⟩ := fl3.there
    have notFr : ∀ {h : Heap} {o : Obj} {vs : Array Value}, h.FunFrames B (X.env :: X.outer) → h.get? a = some o → o.data = .fields vs → a ∉ frs (X.env :: X.outer) := fun {h o vs} ff e dd hm => by
      obtain ⟨_, o', e', hnf⟩ := ff.mem hm
      rw [e] at e'; cases e'
      exact hnf _ dd
    have nfr := notFr fl3.2.2.1 he3 hd3
    have nL : a ≠ X.env.locals := fun z => nfr (List.mem_filterMap.mpr ⟨X.env, List.mem_cons_self, by rw [hf, z]⟩)
    have nF : a ∉ X.fs := fun hm => by
      obtain ⟨e, he, q⟩ := List.mem_filterMap.mp hm
      exact nfr (List.mem_filterMap.mpr ⟨e, List.mem_cons_of_mem _ he, q⟩)
    have n0 : X.s_0.heap.get? a = none := by
      cases z : X.s_0.heap.get? a with
      | none => rfl
      | some o =>
        obtain ⟨o', z2⟩ := J.base.there a o z (by rw [hex]; simp)
        rw [nb a o' z2 (by show a ∉ frs X.stack; rw [hs]; exact nfr)] at Ba
        cases Ba
    have npin : ∀ p ∈ X.pn ++ pins, p.1 ≠ a := fun p hp z => by
      have y := (J.pin p hp).1
      rw [z] at y
      rw [nb a _ y (by show a ∉ frs X.stack; rw [hs]; exact nfr)] at Ba
      cases Ba
    have S3 := J3.suite he3 hd3 na nL nF
    refine wpAny_handleBy_cons (codeAny_handlers_test ?_) (by intro q; cases q)
    have LT : PySem.W.Looks (model X.prog X.w) h3 (typeOf (.ref a)) cls := fun A Q E s k q => wpAny_typeOf_ref (k _ _ he3) (by rw [hz3.1]; exact q)
    have LM := PySem.W.exm_one (M := model X.prog X.w) (J3.kIn) LT hb1
    have test : ∀ {Q : Value → Shared → Prop} {E : Value → Shared → Prop}, Q c { s' with heap := h3 } → wpAny (model X.prog X.w) (X.A.mark (some (.ref a))) (eval (.Name x np) X.env) Q E { s' with heap := h3 } := fun {Q E} q => by
      obtain ⟨hg, hdbg, hm | ⟨hm, hv, hnn⟩⟩ := hc
      · exact ld_glob (X := X.suite a ((a, oe3) :: (X.pn ++ pins))) S3 hg hm q hdbg
      · exact ld_blt (X := X.suite a ((a, oe3) :: (X.pn ++ pins))) S3 hg hm hv q hnn hdbg
    refine test (LM.here ?_)
    cases b with
    | true =>
      refine codeAny_handlers_suite_as ?_
      refine HandSPX.lands_againZ fl3 fun h4 fl4 up4 => ?_
      have J4 : Inv X pins σ' H' { s' with heap := h4 } := J.landed nb fl4.1 ((up.trans up3).trans up4) os ag
      obtain ⟨oe4, vs4, he4, hz4, hd4⟩ := fl4.there
      have S4 := J4.suite he4 hd4 na nL nF
      refine store_ok (X := X.suite a ((a, oe4) :: (X.pn ++ pins))) (v := .ref a) S4 hN hi hloc rfl (fun s5 S5 => ?_) (.inr hln)
      refine wpAny_mono ((hsu a oe4 cls d (X.pn ++ pins) hz4 ⟨_, hd4⟩).run [] s5 _ H' _ S5 (hyes rfl a na)) (fun f s6 hsp => ?_) (fun _ _ z => False.elim z)
      cases f with
      | next =>
        obtain ⟨σ6, H6, S6, q6⟩ := hsp
        obtain ⟨p1, p2, _⟩ := S6.pin (a, oe4) (List.mem_append_left _ List.mem_cons_self)
        have J6 : Inv X pins σ6 H6 s6 := S6.unsuite ok
        have J7 : Inv X pins σ6 (upd H6 a (ExV cls d a)) s6 := track J6 p1 hz4 hd4 p2 nL n0 npin
        exact gone_ok J7 hN hi hln fun s7 J8 => ⟨_, _, J8, q6 p2⟩
      | brk =>
        obtain ⟨σ6, H6, S6, q6⟩ := hsp
        exact q6.elim
      | cont =>
        obtain ⟨σ6, H6, S6, q6⟩ := hsp
        exact q6.elim
      | ret u =>
        obtain ⟨v6, σ6, H6, S6, r6, q6⟩ := hsp
        exact q6.elim
    | false =>
      show wpAny _ X.A (handleBy (.ref a) X.env []) _ _ _
      refine wpAny_handleBy_nil ?_
      obtain ⟨k1, k2, k3, oe, vs, T, oT, ts', he, hz, hd, h1, hr⟩ := id fl3
      unfold PySem.passOn
      refine wpAny_bind (wpAny_field he hd h1 ?_)
      rw [if_neg (show ¬ ((Value.ref T == Value.none) = true) from by simp)]
      have fin : wpAny (model X.prog X.w) X.A (setFlight (.ref a) X.env.frame) (fun _ s4 => wpAny (model X.prog X.w) X.A (throw (.ref a) : Sem Flow) (SP X pins D) X.xe s4) X.xe { s' with heap := h3 } := by
        rw [hf]
        refine HandSPX.setFlight_upZ fl3 fun h4 hh4 up4 => wpAny_throw (tk _ _ ?_)
        exact ⟨a, B, sI, pins, σ', H', cls, d, rfl, J, nb, (up.trans up3).trans up4, .inr (.inr (by rw [hs]; exact hh4)), na, os, ag, hno rfl⟩
      first
        | exact wpAny_bind (wpAny_pure (wpAny_bind fin))
        | exact wpAny_bind fin
  · cases f with
    | next =>
      obtain ⟨σ', H', J', q⟩ := hsp
      exact wpAny_execs_nil ⟨σ', H', J'.ofTry ok, q⟩
    | brk =>
      obtain ⟨σ', H', J', q⟩ := hsp
      exact ⟨σ', H', J'.ofTry ok, q⟩
    | cont =>
      obtain ⟨σ', H', J', q⟩ := hsp
      exact ⟨σ', H', J'.ofTry ok, q⟩
    | ret u =>
      obtain ⟨v, σ', H', J', r, q⟩ := hsp
      exact ⟨v, σ', H', J'.ofTry ok, r, q⟩
end
/-- at a a caught exception of the class D -/
def ExW (H : Hp) (a D : Addr) : Prop := H a = some (ExV (.ref D) none a) ∨ ∃ y, ExF H a D y
theorem ExW.same {H H' : Hp} {a D : Addr} (h : ExW H a D) (s : Same H H') : ExW H' a D := by
  rcases h with h | ⟨y, h⟩
  · exact .inl (s _ _ h)
  · exact .inr ⟨y, h.same s⟩
theorem ExW.inst {X : Cx} {pins : List (Addr × Obj)} {σ : L2.St} {H : Hp} {s : Shared} {a D : Addr} (I : Inv X pins σ H s) (h : ExW H a D) : ∃ ox od, PySem.W.InstAt s.heap a ox D od := by
  rcases h with h | ⟨y, h⟩
  · have z1 : ObjOk X.prog X.w H s.heap a (.ext fun h => ∃ (oe : Obj) (vs : Array Value), h.get? a = some oe ∧ Zc (.ref D) none oe ∧ oe.data = .fields vs) := I.hok a _ h
    obtain ⟨⟨oe, vs, ha, ⟨hc, hd⟩, hv⟩, _⟩ := z1
    exact ⟨oe, none, ⟨ha, hc, notCls_of hv, by rw [hd]; exact trivial⟩⟩
  · obtain ⟨ox, od, _, J, _⟩ := h.inst I
    exact ⟨ox, some od, J⟩
/-- isinstance(e, c) of a caught exception -/
def rIsW (K : PySem.W.Frag) : List V → Hp → VK → Prop := fun xs H Q => ∃ (a D : Addr) (c : V) (cv : Value) (b : Bool), xs = [.ref a, c] ∧ ExW H a D ∧ ExcC K D ∧ (∀ u, RelV c u → u = cv) ∧ PySem.W.kitOne K (.ref D) cv = some b ∧ Q (.bl b) H
theorem call_isW {X : Cx} : CallR X (.builtin "isinstance") (rIsW X.K) := by
  intro pins s σ H xs us Q I r h
  obtain ⟨a, D, c, cv, b, rfl, hE, C, hcv, e, q⟩ := h
  cases r with
  | cons rx rr =>
    cases rr with
    | cons rt rr =>
      cases rr
      cases rx
      have ec := hcv _ rt
      subst ec
      obtain ⟨ox, od, J⟩ := hE.inst I
      have cl : (PySem.W.clsIn X.K D).isSome = true := by
        obtain ⟨cd, hc, _⟩ := PySem.W.any_some C.hd
        rw [hc]
        rfl
      exact PySem.W.kia_one (PySem.W.kitx_exc cl C.hg C.hk C.hs C.ha C.hn C.ht C.hm) I.kIn J e (fun z => nomatch z) fun tk => ⟨.bl b, H, I.kept (t' := tk) fun _ _ z => z, rfl, q⟩
theorem count_vals {y : V} : ∀ {ys : List V} {us : List Value}, Vals ys us → ys.all flatV = true → us.countP (eqU y) = ys.countP fun z => eqV z y
  | [], _, .nil, _ => rfl
  | z :: r, u :: us, .cons r1 t, f => by
    rw [List.all_cons, Bool.and_eq_true] at f
    rw [List.countP_cons, List.countP_cons, count_vals t f.2, eqU_of r1 f.1]
/-- xs.count(y), flat items -/
def rCountV (K : PySem.W.Frag) : V → List V → Hp → VK → Prop := fun x xs H Q => ∃ (p : Addr) (ys : List V) (y : V), x = .ref p ∧ xs = [y] ∧ SqL K H p ys ∧ flatV y = true ∧ ys.all flatV = true ∧ Q (.int ((ys.countP fun z => eqV z y : Nat) : Int)) H
theorem mt_countV {X : Cx} : MtR X "list.count" (rCountV X.K) := by
  intro pins s σ H x xs v us Q I rx rxs h
  obtain ⟨p, ys, y, rfl, rfl, hs, fy, fys, q⟩ := h
  cases rx
  obtain ⟨u, rfl, ru⟩ := rxs.one
  obtain ⟨its, rv, ⟨⟨cls, dd, data, sl⟩, n, ho, hc, hdn, hd⟩, hlen⟩ := I.list hs
  simp only at hc hd
  subst hc hd
  refine call_meets PySem.F.slot_list_count ⟨_, ho, rfl⟩ PySem.F.entry_list_count (PySem.F.args_list_count_2 _ _)
    (SeqAt.list_countAt p its.toArray n dd sl u (eqU y)) ⟨ho, fun z hz => mem_eqAt ru fy rv fys z (by simpa using hz), ?_⟩
  have ec : its.toArray.toList.countP (eqU y) = ys.countP fun z => eqV z y := count_vals rv fys
  refine ⟨.int ((ys.countP fun z => eqV z y : Nat) : Int), H, I.tok _, ⟨s.toks, ?_⟩, q⟩
  show Value.int ((its.toArray.toList.countP (eqU y) : Nat) : Int) s.toks = _
  rw [ec]
end Rk
namespace Tl
open PySem PySem.Spec PyProof.Rows L2 GxR Nw Dr Kp Se Cl Ct Lr Lp Tr
structure Zv (mg : Str → Option Value) : Prop where
  z_len : mg "len" = none
  z_range : mg "range" = none
  z_tuple : mg "tuple" = none
  z_sorted : mg "sorted" = none
  z_zip : mg "zip" = none
/-- a tree and its claim -/
def TC (H : Hp) (v : V) (tc : T × List Int) : Prop := ∃ p x y, v = .ref p ∧ H p = some (.tup [x, y]) ∧ At H tc.1 x ∧ TupI H y tc.2
theorem TC.ke {F : Addr → Prop} {H H' : Hp} {v : V} {tc : T × List Int} (h : TC H v tc) (k : Ke F H H') : TC H' v tc := by
  obtain ⟨p, x, y, e, h1, h2, h3⟩ := h
  exact ⟨p, x, y, e, k.tups _ _ h1, h2.ke k, h3.ke k⟩
theorem TC.wr {H : Hp} {D : Addr} {ys : List V} {o : HO} {v : V} {tc : T × List Int} (h : TC H v tc) (hD : H D = some (.lst ys)) : TC (upd H D o) v tc := by
  obtain ⟨p, x, y, e, h1, h2, h3⟩ := h
  refine ⟨p, x, y, e, ?_, h2.wr hD, TupI.wr h3 hD⟩
  rw [upd_ne (fun z => by rw [z, hD] at h1; cases h1)]
  exact h1
/-- a list of ours is written -/
theorem keD {H H1 : Hp} {D : Addr} {xs : List V} {o : HO} (k : Ke (· = D) H H1) (h1 : H1 D = some (.lst xs)) : Ke (· = D) H (upd H1 D o) := by
  refine ⟨fun b x e t m => ?_, fun Q hQ => ?_, fun b ys e => ?_⟩
  · rw [upd_ne m]
    exact k.keep b x e t m
  · obtain ⟨qs, e2, t2⟩ := k.tabs Q hQ
    exact ⟨qs, by rw [upd_ne (fun z => by rw [z, h1] at e2; cases e2)]; exact e2, t2⟩
  · have e2 := k.tups b ys e
    rw [upd_ne (fun z => by rw [z, h1] at e2; cases e2)]
    exact e2
theorem keH {H H1 H2 : Hp} {D : Addr} (a : Ke Nof H H1) (b : Ke (· = D) H1 H2) (n : H D = none) : Ke Nof H H2 :=
  ⟨fun x o e t m => b.keep x o (a.keep x o e t m) t (fun z => by rw [z, n] at e; cases e), fun Q h => b.tabs Q (a.tabs Q h), fun x xs e => b.tups x xs (a.tups x xs e)⟩
/-- a tree as data -/
def dat : T → PyData
  | .leaf n => .tuple [.str "book", .int (n : Nat)]
  | .cut t u k => .tuple [.str "cut", dat t, dat u, .int k]
theorem dp_tree {K : PySem.W.Frag} {H : Hp} : ∀ {t : T} {v : V}, At H t v → Dp K H v (dat t)
  | .leaf n, v, h => by
    obtain ⟨a, rfl, h⟩ := h
    exact .tup (.of h) (.cons (.str _) (.cons (.int _) .nil))
  | .cut t u k, v, h => by
    obtain ⟨a, x, y, rfl, h, h1, h2⟩ := h
    exact .tup (.of h) (.cons (.str _) (.cons (dp_tree h1) (.cons (dp_tree h2) (.cons (.int _) .nil))))
theorem ltree : ∀ t : T, PyData.canLay0 (dat t) = true ∧ PyData.depth (dat t) ≤ t.depth
  | .leaf n => by
    have b1 : PyData.strOk "book" = true := by decide +kernel
    exact ⟨by simp [dat, PyData.canLay0, PyData.canLayAll0, b1], by simp [dat, PyData.depth, PyData.depthAll, T.depth]⟩
  | .cut t u k => by
    have b1 : PyData.strOk "cut" = true := by decide +kernel
    obtain ⟨h1, h2⟩ := ltree t
    obtain ⟨h3, h4⟩ := ltree u
    refine ⟨by simp [dat, PyData.canLay0, PyData.canLayAll0, b1, h1, h3], ?_⟩
    simp [dat, PyData.depth, PyData.depthAll, T.depth]
    omega
def tdat (tc : T × List Int) : PyData := .tuple [dat tc.1, .tuple (tc.2.map PyData.int)]
theorem dp_tcs {K : PySem.W.Frag} {H : Hp} : ∀ {vs : List V} {ms : List (T × List Int)}, All2 (TC H) vs ms → DpAll K H vs (ms.map tdat)
  | [], [], _ => .nil
  | [], r :: t, h => by cases h.1
  | v :: t, [], h => by cases h.1
  | v :: t, m :: u, h => by
    obtain ⟨p, x, y, rfl, hp, h1, q, rfl, hq⟩ := h.2 0 v m rfl rfl
    exact .cons (.tup (.of hp) (.cons (dp_tree h1) (.cons (.tup (.of hq) (dp_ints m.2)) .nil))) (dp_tcs ⟨by have := h.1; simp only [List.length_cons] at this; omega, fun i x y h1 h2 => h.2 (i + 1) x y h1 h2⟩)
theorem lay_tcs : ∀ ms : List (T × List Int), (∀ m ∈ ms, m.1.depth ≤ 45) → PyData.canLayAll0 (ms.map tdat) = true ∧ PyData.depthAll (ms.map tdat) ≤ 47
  | [], _ => ⟨rfl, by decide⟩
  | m :: r, h => by
    obtain ⟨h1, h2⟩ := lay_tcs r fun x hx => h x (List.mem_cons_of_mem _ hx)
    obtain ⟨h3, h4⟩ := ltree m.1
    have h5 := h m List.mem_cons_self
    have h6 : PyData.canLayAll0 (m.2.map PyData.int) = true := flat_lay _ (flat_ints m.2)
    have h7 := flat_depth _ (flat_ints m.2)
    refine ⟨?_, ?_⟩
    · show (PyData.canLay0 (tdat m) && PyData.canLayAll0 (r.map tdat)) = true
      rw [h1]
      simp [tdat, PyData.canLay0, PyData.canLayAll0, h3, h6]
    · show Nat.max (PyData.depth (tdat m)) (PyData.depthAll (r.map tdat)) ≤ 47
      refine Nat.max_le.mpr ⟨?_, h2⟩
      simp [tdat, PyData.depth, PyData.depthAll]
      omega
theorem shaped_tcs {ms : List (T × List Int)} (h : ∀ m ∈ ms, m.1.depth ≤ 45) : SeqAt.shaped (.list (ms.map tdat)) = true := by
  obtain ⟨h1, h2⟩ := lay_tcs ms h
  show (PyData.canLayAll0 (ms.map tdat) && decide (PyData.depthAll (ms.map tdat) + 1 ≤ 64)) = true
  rw [h1, decide_eq_true (by omega)]
  rfl
theorem not_f {H : Hp} {p f c : Addr} {B : Nat} (h : Frs H p) (F : Feed H f c B) : p ≠ f ∧ p ≠ c := by
  obtain ⟨_, _, _, h1, h2, _⟩ := F
  exact ⟨Ne.symm (h f _ h1 fun ps z => by cases z), Ne.symm (h c _ h2 fun ps z => by cases z)⟩
section
variable {P : Program} {w : World} {K : PySem.W.Frag} {mg : Str → Option Value} {base : Heap}
abbrev sStt : Stmt := topS 26
abbrev nStt : List Str := ["feed", "book", "deep", "number", "one", "other", "made", "first", "second", "k", "claim"]
theorem scStt : FnScope nStt ["feed", "book", "deep"] (defScope sStt) := ⟨rfl, rfl, rfl, by decide +kernel, rfl, by decide +kernel, by decide +kernel⟩
/-- a drawn tree -/
def spStt (d : Nat) : Sp := fun vs H Q _ => ∃ (f c : Addr) (b : V) (n B : Nat) (css : List (List Int)), vs = [.ref f, b, .int (n : Nat)] ∧ n < d ∧ d ≤ 10 ∧ Bk H b css ∧ (∀ c ∈ css, IsCl c) ∧ 1 ≤ css.length ∧ css.length ≤ 100 ∧ Feed H f c B ∧ B + 4 ^ (n + 1) ≤ 2 ^ 50 ∧
  ∀ (v : V) (t : T) (ct : List Int) (H' : Hp), Feed H' f c (B + 4 ^ (n + 1)) → Ke (· = f) H H' → TC H' v (t, ct) → Cl css t ct → t.depth ≤ n + 1 → t.pieces + 1 ≤ 2 ^ (n + 1) → Q v H'
theorem pow_le {a b : Nat} (h : a ≤ b) : 4 ^ a ≤ 4 ^ b ∧ 2 ^ a ≤ 2 ^ b := ⟨Nat.pow_le_pow_right (by decide) h, Nat.pow_le_pow_right (by decide) h⟩
theorem ok_stt {f fD fC : Addr} {fd fdD fdC : FuncData} (F : Fun K "_law_stree" "_law_stree" sStt f fd) (T : Zv mg) (bS : Binds K fd ["feed", "book", "deep"] []) (gS : mg "_law_stree" = some (.ref f)) (FD : Fun K "_law_sdraw" "_law_sdraw" sDrw fD fdD) (bD : Binds K fdD ["feed", "many"] []) (gD : mg "_law_sdraw" = some (.ref fD)) (GD : FnOk P w K mg base CX0 2 fD fdD ["feed", "many"] spDrw)
    (FC : Fun K "_law_scut" "_law_scut" sSct fC fdC) (bC : Binds K fdC ["one", "other", "k"] []) (gC : mg "_law_scut" = some (.ref fC)) (GC : FnOk P w K mg base CX0 1 fC fdC ["one", "other", "k"] spSct) :
    ∀ d, FnOk P w K mg base CX0 (d + 3) f fd ["feed", "book", "deep"] (spStt d) := by
  intro d
  induction d with
  | zero =>
    refine F.ok scStt (fun vs H Q E h => ?_) (fun cdv A outer s H vs Q E hr h => ?_)
    · obtain ⟨f, c, b, n, B, css, rfl, _⟩ := h
      rfl
    · obtain ⟨f, c, b, n, B, css, rfl, h0, _⟩ := h
      omega
  | succ d ih =>
    refine F.ok scStt (fun vs H Q E h => ?_) (fun cdv A outer s H vs Q E hr h => ?_)
    · obtain ⟨f, c, b, n, B, css, rfl, _⟩ := h
      rfl
    · obtain ⟨f, c, b, n, B, css, rfl, nd, d10, hb, ib, l1, l2, hF, hB, q⟩ := h
      have hr1 : Room 1 _ := hr.mono (by omega)
      have hr2 : Room 2 _ := hr.mono (by omega)
      have hrd : Room (d + 3) _ := hr
      refine ⟨_, (Evl.pss_cut (ps_if (PW.pt (pw_or (pt_cmpR op_eq (pv 2) pe_int (nomark _)) (pw_or1 (pt_cmpR op_eq (pe_call GD hr2 (by rfl) gD FD.kp bD .nil pass0 (pa_cons (pv 0) (pa_cons pe_int pa_nil))) pe_int (nomark _))))) (Evl.pss_cut (ps_set (i := 3) scStt.nd rfl (.inl rfl) (pe_call GD hr2 (by rfl) gD FD.kp bD .nil pass0 (pa_cons (pv 0) (pa_cons (pe_callB call_len_seq (by rfl) T.z_len (by decide +kernel) (pa_cons (pv 1) pa_nil)) pa_nil))))
      (pss_one (ps_ret (pe_tupN (pa_cons (pe_tupN (pa_cons pe_str (pa_cons (pv 3) pa_nil))) (pa_cons (pe_ix ix_tup (pv 1) (pv 3) (fun _ _ => rfl)) pa_nil)))))) pss_nil)
      (Evl.pss_cut (ps_set (i := 4) scStt.nd rfl (.inl rfl) (pe_call ih hrd (by rfl) gS F.kp bS .nil pass0 (pa_cons (pv 0) (pa_cons (pv 1) (pa_cons (pe_op op_sub (pv 2) pe_int) pa_nil)))))
      (Evl.pss_cut (ps_set (i := 5) scStt.nd rfl (.inl rfl) (pe_call ih hrd (by rfl) gS F.kp bS .nil pass0 (pa_cons (pv 0) (pa_cons (pv 1) (pa_cons (pe_op op_sub (pe_op op_sub (pv 2) pe_int) (pe_call GD hr2 (by rfl) gD FD.kp bD .nil pass0 (pa_cons (pv 0) (pa_cons (pv 2) pa_nil)))) pa_nil)))))
      (Evl.pss_cut (ps_set (i := 6) scStt.nd rfl (.inl rfl) (pe_lstN pa_nil))
      (Evl.pss_cut (ps_for PassesOwn.never rfl (pi_tup (pe_tupN (pa_cons (pe_tupN (pa_cons (pv 4) (pa_cons (pv 5) pa_nil))) (pa_cons (pe_tupN (pa_cons (pv 5) (pa_cons (pv 4) pa_nil))) pa_nil)))) (pg_tup rfl (pgs_cons (pg_name (i := 7) scStt.nd rfl (.inl rfl)) (pgs_cons (pg_name (i := 8) scStt.nd rfl (.inl rfl)) pgs_nil))) (pss_one (ps_for PassesOwn.never rfl (pi_range2 (by rfl) T.z_range (pa_cons pe_int (pa_cons pe_int pa_nil))) (pg_name (i := 9) scStt.nd rfl (.inl rfl)) (pss_cons (ps_set (i := 10) scStt.nd rfl (.inl rfl) (pe_call GC hr1 (by rfl) gC FC.kp bC .nil pass0 (pa_cons (pe_ix ix_tup (pv 7) pe_int (fun _ _ => rfl)) (pa_cons (pe_ix ix_tup (pv 8) pe_int (fun _ _ => rfl)) (pa_cons (pv 9) pa_nil)))))
      (pss_one (ps_if (pt_cmpR op_notN (pv 10) pe_non (nomark _)) (pss_one (ps_expr (pe_bm PySem.F.plainAttrs_list PySem.F.slot_list_append PySem.F.type_list_append mt_append (pv 6) (pa_cons (pe_tupN (pa_cons (pe_tupN (pa_cons pe_str (pa_cons (pe_ix ix_tup (pv 7) pe_int (fun _ _ => rfl)) (pa_cons (pe_ix ix_tup (pv 8) pe_int (fun _ _ => rfl)) (pa_cons (pv 9) pa_nil))))) (pa_cons (pv 10) pa_nil))) pa_nil)))) pss_nil))))))
      (pss_cons (ps_if (pt_cmpR (op_eqD hr.units) (pv 6) (pe_lstN pa_nil) (nomark _)) (pss_one (ps_ret (pe_ix ix_list (pe_lstN (pa_cons (pv 4) (pa_cons (pv 5) pa_nil))) (pe_call GD hr2 (by rfl) gD FD.kp bD .nil pass0 (pa_cons (pv 0) (pa_cons pe_int pa_nil))) (fun _ _ => rfl)))) pss_nil)
      (pss_one (ps_ret (pe_ix ix_list (pv 6) (pe_call GD hr2 (by rfl) gD FD.kp bD .nil pass0 (pa_cons (pv 0) (pa_cons (pe_callB call_len_seq (by rfl) T.z_len (by decide +kernel) (pa_cons (pv 6) pa_nil)) pa_nil))) (fun _ _ => rfl)))))))))), ?_⟩
      obtain ⟨ba, bvs, rfl, hbt, aB⟩ := bk_all hb
      have lb := aB.1
      have n10 : n ≤ 9 := by omega
      have p4 := (pow_le (show n + 1 ≤ 10 by omega)).1
      have big : 4 ^ (n + 1) ≤ 1048576 := p4
      refine Evl.q_cut (M := fun σ' H' => σ' = [some (.ref f), some (.ref ba), some (.int (n : Nat)), none, none, none, none, none, none, none, none] ∧ 1 ≤ n ∧ Feed H' f c (B + 1) ∧ Ke (· = f) H H') ?_ ?_
      · have fin : ∀ (H1 : Hp) (B1 : Nat), Feed H1 f c B1 → B1 ≤ B + 1 → B1 + 1 ≤ B + 4 ^ (n + 1) → Ke (· = f) H H1 → Evl.tCut (tAsg (tCall spDrw [] E0 (tCons (tVar 0) (tCons (tCB (fun xs H Q => ∃ p ys, xs = [V.ref p] ∧ (SqL K H p ys ∨ SqT K H p ys) ∧ Q (V.int (ys.length : Nat)) H) (tCons (tVar 1) tNil)) tNil))) (gName 3)) (tRet (nTup (tCons (nTup (tCons (tC (V.str "book")) (tCons (tVar 3) tNil))) (tCons (tOp (rIxT K) (tVar 1) (tVar 3)) tNil)))) { nx := fun σ' H' => σ' = [some (.ref f), some (.ref ba), some (.int (n : Nat)), none, none, none, none, none, none, none, none] ∧ 1 ≤ n ∧ Feed H' f c (B + 1) ∧ Ke (· = f) H H', rt := Q } [some (.ref f), some (.ref ba), some (.int (n : Nat)), none, none, none, none, none, none, none, none] H1 := fun H1 B1 F1 b1 b2 k1 => by
          refine Evl.q_cut (M := fun σ' H' => ∃ m : Nat, σ' = [some (.ref f), some (.ref ba), some (.int (n : Nat)), some (.int (m : Nat)), none, none, none, none, none, none, none] ∧ m < css.length ∧ Feed H' f c (B1 + 1) ∧ Ke (· = f) H H') ?_ ?_
          · refine ⟨_, rfl, _, rfl, ba, _, rfl, .inr (.of (k1.tups _ _ hbt)), f, c, _, _, rfl, by omega, by omega, F1, by omega, fun d H2 d0 d1 F2 b2 => ?_⟩
            refine ⟨d.toNat, ?_, by omega, F2, k1.trans (.but F1 b2)⟩
            rw [Int.toNat_of_nonneg d0]
            rfl
          rintro σ' H2 ⟨m, rfl, lm, F2, k2⟩
          refine ⟨_, rfl, by show 2 ≤ sizeLine; decide, fun p1 H3 np1 s3 hp1 _ => ?_⟩
          have lmb : m < bvs.length := by omega
          obtain ⟨cm, hcm, p, e, hp⟩ := aB.at (List.getElem?_eq_getElem lmb)
          have k3 : Ke (· = f) H H3 := k2.trans (.same s3)
          refine ⟨_, rfl, _, rfl, ba, bvs, _, bvs[m], rfl, rfl, .of (k3.tups _ _ hbt), at_of (j := m) rfl (List.getElem?_eq_getElem lmb), ?_⟩
          refine ⟨by show 2 ≤ sizeLine; decide, fun p2 H4 np2 s4 hp2 _ => ?_⟩
          have k4 : Ke (· = f) H H4 := k3.trans (.same s4)
          refine q (.ref p2) (.leaf m) cm H4 ((F2.same (s3.trans s4)).mono (by omega)) k4 ⟨p2, _, _, rfl, hp2, ⟨p1, rfl, s4 _ _ hp1⟩, ?_⟩ hcm (by show 1 ≤ n + 1; omega) ?_
          · rw [e]
            exact ⟨p, rfl, k4.tups _ _ hp⟩
          · have := (pow_le (show 1 ≤ n + 1 by omega)).2
            show 1 + 1 ≤ _
            omega
        have f4 := (pow_le (show 1 ≤ n + 1 by omega)).1
        refine ⟨_, rfl, rfl, _, rfl, ite2 (fun y => ?_) (fun y => ?_)⟩
        · exact fin H B hF (by omega) (by omega) (.refl _ _)
        · have n1 : 1 ≤ n := by
            by_cases z : n = 0
            · subst z
              exact absurd (decide_eq_true rfl) y
            · omega
          have f5 := (pow_le (show 2 ≤ n + 1 by omega)).1
          refine ⟨_, rfl, f, c, 6, _, rfl, by decide, by decide, hF, by omega, fun d H1 d0 d1 F1 b1 => ⟨rfl, _, rfl, ite2 (fun y => ?_) (fun y => ?_)⟩⟩
          · exact fin H1 (B + 1) F1 (by omega) (by omega) (.but hF b1)
          · exact ⟨rfl, n1, F1, .but hF b1⟩
      rintro σ' H1 ⟨rfl, n1, F1, k1⟩
      obtain ⟨n', rfl⟩ : ∃ n', n = n' + 1 := ⟨n - 1, by omega⟩
      have e4 : 4 ^ (n' + 1 + 1) = 4 * 4 ^ (n' + 1) := by rw [Nat.pow_succ]; omega
      have e2 : 2 ^ (n' + 1 + 1) = 2 * 2 ^ (n' + 1) := by rw [Nat.pow_succ]; omega
      have f4 := (pow_le (show 1 ≤ n' + 1 by omega)).1
      -- one
      refine Evl.q_cut (M := fun σ' H' => ∃ (v1 : V) (t1 : Tr.T) (c1 : List Int), σ' = [some (.ref f), some (.ref ba), some (.int ((n' + 1 : Nat) : Int)), none, some v1, none, none, none, none, none, none] ∧ Feed H' f c (B + 1 + 4 ^ (n' + 1)) ∧ Ke (· = f) H H' ∧ TC H' v1 (t1, c1) ∧ Tr.Cl css t1 c1 ∧ t1.depth ≤ n' + 1 ∧ t1.pieces + 1 ≤ 2 ^ (n' + 1)) ?_ ?_
      · refine ⟨_, rfl, _, rfl, _, rfl, _, _, rfl, rfl, f, c, .ref ba, n', _, css, ?_, by omega, by omega, hb.ke k1, ib, l1, l2, F1, by omega, fun v t ct H2 F2 k2 tc cl dp pc => ?_⟩
        · show [V.ref f, V.ref ba, V.int (((n' + 1 : Nat) : Int) - 1)] = _
          rw [show ((n' + 1 : Nat) : Int) - 1 = (n' : Int) by omega]
        · exact ⟨v, t, ct, rfl, F2, k1.trans k2, tc, cl, dp, pc⟩
      rintro σ' H2 ⟨v1, t1, c1, rfl, F2, k2, tc1, cl1, dp1, pc1⟩
      -- other
      refine Evl.q_cut (M := fun σ' H' => ∃ (v2 : V) (t2 : Tr.T) (c2 : List Int), σ' = [some (.ref f), some (.ref ba), some (.int ((n' + 1 : Nat) : Int)), none, some v1, some v2, none, none, none, none, none] ∧ Feed H' f c (B + 2 + 4 ^ (n' + 1) + 4 ^ (n' + 1)) ∧ Ke (· = f) H H' ∧ TC H' v1 (t1, c1) ∧ TC H' v2 (t2, c2) ∧ Tr.Cl css t2 c2 ∧ t2.depth ≤ n' + 1 ∧ t2.pieces + 1 ≤ 2 ^ (n' + 1)) ?_ ?_
      · refine ⟨_, rfl, _, rfl, _, rfl, _, _, rfl, rfl, _, rfl, _, rfl, f, c, _, _, rfl, by omega, by omega, F2, by omega, fun d H3 d0 d1 F3 b3 => ?_⟩
        have k3 : Ke (· = f) H2 H3 := .but F2 b3
        have k03 := k2.trans k3
        have d1 : d < ((n' + 1 : Nat) : Int) := d1
        have g := pow_le (show n' - d.toNat + 1 ≤ n' + 1 by omega)
        refine ⟨_, _, rfl, rfl, f, c, .ref ba, n' - d.toNat, _, css, ?_, by omega, by omega, hb.ke k03, ib, l1, l2, F3, by omega, fun v t ct H4 F4 k4 tc cl dp pc => ?_⟩
        · show [V.ref f, V.ref ba, V.int (((n' + 1 : Nat) : Int) - 1 - d)] = _
          rw [show ((n' + 1 : Nat) : Int) - 1 - d = ((n' - d.toNat : Nat) : Int) by omega]
        · exact ⟨v, t, ct, rfl, F4.mono (by omega), k03.trans k4, (tc1.ke k3).ke k4, tc, cl, by omega, by omega⟩
      clear tc1
      rintro σ' H3 ⟨v2, t2, c2, rfl, F3, k3, tc1, tc2, cl2, dp2, pc2⟩
      have i1 := cl1.isCl ib
      have i2 := cl2.isCl ib
      have z1 := i1.len
      have z2 := i2.len
      -- made
      refine Evl.q_cut (M := fun σ' H' => ∃ D : Addr, σ' = [some (.ref f), some (.ref ba), some (.int ((n' + 1 : Nat) : Int)), none, some v1, some v2, some (.ref D), none, none, none, none] ∧ H3 D = none ∧ Same H3 H' ∧ H' D = some (.lst [])) ?_ ?_
      · exact ⟨Nat.zero_le _, fun D H4 nD s4 hD _ => ⟨D, rfl, nD, s4, hD⟩⟩
      rintro σ' H4 ⟨D, rfl, nD, s4, hD⟩
      have nDf : D ≠ f := F3.nf nD
      let okM : Tr.T × List Int → Prop := fun m => Tr.Cl css m.1 m.2 ∧ m.1.depth ≤ n' + 2 ∧ m.1.pieces + 1 ≤ 2 ^ (n' + 1 + 1)
      refine Evl.q_cut (M := fun σ' H' => ∃ (y7 y8 y9 y10 : Option V) (vs : List V) (ms : List (Tr.T × List Int)), σ' = [some (.ref f), some (.ref ba), some (.int ((n' + 1 : Nat) : Int)), none, some v1, some v2, some (.ref D), y7, y8, y9, y10] ∧ Ke Nof H3 H' ∧ H' D = some (.lst vs) ∧ All2 (TC H') vs ms ∧ ms.length ≤ 16 ∧ ∀ m ∈ ms, okM m) ?_ ?_
      · refine ⟨_, rfl, _, rfl, by show 2 ≤ sizeLine; decide, fun p1 H5 np1 s5 hp1 _ => ?_⟩
        refine ⟨_, rfl, _, rfl, by show 2 ≤ sizeLine; decide, fun p2 H6 np2 s6 hp2 _ => ?_⟩
        refine ⟨by show 2 ≤ sizeLine; decide, fun p3 H7 np3 s7 hp3 _ => ?_⟩
        have k37 : Ke Nof H3 H7 := .same (s4.trans (s5.trans (s6.trans s7)))
        have hD7 : H7 D = some (.lst []) := s7 _ _ (s6 _ _ (s5 _ _ hD))
        have pair : ∀ (m : Nat) (x : V), [V.ref p1, V.ref p2][m]? = some x → ∃ (p : Addr) (va vb : V) (ta tb : Tr.T) (ca cb : List Int), x = .ref p ∧ H7 p = some (.tup [va, vb]) ∧ TC H7 va (ta, ca) ∧ TC H7 vb (tb, cb) ∧ Tr.Cl css ta ca ∧ Tr.Cl css tb cb ∧ ta.depth ≤ n' + 1 ∧ tb.depth ≤ n' + 1 ∧ ta.pieces + 1 ≤ 2 ^ (n' + 1) ∧ tb.pieces + 1 ≤ 2 ^ (n' + 1) ∧ ca.length ≤ 20 ∧ cb.length ≤ 20 := fun m x hx => by
          have hm := List.mem_of_getElem? hx
          simp only [List.mem_cons, List.not_mem_nil, or_false] at hm
          rcases hm with rfl | rfl
          · exact ⟨p1, v1, v2, t1, t2, c1, c2, rfl, s7 _ _ (s6 _ _ hp1), tc1.ke k37, tc2.ke k37, cl1, cl2, dp1, dp2, pc1, pc2, by omega, by omega⟩
          · exact ⟨p2, v2, v1, t2, t1, c2, c1, rfl, s7 _ _ hp2, tc2.ke k37, tc1.ke k37, cl2, cl1, dp2, dp1, pc2, pc1, by omega, by omega⟩
        refine ⟨p3, rfl, ⟨_, .of hp3⟩, for_tup (K := K) (a := p3) (xs := [V.ref p1, V.ref p2]) (Pv := fun m σ H' => ∃ (y7 y8 y9 y10 : Option V) (vs : List V) (ms : List (Tr.T × List Int)), σ = [some (.ref f), some (.ref ba), some (.int ((n' + 1 : Nat) : Int)), none, some v1, some v2, some (.ref D), y7, y8, y9, y10] ∧ Ke (· = D) H7 H' ∧ H' D = some (.lst vs) ∧ All2 (TC H') vs ms ∧ ms.length ≤ 8 * m ∧ ∀ m ∈ ms, okM m) ?_ (fun m σ H' _ z => ?_) ?_ ?_⟩
        · exact ⟨none, none, none, none, [], [], rfl, .refl _ _, hD7, .nil, Nat.le_refl _, fun m h => nomatch h⟩
        · obtain ⟨_, _, _, _, _, _, _, kt, _⟩ := z
          exact .of (kt.tups _ _ hp3)
        · rintro m x σ J1 hx ⟨y7, y8, y9, y10, vs, ms, rfl, kt, hDj, am, lm, okm⟩
          have m2 : m < 2 := (List.getElem?_eq_some_iff.mp hx).1
          obtain ⟨p, va, vb, ta, tb, ca, cb, rfl, hp, tca, tcb, cla, clb, da, db, pa', pb', la, lb'⟩ := pair m x hx
          refine ⟨p, _, rfl, .of (kt.tups _ _ hp), rfl, _, _, rfl, _, _, rfl, rfl, ?_⟩
          refine ⟨1, 9, rfl, ⟨by decide, by decide, by decide, by decide⟩, for_range (Pv := fun k σ H' => ∃ (y9 y10 : Option V) (vs : List V) (ms : List (Tr.T × List Int)), σ = [some (.ref f), some (.ref ba), some (.int ((n' + 1 : Nat) : Int)), none, some v1, some v2, some (.ref D), some va, some vb, y9, y10] ∧ Ke (· = D) H7 H' ∧ H' D = some (.lst vs) ∧ All2 (TC H') vs ms ∧ ms.length ≤ 8 * m + k ∧ ∀ m ∈ ms, okM m) ?_ ?_ ?_⟩
          · exact ⟨y9, y10, vs, ms, rfl, kt, hDj, am, by omega, okm⟩
          · clear hDj am lm okm kt
            clear y9 y10 vs ms
            rintro k σ J2 hk ⟨y9, y10, vs, ms, rfl, kt, hDj, am, lm, okm⟩
            have hk : k < 8 := hk
            obtain ⟨pa1, xa, ya, rfl, hpa, hxa, hya⟩ := tca.ke kt
            obtain ⟨pb1, xb, yb, rfl, hpb, hxb, hyb⟩ := tcb.ke kt
            have hxa : At J2 ta xa := hxa
            have hxb : At J2 tb xb := hxb
            have hya : TupI J2 ya ca := hya
            have hyb : TupI J2 yb cb := hyb
            have lv := am.1
            refine ⟨_, rfl, pa1, _, 1, ya, rfl, rfl, .of hpa, rfl, _, rfl, pb1, _, 1, yb, rfl, rfl, .of hpb, rfl, _, rfl, ya, yb, _, ca, cb, rfl, hya, hyb, la, lb', fun J3 s3 no => ?_, fun ns pn J3 s3 a1 a2 a3 a4 up me hpn => ?_⟩
            · refine ⟨_, rfl, rfl, false, rfl, ?_⟩
              have k3 : Ke (· = D) J2 J3 := .same s3
              exact ⟨_, _, vs, ms, rfl, kt.trans k3, s3 _ _ hDj, am.imp fun _ _ h => h.ke k3, by omega, okm⟩
            · refine ⟨_, rfl, rfl, true, rfl, ?_⟩
              have hDj3 := s3 _ _ hDj
              refine ⟨_, rfl, .inl ⟨rfl, _, .of hDj3⟩, _, rfl, pa1, _, 0, xa, rfl, rfl, .of (s3 _ _ hpa), rfl, _, rfl, pb1, _, 0, xb, rfl, rfl, .of (s3 _ _ hpb), rfl, _, rfl, by show 4 ≤ sizeLine; decide, fun q1 J4 nq1 s4' hq1 _ => ?_⟩
              refine ⟨_, rfl, by show 2 ≤ sizeLine; decide, fun q2 J5 nq2 s5' hq2 _ => ?_⟩
              have s25 := s3.trans (s4'.trans s5')
              have k25 : Ke (· = D) J2 J5 := .same s25
              have hDj5 := s25 _ _ hDj
              refine ⟨D, _, _, rfl, rfl, hDj5, small1000 (by omega), ?_⟩
              have tcn : TC J5 (.ref q2) (.cut ta tb (1 + (k : Int)), ns) := ⟨q2, _, _, rfl, hq2, ⟨q1, xa, xb, rfl, s5' _ _ hq1, hxa.ke k25, hxb.ke k25⟩, ⟨pn, rfl, (s4'.trans s5') _ _ hpn⟩⟩
              refine ⟨_, _, _, ms ++ [(.cut ta tb (1 + (k : Int)), ns)], rfl, keD (kt.trans k25) hDj5, upd_same, (am.imp fun _ _ h => (h.ke k25).wr hDj5).snoc (tcn.wr hDj5), by rw [List.length_append]; show ms.length + 1 ≤ _; omega, fun m' hm' => ?_⟩
              rcases List.mem_append.mp hm' with z | z
              · exact okm m' z
              · rw [List.mem_singleton.mp z]
                exact ⟨⟨ca, cb, cla, clb, a1, a2, a3, a4, up, me⟩, by show 1 + max ta.depth tb.depth ≤ n' + 2; omega, by show 1 + ta.pieces + tb.pieces + 1 ≤ _; omega⟩
          · rintro σ J2 ⟨z9, z10, vs', ms', rfl, kt', hD', am', lm', ok'⟩
            exact ⟨_, _, _, _, vs', ms', rfl, kt', hD', am', by have : ms'.length ≤ 8 * m + 8 := lm'; omega, ok'⟩
        · rintro σ J1 ⟨y7, y8, y9, y10, vs, ms, rfl, kt, hDj, am, lm, okm⟩
          exact ⟨y7, y8, y9, y10, vs, ms, rfl, keH k37 kt nD, hDj, am, by have : ms.length ≤ 8 * 2 := lm; omega, okm⟩
      rintro σ' H5 ⟨y7, y8, y9, y10, vs, ms, rfl, k5, hD5, am, lm, okm⟩
      have F5 := k5.feed F3
      have k05 := k3.trans k5.all
      refine ⟨_, rfl, Nat.zero_le _, fun p H6 np s6 hp _ => ?_⟩
      have k6 : Ke Nof H3 H6 := k5.trans (.same s6)
      have k06 : Ke (· = f) H H6 := k3.trans k6.all
      have F6 := k6.feed F3
      have hD6 := s6 _ _ hD5
      have am6 : All2 (TC H6) vs ms := am.imp fun _ _ h => h.ke (Ke.same (F := Nof) s6)
      have dpm : ∀ m ∈ ms, m.1.depth ≤ 45 := fun m hm => by
        have := (okm m hm).2.1
        omega
      match ms, vs, am6, hD6, okm, lm, dpm with
      | [], [], _, hD6, _, _, _ =>
        refine ⟨_, _, .lst (.of hD6) .nil, .lst (.of hp) .nil, rfl, rfl, true, rfl, ?_⟩
        refine ⟨_, rfl, _, rfl, by show 2 ≤ sizeLine; decide, fun p2 H7 np2 s7 hp2 _ => ?_⟩
        refine ⟨_, rfl, f, c, 2, _, rfl, by decide, by decide, F6.same s7, by omega, fun d H8 d0 d1 F8 b8 => ?_⟩
        have k8 : Ke (· = f) H6 H8 := (Ke.same s7).trans (.but (F6.same s7) b8)
        have hp8 : H8 p2 = some (.lst [v1, v2]) := (b8 p2 (F6.nf np2)).trans hp2
        have k08 := k06.trans k8
        have k38 : Ke (· = f) H3 H8 := k6.all.trans k8
        have two : d = 0 ∨ d = 1 := by omega
        rcases two with rfl | rfl
        · refine ⟨p2, _, 0, v1, rfl, rfl, .of hp8, rfl, ?_⟩
          exact q v1 t1 c1 H8 (F8.mono (by omega)) k08 (tc1.ke k38) cl1 (by omega) (by omega)
        · refine ⟨p2, _, 1, v2, rfl, rfl, .of hp8, rfl, ?_⟩
          exact q v2 t2 c2 H8 (F8.mono (by omega)) k08 (tc2.ke k38) cl2 (by omega) (by omega)
      | [], _ :: _, am6, _, _, _, _ => cases am6.1
      | _ :: _, [], am6, _, _, _, _ => cases am6.1
      | m0 :: mt, w0 :: wt, am6, hD6, okm, lm, dpm =>
        refine ⟨_, _, .lst (.of hD6) (dp_tcs am6), .lst (.of hp) .nil, shaped_tcs dpm, rfl, false, rfl, ?_⟩
        have lw := am6.1
        refine ⟨_, rfl, _, rfl, _, rfl, D, _, rfl, .inl (.of hD6), f, c, _, _, rfl, by rw [lw, List.length_cons]; omega, by rw [lw]; omega, F6, by omega, fun d H8 d0 d1 F8 b8 => ?_⟩
        have k8 : Ke (· = f) H6 H8 := .but F6 b8
        have dl : d.toNat < (w0 :: wt).length := by omega
        obtain ⟨⟨tm, cm⟩, hm', tcm⟩ := am6.at (List.getElem?_eq_getElem dl)
        obtain ⟨o1, o2, o3⟩ := okm _ (List.mem_of_getElem? hm')
        refine ⟨D, _, d, _, rfl, rfl, .of ((b8 D nDf).trans hD6), at_of (j := d.toNat) (by omega) (List.getElem?_eq_getElem dl), ?_⟩
        exact q _ tm cm H8 (F8.mono (by omega)) (k06.trans k8) (tcm.ke k8) o1 o2 o3
abbrev sSpc : Stmt := topS 28
theorem scSpc : FnScope ["tree"] ["tree"] (defScope sSpc) := ⟨rfl, rfl, rfl, by decide +kernel, rfl, by decide +kernel, by decide +kernel⟩
def spSpc (d : Nat) : Sp := fun vs H Q _ => ∃ (v : V) (t : Tr.T), vs = [v] ∧ At H t v ∧ t.depth ≤ d ∧ t.pieces ≤ 1000 ∧ ∀ p vs H', H p = none → Same H H' → H' p = some (.lst vs) → All2 (fun v s => At H' s v) vs t.all → Q (.ref p) H'
theorem ok_spc {f : Addr} {fd : FuncData} (F : Fun K "_law_spieces" "_law_spieces" sSpc f fd) (bS : Binds K fd ["tree"] []) (gS : mg "_law_spieces" = some (.ref f)) : ∀ d, FnOk P w K mg base CX0 (d + 1) f fd ["tree"] (spSpc d) := by
  intro d
  induction d with
  | zero =>
    refine F.ok scSpc (fun vs H Q E h => ?_) (fun cdv A outer s H vs Q E hr h => ?_)
    · obtain ⟨v, t, rfl, _⟩ := h
      rfl
    · obtain ⟨v, t, rfl, _, h0, _⟩ := h
      have := t.pos
      omega
  | succ d ih =>
    refine F.ok scSpc (fun vs H Q E h => ?_) (fun cdv A outer s H vs Q E hr h => ?_)
    · obtain ⟨v, t, rfl, _⟩ := h
      rfl
    · obtain ⟨v, t, rfl, ht, hd, hp, q⟩ := h
      have hrd : Room (d + 1) _ := hr
      refine ⟨_, (pss_cons (ps_if (pt_cmpR op_eq (pe_ix ix_tup (pv 0) pe_int (fun _ _ => rfl)) pe_str (nomark _)) (pss_one (ps_ret (pe_lstN (pa_cons (pv 0) pa_nil)))) pss_nil)
      (pss_one (ps_ret (pe_op op_catN (pe_op op_catN (pe_call ih hrd (by rfl) gS F.kp bS .nil pass0 (pa_cons (pe_ix ix_tup (pv 0) pe_int (fun _ _ => rfl)) pa_nil)) (pe_call ih hrd (by rfl) gS F.kp bS .nil pass0 (pa_cons (pe_ix ix_tup (pv 0) pe_int (fun _ _ => rfl)) pa_nil))) (pe_lstN (pa_cons (pv 0) pa_nil)))))), ?_⟩
      cases t with
      | leaf n =>
        obtain ⟨a, rfl, ha⟩ := id ht
        refine ⟨_, rfl, a, _, 0, .str "book", rfl, rfl, .of ha, rfl, rfl, true, by simp, ?_⟩
        refine ⟨_, rfl, by show 1 ≤ sizeLine; decide, fun p H1 np s1 hp1 _ => ?_⟩
        exact q p _ H1 np s1 hp1 (All2.nil.snoc (At.ke (Ke.same (F := Nof) s1) ht))
      | cut tl tr k0 =>
        obtain ⟨a, x, y, rfl, ha, h1, h2⟩ := id ht
        have dp : (Tr.T.cut tl tr k0).depth = 1 + max tl.depth tr.depth := rfl
        have pp : (Tr.T.cut tl tr k0).pieces = 1 + tl.pieces + tr.pieces := rfl
        refine ⟨_, rfl, a, _, 0, .str "cut", rfl, rfl, .of ha, rfl, rfl, false, by simp; decide, ?_⟩
        refine ⟨_, rfl, a, _, 1, x, rfl, rfl, .of ha, rfl, x, tl, rfl, h1, by omega, by omega, fun p1 vs1 H1 np1 s1 hp1 a1 => ?_⟩
        refine ⟨_, rfl, a, _, 2, y, rfl, rfl, .of (s1 _ _ ha), rfl, y, tr, rfl, h2.ke (Ke.same (F := Nof) s1), by omega, by omega, fun p2 vs2 H2 np2 s2 hp2 a2 => ?_⟩
        have l1 := a1.1
        have l2 := a2.1
        rw [T.all_len] at l1 l2
        refine ⟨p1, p2, _, _, rfl, rfl, s2 _ _ hp1, hp2, Nat.le_trans (by omega : _ ≤ 1000) (by decide), fun p3 H3 np3 s3 hp3 _ => ?_⟩
        refine ⟨_, rfl, by show 1 ≤ sizeLine; decide, fun p4 H4 np4 s4 hp4 _ => ?_⟩
        refine ⟨p3, p4, _, _, rfl, rfl, s4 _ _ hp3, hp4, ?_, fun p5 H5 np5 s5 hp5 _ => ?_⟩
        · rw [List.length_append]
          show vs1.length + vs2.length + 1 ≤ sizeLine
          exact Nat.le_trans (by omega : _ ≤ 1000) (by decide)
        have s25 := s3.trans (s4.trans s5)
        have s15 := s2.trans s25
        have s05 := s1.trans s15
        refine q p5 _ H5 (s1.free (s2.free ((s3.trans s4).free np5))) s05 hp5 ?_
        exact ((a1.imp fun _ _ h => At.ke (Ke.same (F := Nof) s15) h).cat (a2.imp fun _ _ h => At.ke (Ke.same (F := Nof) s25) h)).snoc (At.ke (Ke.same (F := Nof) s05) ht)
abbrev sStc : Stmt := topS 29
abbrev nStc : List Str := ["book", "tree", "one", "other"]
theorem scStc : FnScope nStc ["book", "tree"] (defScope sStc) := ⟨rfl, rfl, rfl, by decide +kernel, rfl, by decide +kernel, by decide +kernel⟩
def spStc (d : Nat) : Sp := fun vs H Q _ => ∃ (b v : V) (css : List (List Int)) (t : Tr.T) (c : List Int), vs = [b, v] ∧ Bk H b css ∧ (∀ c ∈ css, IsCl c) ∧ At H t v ∧ t.depth ≤ d ∧ Tr.Cl css t c ∧ ∀ p H', Same H H' → H' p = some (.tup (c.map V.int)) → Q (.ref p) H'
theorem ok_stc {f fC : Addr} {fd fdC : FuncData} (F : Fun K "_law_stree_claim" "_law_stree_claim" sStc f fd) (bS : Binds K fd ["book", "tree"] []) (gS : mg "_law_stree_claim" = some (.ref f)) (FC : Fun K "_law_scut" "_law_scut" sSct fC fdC) (bC : Binds K fdC ["one", "other", "k"] []) (gC : mg "_law_scut" = some (.ref fC)) (GC : FnOk P w K mg base CX0 1 fC fdC ["one", "other", "k"] spSct) :
    ∀ d, FnOk P w K mg base CX0 (d + 2) f fd ["book", "tree"] (spStc d) := by
  intro d
  induction d with
  | zero =>
    refine F.ok scStc (fun vs H Q E h => ?_) (fun cdv A outer s H vs Q E hr h => ?_)
    · obtain ⟨b, v, css, t, c, rfl, _⟩ := h
      rfl
    · obtain ⟨b, v, css, t, c, rfl, _, _, _, h0, _⟩ := h
      have := t.pos
      omega
  | succ d ih =>
    refine F.ok scStc (fun vs H Q E h => ?_) (fun cdv A outer s H vs Q E hr h => ?_)
    · obtain ⟨b, v, css, t, c, rfl, _⟩ := h
      rfl
    · obtain ⟨b, v, css, t, c, rfl, hb, ib, ht, hd, hc, q⟩ := h
      have hr1 : Room 1 _ := hr.mono (by omega)
      have hrd : Room (d + 2) _ := hr
      refine ⟨_, (pss_cons (ps_if (pt_cmpR op_eq (pe_ix ix_tup (pv 1) pe_int (fun _ _ => rfl)) pe_str (nomark _)) (pss_one (ps_ret (pe_ix ix_tup (pv 0) (pe_ix ix_tup (pv 1) pe_int (fun _ _ => rfl)) (fun _ _ => rfl)))) pss_nil)
      (Evl.pss_cut (ps_set (i := 2) scStc.nd rfl (.inl rfl) (pe_call ih hrd (by rfl) gS F.kp bS .nil pass0 (pa_cons (pv 0) (pa_cons (pe_ix ix_tup (pv 1) pe_int (fun _ _ => rfl)) pa_nil))))
      (Evl.pss_cut (ps_set (i := 3) scStc.nd rfl (.inl rfl) (pe_call ih hrd (by rfl) gS F.kp bS .nil pass0 (pa_cons (pv 0) (pa_cons (pe_ix ix_tup (pv 1) pe_int (fun _ _ => rfl)) pa_nil))))
      (pss_cons (ps_if (PW.pt (pw_or (pt_cmpR op_isN (pv 2) pe_non (nomark _)) (pw_or1 (pt_cmpR op_isN (pv 3) pe_non (nomark _))))) pss_never pss_nil)
      (pss_one (ps_ret (pe_call GC hr1 (by rfl) gC FC.kp bC .nil pass0 (pa_cons (pv 2) (pa_cons (pv 3) (pa_cons (pe_ix ix_tup (pv 1) pe_int (fun _ _ => rfl)) pa_nil)))))))))), ?_⟩
      obtain ⟨ba, bvs, rfl, hbt, aB⟩ := bk_all hb
      cases t with
      | leaf n =>
        obtain ⟨a, rfl, ha⟩ := id ht
        obtain ⟨x, hx, p, rfl, hp⟩ := aB.atR hc
        refine ⟨_, rfl, a, _, 0, .str "book", rfl, rfl, .of ha, rfl, rfl, true, by simp, ?_⟩
        refine ⟨_, rfl, _, rfl, a, _, 1, .int (n : Nat), rfl, rfl, .of ha, rfl, ba, bvs, _, .ref p, rfl, rfl, .of hbt, at_of (j := n) rfl hx, ?_⟩
        exact q p H (Same.refl _) hp
      | cut tl tr k0 =>
        obtain ⟨a, x, y, rfl, ha, h1, h2⟩ := id ht
        obtain ⟨cx, cy, hx, hy, cm⟩ := hc
        have dp : (Tr.T.cut tl tr k0).depth = 1 + max tl.depth tr.depth := rfl
        have lx := (hx.isCl ib).len
        have ly := (hy.isCl ib).len
        refine ⟨_, rfl, a, _, 0, .str "cut", rfl, rfl, .of ha, rfl, rfl, false, by simp; decide, ?_⟩
        refine Evl.q_cut (M := fun σ' H' => ∃ p1 : Addr, σ' = [some (.ref ba), some (.ref a), some (.ref p1), none] ∧ Same H H' ∧ H' p1 = some (.tup (cx.map V.int))) ?_ ?_
        · exact ⟨_, rfl, _, rfl, a, _, 1, x, rfl, rfl, .of ha, rfl, .ref ba, x, css, tl, cx, rfl, hb, ib, h1, by omega, hx, fun p H1 s1 hp => ⟨p, rfl, s1, hp⟩⟩
        rintro σ' H1 ⟨p1, rfl, s1, hp1⟩
        have k1 : Ke Nof H H1 := .same s1
        refine Evl.q_cut (M := fun σ' H' => ∃ p2 : Addr, σ' = [some (.ref ba), some (.ref a), some (.ref p1), some (.ref p2)] ∧ Same H H' ∧ H' p1 = some (.tup (cx.map V.int)) ∧ H' p2 = some (.tup (cy.map V.int))) ?_ ?_
        · exact ⟨_, rfl, _, rfl, a, _, 2, y, rfl, rfl, .of (s1 _ _ ha), rfl, .ref ba, y, css, tr, cy, rfl, hb.ke k1, ib, h2.ke k1, by omega, hy, fun p H2 s2 hp => ⟨p, rfl, s1.trans s2, s2 _ _ hp1, hp⟩⟩
        clear hp1
        rintro σ' H2 ⟨p2, rfl, s2, hp1, hp2⟩
        refine ⟨_, rfl, rfl, false, rfl, ?_⟩
        refine ⟨_, rfl, rfl, false, rfl, ?_⟩
        refine ⟨_, rfl, _, rfl, _, rfl, a, _, 3, .int k0, rfl, rfl, .of (s2 _ _ ha), rfl, .ref p1, .ref p2, k0, cx, cy, rfl, ⟨p1, rfl, hp1⟩, ⟨p2, rfl, hp2⟩, by omega, by omega, fun H3 s3 no => ?_, fun ns p H3 s3 a1 a2 a3 a4 up me hp => ?_⟩
        · exact (cm.no no).elim
        · obtain rfl := cm.one ⟨a1, a2, a3, a4, up, me⟩
          exact q p H3 (s2.trans s3) hp
end
end Tl
namespace Ta
open PySem PySem.Spec PyProof.Rows L2 GxR Nw Dr Kp Se Ct Lr Lp Od Og
open Tr (At)
/-! ### what the law tells is due (k20) -/
section
variable {P : Program} {w : World} {K : PySem.W.Frag} {mg : Str → Option Value} {base : Heap}
abbrev sDue : Stmt := topS 33
theorem scDue : FnScope ["book", "thing"] ["book", "thing"] (defScope sDue) := ⟨rfl, rfl, rfl, by decide +kernel, rfl, by decide +kernel, by decide +kernel⟩
def spDue : Sp := fun vs H Q _ => ∃ (f0 : Addr → Prop) (b v : V) (css : List (List Int)) (d : PyData), vs = [b, v] ∧ Bk H b css ∧ (∀ c ∈ css, IsCl c) ∧ OdV f0 H v d ∧ SeqAt.shaped d = true ∧ (∀ t, d = datT t → t.pieces ≤ 1000) ∧ ∀ x H', Same H H' → (x = true ↔ IsTree css d) → Q (.bl x) H'
theorem ok_due {f fI fP fC : Addr} {fd fdI fdP fdC : FuncData} {k : Nat} (F : Fun K "_law_s_due" "_law_s_due" sDue f fd) (T : Zs mg)
    (FI : Fun K "_law_sis_tree" "_law_sis_tree" sSit fI fdI) (bI : Binds K fdI ["book", "thing", "left"] []) (gI : mg "_law_sis_tree" = some (.ref fI)) (GI : FnOk P w K mg base CX0 42 fI fdI ["book", "thing", "left"] (spSit 40))
    (FP : Fun K "_law_spieces" "_law_spieces" Tl.sSpc fP fdP) (bP : Binds K fdP ["tree"] []) (gP : mg "_law_spieces" = some (.ref fP)) (GP : FnOk P w K mg base CX0 41 fP fdP ["tree"] (Tl.spSpc 40))
    (FC : Fun K "_law_stree_claim" "_law_stree_claim" sStc fC fdC) (bC : Binds K fdC ["book", "tree"] []) (gC : mg "_law_stree_claim" = some (.ref fC)) (GC : FnOk P w K mg base CX0 42 fC fdC ["book", "tree"] (spStG 40)) :
    FnOk P w K mg base CX0 (k + 43) f fd ["book", "thing"] spDue := by
  refine F.ok scDue (fun vs H Q E h => ?_) (fun cdv A outer s H vs Q E hr h => ?_)
  · obtain ⟨f0, b, v, css, d, rfl, _⟩ := h
    rfl
  · obtain ⟨f0, b, v, css, d, rfl, hb, ib, hv, sh, pc, q⟩ := h
    have hr41 : Room 41 _ := hr.mono (by omega)
    have hr42 : Room 42 _ := hr.mono (by omega)
    refine ⟨_, (Evl.pss_cut (ps_if (PW.pt (pw_or (pt_not (pt_val (pe_call GI hr42 (by rfl) gI FI.kp bI .nil pass0 (pa_cons (pv 0) (pa_cons (pv 1) (pa_cons pe_int pa_nil)))))) (pw_or1 (pt_cmpR op_gt (pe_callB call_len_seq (by rfl) T.z_len (by decide +kernel) (pa_cons (pe_call GP hr41 (by rfl) gP FP.kp bP .nil pass0 (pa_cons (pv 1) pa_nil)) pa_nil)) pe_int (nomark _))))) (pss_one (ps_ret pe_bl)) pss_nil)
      (pss_one (ps_ret (pe_cmpR op_notN (pe_call GC hr42 (by rfl) gC FC.kp bC .nil pass0 (pa_cons (pv 0) (pa_cons (pv 1) pa_nil))) pe_non (nomark _))))), ?_⟩
    obtain ⟨ba, bvs, rfl, hbt, lb, aB⟩ := id hb
    refine Evl.q_cut (M := fun σ' G => σ' = [some (.ref ba), some v] ∧ Same H G ∧ ∃ t, d = datT t ∧ Lf css.length t ∧ t.depth ≤ 40 ∧ t.pieces ≤ 360) ?_ ?_
    · refine ⟨_, rfl, _, rfl, f0, ba, bvs, v, d, rfl, hbt, hv, sh, fun x H1 s1 hx => ⟨x, rfl, ?_⟩⟩
      rw [lb] at hx
      cases x with
      | false => exact q false H1 s1 ⟨(fun z => nomatch z), fun h => hx.mpr (due_iff.mp h).1⟩
      | true =>
        obtain ⟨t, rfl, dp, lf⟩ := (hx.mp rfl).tree
        have ht : At H1 t v := at_of_od (hv.ke (.same s1))
        refine ⟨_, rfl, v, t, rfl, ht, dp, pc t rfl, fun p vs H2 np s2 hp al => ?_⟩
        have lal : vs.length = t.pieces := by rw [al.1, Tr.T.all_len]
        by_cases g : t.pieces > 360
        · refine ⟨p, _, rfl, .inl (.of hp), _, _, rfl, rfl, true, bl_t' (decide_eq_true (show ((vs.length : Nat) : Int) > 360 by omega)), ?_⟩
          exact q false H2 (s1.trans s2) ⟨(fun z => nomatch z), fun h => by
            have := ((due_iff.mp h).2 t rfl).1
            omega⟩
        · exact ⟨p, _, rfl, .inl (.of hp), _, _, rfl, rfl, false, bl_f' (decide_eq_false (show ¬ ((vs.length : Nat) : Int) > 360 by omega)), rfl, s1.trans s2, t, rfl, lf, dp, by omega⟩
    rintro σ' H1 ⟨rfl, s1, t, rfl, lf, dp, p360⟩
    have ht : At H1 t v := at_of_od (hv.ke (.same s1))
    refine ⟨_, rfl, _, rfl, .ref ba, v, css, t, rfl, hb.ke (.same s1) (F := Nof), ib, ht, dp, lf, fun H2 s2 no => ⟨rfl, ?_⟩, fun c p H2 s2 cl hp => ⟨rfl, ?_⟩⟩
    · exact q false H2 (s1.trans s2) ⟨(fun z => nomatch z), fun h => by
        obtain ⟨c, hc⟩ := ((due_iff.mp h).2 t rfl).2
        exact (no c hc).elim⟩
    · exact q true H2 (s1.trans s2) ⟨fun _ => isTree_iff.mpr ⟨t, rfl, lf, dp, p360, c, cl⟩, fun _ => rfl⟩
end
end Ta
namespace Ta
open PySem PySem.Spec PyProof.Rows L2 GxR Nw Dr Kp Se Ct Lr Lp Od Og
open Tr (T At)
/-! ### a tree with the parts of each cut exchanged (k20) -/
def turn : T → T
  | .leaf n => .leaf n
  | .cut t u k => .cut (turn u) (turn t) k
theorem turn_depth : ∀ t : T, (turn t).depth = t.depth
  | .leaf _ => rfl
  | .cut t u _ => by
    show 1 + max (turn u).depth (turn t).depth = 1 + max t.depth u.depth
    rw [turn_depth t, turn_depth u, Nat.max_comm]
theorem turn_pieces : ∀ t : T, (turn t).pieces = t.pieces
  | .leaf _ => rfl
  | .cut t u _ => by
    show 1 + (turn u).pieces + (turn t).pieces = 1 + t.pieces + u.pieces
    rw [turn_pieces t, turn_pieces u]
    omega
theorem turn_lf {m : Nat} : ∀ {t : T}, Lf m t → Lf m (turn t)
  | .leaf _, h => h
  | .cut _ _ _, h => ⟨turn_lf h.2, turn_lf h.1⟩
section
variable {P : Program} {w : World} {K : PySem.W.Frag} {mg : Str → Option Value} {base : Heap}
abbrev sTrn : Stmt := topS 35
theorem scTrn : FnScope ["tree"] ["tree"] (defScope sTrn) := ⟨rfl, rfl, rfl, by decide +kernel, rfl, by decide +kernel, by decide +kernel⟩
def spTrn (d : Nat) : Sp := fun vs H Q _ => ∃ (v : V) (t : T), vs = [v] ∧ At H t v ∧ t.depth ≤ d ∧ ∀ u H', Same H H' → At H' (turn t) u → Q u H'
theorem ok_trn {f : Addr} {fd : FuncData} (F : Fun K "_law_s_turned" "_law_s_turned" sTrn f fd) (bS : Binds K fd ["tree"] []) (gS : mg "_law_s_turned" = some (.ref f)) :
    ∀ d, FnOk P w K mg base CX0 (d + 1) f fd ["tree"] (spTrn d) := by
  intro d
  induction d with
  | zero =>
    refine F.ok scTrn (fun vs H Q E h => ?_) (fun cdv A outer s H vs Q E hr h => ?_)
    · obtain ⟨v, t, rfl, _⟩ := h
      rfl
    · obtain ⟨v, t, rfl, _, h0, _⟩ := h
      have := t.pos
      omega
  | succ d ih =>
    refine F.ok scTrn (fun vs H Q E h => ?_) (fun cdv A outer s H vs Q E hr h => ?_)
    · obtain ⟨v, t, rfl, _⟩ := h
      rfl
    · obtain ⟨v, t, rfl, ht, hd, q⟩ := h
      have hrd : Room (d + 1) _ := hr
      refine ⟨_, (pss_cons (ps_if (pt_cmpR op_eq (pe_ix ix_tup (pv 0) pe_int (fun _ _ => rfl)) pe_str (nomark _)) (pss_one (ps_ret (pv 0))) pss_nil)
      (pss_one (ps_ret (pe_tupN (pa_cons pe_str (pa_cons (pe_call ih hrd (by rfl) gS F.kp bS .nil pass0 (pa_cons (pe_ix ix_tup (pv 0) pe_int (fun _ _ => rfl)) pa_nil)) (pa_cons (pe_call ih hrd (by rfl) gS F.kp bS .nil pass0 (pa_cons (pe_ix ix_tup (pv 0) pe_int (fun _ _ => rfl)) pa_nil)) (pa_cons (pe_ix ix_tup (pv 0) pe_int (fun _ _ => rfl)) pa_nil)))))))), ?_⟩
      cases t with
      | leaf n =>
        obtain ⟨a, rfl, ha⟩ := id ht
        refine ⟨_, rfl, a, _, 0, .str "book", rfl, rfl, .of ha, rfl, rfl, true, by simp, ?_⟩
        exact ⟨_, rfl, q _ H (Same.refl _) ht⟩
      | cut tl tr k0 =>
        obtain ⟨a, x, y, rfl, ha, h1, h2⟩ := id ht
        have dp : (Tr.T.cut tl tr k0).depth = 1 + max tl.depth tr.depth := rfl
        refine ⟨_, rfl, a, _, 0, .str "cut", rfl, rfl, .of ha, rfl, rfl, false, by simp; decide, ?_⟩
        refine ⟨_, rfl, a, _, 2, y, rfl, rfl, .of ha, rfl, y, tr, rfl, h2, by omega, fun u1 H1 s1 t1 => ?_⟩
        refine ⟨_, rfl, a, _, 1, x, rfl, rfl, .of (s1 _ _ ha), rfl, x, tl, rfl, At.ke (Ke.same (F := Nof) s1) h1, by omega, fun u2 H2 s2 t2 => ?_⟩
        have s12 := s1.trans s2
        refine ⟨_, rfl, a, _, 3, .int k0, rfl, rfl, .of (s12 _ _ ha), rfl, by show 4 ≤ sizeLine; decide, fun p H3 np s3 hp _ => ?_⟩
        exact q (.ref p) H3 (s12.trans s3) ⟨p, u1, u2, rfl, hp, At.ke (Ke.same (F := Nof) (s2.trans s3)) t1, At.ke (Ke.same (F := Nof) s3) t2⟩
end
end Ta
namespace Ta
open PySem PySem.Spec PyProof.Rows L2 GxR Nw Dr Kp Se Ct Lr Lp Od Og
open Tr (T At)
/-! ### deep trees (k20) -/
def partT (side : Nat) : T := .leaf (1 + side)
def stepT : Nat → T → T
  | 0, t => t
  | n + 1, t => .cut (stepT n t) (.leaf (5 + n)) (3 + n)
def longT (side : Nat) : T := .cut (stepT 4 (.leaf (3 + side))) (.leaf (9 + side)) 7
def great (many long : Nat) : Nat → T
  | 0 => .leaf 0
  | k + 1 => .cut (great many long k) (if many ≤ k + long then longT (k % 2) else partT (k % 2)) (1 + (k % 2 : Nat))
section
variable {P : Program} {w : World} {K : PySem.W.Frag} {mg : Str → Option Value} {base : Heap}
structure Zg (mg : Str → Option Value) : Prop where
  z_range : mg "range" = none
abbrev sGrt : Stmt := topS 34
theorem scGrt : FnScope ["many", "long", "tree", "k", "side", "part", "step"] ["many", "long"] (defScope sGrt) := ⟨rfl, rfl, rfl, by decide +kernel, rfl, by decide +kernel, by decide +kernel⟩
def spGrt : Sp := fun vs H Q _ => ∃ many long : Nat, vs = [.int (many : Nat), .int (long : Nat)] ∧ many ≤ 60 ∧ long ≤ 60 ∧ ∀ u H', Same H H' → At H' (great many long many) u → Q u H'
theorem ok_grt {f : Addr} {fd : FuncData} {k : Nat} (F : Fun K "_law_s_great" "_law_s_great" sGrt f fd) (T : Zg mg) : FnOk P w K mg base CX0 (k + 1) f fd ["many", "long"] spGrt := by
  refine F.ok scGrt (fun vs H Q E h => ?_) (fun cdv A outer s H vs Q E hr h => ?_)
  · obtain ⟨m, l, rfl, _⟩ := h
    rfl
  · obtain ⟨m, l, rfl, m60, l60, q⟩ := h
    refine ⟨_, (Evl.pss_cut (ps_set (i := 2) scGrt.nd rfl (.inl rfl) (pe_tupN (pa_cons pe_str (pa_cons pe_int pa_nil))))
      (Evl.pss_cut (ps_for PassesOwn.never rfl (pi_range1 (by rfl) T.z_range (pa_cons (pv 0) pa_nil)) (pg_name (i := 3) scGrt.nd rfl (.inl rfl)) (Evl.pss_cut (ps_set (i := 4) scGrt.nd rfl (.inl rfl) (pe_op op_mod (pv 3) pe_int))
      (Evl.pss_cut (ps_set (i := 5) scGrt.nd rfl (.inl rfl) (pe_tupN (pa_cons pe_str (pa_cons (pe_op op_add pe_int (pv 4)) pa_nil))))
      (Evl.pss_cut (ps_if (pt_cmpR op_ge (pv 3) (pe_op op_sub (pv 0) (pv 1)) (nomark _)) (pss_cons (ps_set (i := 5) scGrt.nd rfl (.inl rfl) (pe_tupN (pa_cons pe_str (pa_cons (pe_op op_add pe_int (pv 4)) pa_nil))))
      (pss_cons (ps_for PassesOwn.never rfl (pi_range1 (by rfl) T.z_range (pa_cons pe_int pa_nil)) (pg_name (i := 6) scGrt.nd rfl (.inl rfl)) (pss_one (ps_set (i := 5) scGrt.nd rfl (.inl rfl) (pe_tupN (pa_cons pe_str (pa_cons (pv 5) (pa_cons (pe_tupN (pa_cons pe_str (pa_cons (pe_op op_add pe_int (pv 6)) pa_nil))) (pa_cons (pe_op op_add pe_int (pv 6)) pa_nil))))))))
      (pss_one (ps_set (i := 5) scGrt.nd rfl (.inl rfl) (pe_tupN (pa_cons pe_str (pa_cons (pv 5) (pa_cons (pe_tupN (pa_cons pe_str (pa_cons (pe_op op_add pe_int (pv 4)) pa_nil))) (pa_cons pe_int pa_nil))))))))) pss_nil)
      (pss_one (ps_set (i := 2) scGrt.nd rfl (.inl rfl) (pe_tupN (pa_cons pe_str (pa_cons (pv 2) (pa_cons (pv 5) (pa_cons (pe_op op_add pe_int (pv 4)) pa_nil)))))))))))
      (pss_one (ps_ret (pv 2))))), ?_⟩
    have kt : ∀ {H1 H2 : Hp} {t : Tr.T} {v : V}, Same H1 H2 → At H1 t v → At H2 t v := fun s h => At.ke (Ke.same (F := Nof) s) h
    refine Evl.q_cut (M := fun σ' G => ∃ u : V, σ' = some (.int (m : Nat)) :: some (.int (l : Nat)) :: some u :: List.replicate 4 none ∧ Same H G ∧ At G (.leaf 0) u) ?_ ?_
    · exact ⟨by show 2 ≤ sizeLine; decide, fun p G np s1 hp _ => ⟨.ref p, rfl, s1, p, rfl, hp⟩⟩
    rintro σ' H1 ⟨u, rfl, s1, hu⟩
    refine Evl.q_cut (M := fun σ' G => ∃ (u : V) (y3 y4 y5 y6 : Option V), σ' = [some (.int (m : Nat)), some (.int (l : Nat)), some u, y3, y4, y5, y6] ∧ Same H G ∧ At G (great m l m) u) ?_ ?_
    · refine ⟨_, rfl, (m : Nat), rfl, by omega, by omega, for_range (n := ((m : Nat) : Int).toNat) (Pv := fun i σ G => ∃ (u : V) (y3 y4 y5 y6 : Option V), σ = [some (.int (m : Nat)), some (.int (l : Nat)), some u, y3, y4, y5, y6] ∧ Same H G ∧ At G (great m l i) u) ?_ ?_ ?_⟩
      · exact ⟨u, none, none, none, none, rfl, s1, hu⟩
      · clear hu s1 u H1
        rintro i σ H1 hi ⟨u, y3, y4, y5, y6, rfl, s1, hu⟩
        have hi : i < ((m : Nat) : Int).toNat := hi
        rw [show (0 : Int) + (i : Int) = (i : Int) from Int.zero_add _]
        -- side
        refine Evl.q_cut (M := fun σ' G => σ' = [some (.int (m : Nat)), some (.int (l : Nat)), some u, some (.int (i : Nat)), some (.int ((i % 2 : Nat) : Int)), y5, y6] ∧ H1 = G) ?_ ?_
        · exact ⟨_, rfl, _, _, rfl, rfl, (by show (0 : Int) < 2; decide), rfl, rfl⟩
        rintro σ' G ⟨rfl, rfl⟩
        have sd : i % 2 < 2 := Nat.mod_lt _ (by decide)
        generalize hsd : i % 2 = sd' at sd
        -- part
        refine Evl.q_cut (M := fun σ' G => ∃ pv : V, σ' = [some (.int (m : Nat)), some (.int (l : Nat)), some u, some (.int (i : Nat)), some (.int (sd' : Nat)), some pv, y6] ∧ Same H1 G ∧ At G (partT sd') pv) ?_ ?_
        · refine ⟨_, rfl, _, _, rfl, rfl, by show 2 ≤ sizeLine; decide, fun p G np s2 hp _ => ⟨.ref p, rfl, s2, p, rfl, ?_⟩⟩
          rw [hp]
          show some (HO.tup [V.str "book", V.int ((1 : Int) + ((sd' : Nat) : Int))]) = _
          rw [show (1 : Int) + ((sd' : Nat) : Int) = ((1 + sd' : Nat) : Int) by omega]
        rintro σ' H2 ⟨pv, rfl, s2, hp⟩
        refine Evl.q_cut (M := fun σ' G => ∃ (pv : V) (y6 : Option V), σ' = [some (.int (m : Nat)), some (.int (l : Nat)), some u, some (.int (i : Nat)), some (.int (sd' : Nat)), some pv, y6] ∧ Same H1 G ∧ At G (if m ≤ i + l then longT sd' else partT sd') pv) ?_ ?_
        · by_cases g : m ≤ i + l
          · rw [if_pos g]
            refine ⟨_, rfl, _, rfl, _, rfl, _, _, rfl, rfl, _, _, rfl, rfl, true, bl_t' (decide_eq_true (show ((i : Nat) : Int) ≥ ((m : Nat) : Int) - ((l : Nat) : Int) by omega)), ?_⟩
            refine ⟨_, rfl, _, _, rfl, rfl, by show 2 ≤ sizeLine; decide, fun p G np s3 hpp _ => ?_⟩
            have h0 : At G (.leaf (3 + sd')) (.ref p) := by
              refine ⟨p, rfl, ?_⟩
              rw [hpp]
              show some (HO.tup [V.str "book", V.int ((3 : Int) + ((sd' : Nat) : Int))]) = _
              rw [show (3 : Int) + ((sd' : Nat) : Int) = ((3 + sd' : Nat) : Int) by omega]
            refine ⟨4, rfl, by decide, by decide, for_range (n := 4) (Pv := fun j σ G => ∃ (pv : V) (y6 : Option V), σ = [some (.int (m : Nat)), some (.int (l : Nat)), some u, some (.int (i : Nat)), some (.int (sd' : Nat)), some pv, y6] ∧ Same H1 G ∧ At G (stepT j (.leaf (3 + sd'))) pv) ?_ ?_ ?_⟩
            · exact ⟨.ref p, y6, rfl, s2.trans s3, h0⟩
            · clear h0 hpp np s3
              rintro j σ G1 hj ⟨pv, y6, rfl, s4, hp4⟩
              have hj : j < 4 := hj
              rw [show (0 : Int) + (j : Int) = (j : Int) from Int.zero_add _]
              refine ⟨_, rfl, _, rfl, _, _, rfl, rfl, by show 2 ≤ sizeLine; decide, fun p1 G2 n1 s5 hp1 _ => ?_⟩
              refine ⟨_, rfl, _, _, rfl, rfl, by show 4 ≤ sizeLine; decide, fun p2 G3 n2 s6 hp2 _ => ?_⟩
              refine ⟨.ref p2, _, rfl, s4.trans (s5.trans s6), p2, pv, .ref p1, rfl, ?_, kt (s5.trans s6) hp4, p1, rfl, ?_⟩
              · exact hp2
              · rw [s6 _ _ hp1]
                show some (HO.tup [V.str "book", V.int ((5 : Int) + ((j : Nat) : Int))]) = _
                rw [show (5 : Int) + ((j : Nat) : Int) = ((5 + j : Nat) : Int) by omega]
            · rintro σ G1 ⟨pv, y6, rfl, s4, hp4⟩
              refine ⟨_, rfl, _, rfl, _, _, rfl, rfl, by show 2 ≤ sizeLine; decide, fun p1 G2 n1 s5 hp1 _ => ?_⟩
              refine ⟨by show 4 ≤ sizeLine; decide, fun p2 G3 n2 s6 hp2 _ => ?_⟩
              refine ⟨.ref p2, _, rfl, s4.trans (s5.trans s6), p2, pv, .ref p1, rfl, hp2, kt (s5.trans s6) hp4, p1, rfl, ?_⟩
              rw [s6 _ _ hp1]
              show some (HO.tup [V.str "book", V.int ((9 : Int) + ((sd' : Nat) : Int))]) = _
              rw [show (9 : Int) + ((sd' : Nat) : Int) = ((9 + sd' : Nat) : Int) by omega]
          · rw [if_neg g]
            refine ⟨_, rfl, _, rfl, _, rfl, _, _, rfl, rfl, _, _, rfl, rfl, false, bl_f' (decide_eq_false (show ¬ ((i : Nat) : Int) ≥ ((m : Nat) : Int) - ((l : Nat) : Int) by omega)), ?_⟩
            exact ⟨pv, y6, rfl, s2, hp⟩
        clear hp pv
        rintro σ' H3 ⟨pv, y6', rfl, s3, hp⟩
        refine ⟨_, rfl, _, rfl, _, rfl, _, _, rfl, rfl, by show 4 ≤ sizeLine; decide, fun p G np s4 hpp _ => ?_⟩
        refine ⟨.ref p, _, _, _, _, rfl, s1.trans (s3.trans s4), ?_⟩
        show At G (.cut (great m l i) (if m ≤ i + l then longT (i % 2) else partT (i % 2)) (1 + (i % 2 : Nat))) (.ref p)
        rw [hsd]
        exact ⟨p, u, pv, rfl, hpp, kt (s3.trans s4) hu, kt s4 hp⟩
      · rintro σ G ⟨u, y3, y4, y5, y6, rfl, s2, hu⟩
        rw [Int.toNat_natCast] at hu
        exact ⟨u, y3, y4, y5, y6, rfl, s2, hu⟩
    rintro σ' G ⟨u, y3, y4, y5, y6, rfl, s2, hu⟩
    exact ⟨_, rfl, q u G s2 hu⟩
end
end Ta
namespace Ta
open PySem PySem.Spec PyProof.Rows L2 GxR Nw Dr Kp Se Ct Lr Lp Od Og
open Tr (T At)
/-! ### the claims of deep trees (k20) -/
def gBook : List (List Int) := [[1], [-1, 2], [-2, 1], [-1, 3], [-2, 3], [-3, 4], [-4, 5], [-5, 6], [-6, 7], [-7, 2], [-7, 1]]
theorem comes_two {x k y : Int} (h1 : 1 ≤ k) (hy : 1 ≤ y) (hx : x ≤ -1) (n1 : x ≠ -k) (n2 : y ≠ k) (n3 : x ≠ -y) : Comes [x, k] [-k, y] k [x, y] := by
  refine ⟨h1, by simp, by simp, fun j a b => ?_, by simp; omega, fun j => ?_⟩
  · obtain ⟨a1, a2⟩ := a
    obtain ⟨b1, b2⟩ := b
    simp at a1 b1
    omega
  · unfold Bes
    simp
    omega
theorem comes_one {k y : Int} (h1 : 1 ≤ k) (hy : 1 ≤ y) (n : y ≠ k) : Comes [k] [-k, y] k [y] := by
  refine ⟨h1, by simp, by simp, fun j a b => ?_, by simp, fun j => ?_⟩
  · obtain ⟨a1, a2⟩ := a
    obtain ⟨b1, b2⟩ := b
    simp at a1 b1
    omega
  · unfold Bes
    simp
    omega
theorem step_cl (side : Nat) (hs : side < 2) : Tr.Cl gBook (longT side) [-(1 + (side : Int)), 2 - (side : Int)] := by
  rcases (by omega : side = 0 ∨ side = 1) with rfl | rfl
  · exact ⟨[-1, 7], [-7, 2], ⟨[-1, 6], [-6, 7], ⟨[-1, 5], [-5, 6], ⟨[-1, 4], [-4, 5], ⟨[-1, 3], [-3, 4], rfl, rfl, comes_two (by decide) (by decide) (by decide) (by decide) (by decide) (by decide)⟩, rfl, comes_two (by decide) (by decide) (by decide) (by decide) (by decide) (by decide)⟩, rfl, comes_two (by decide) (by decide) (by decide) (by decide) (by decide) (by decide)⟩, rfl, comes_two (by decide) (by decide) (by decide) (by decide) (by decide) (by decide)⟩, rfl, comes_two (by decide) (by decide) (by decide) (by decide) (by decide) (by decide)⟩
  · exact ⟨[-2, 7], [-7, 1], ⟨[-2, 6], [-6, 7], ⟨[-2, 5], [-5, 6], ⟨[-2, 4], [-4, 5], ⟨[-2, 3], [-3, 4], rfl, rfl, comes_two (by decide) (by decide) (by decide) (by decide) (by decide) (by decide)⟩, rfl, comes_two (by decide) (by decide) (by decide) (by decide) (by decide) (by decide)⟩, rfl, comes_two (by decide) (by decide) (by decide) (by decide) (by decide) (by decide)⟩, rfl, comes_two (by decide) (by decide) (by decide) (by decide) (by decide) (by decide)⟩, rfl, comes_two (by decide) (by decide) (by decide) (by decide) (by decide) (by decide)⟩
theorem part_cl (side : Nat) (hs : side < 2) : Tr.Cl gBook (partT side) [-(1 + (side : Int)), 2 - (side : Int)] := by
  rcases (by omega : side = 0 ∨ side = 1) with rfl | rfl <;> rfl
/-- claims alternate: whatever is long, a deep tree tells a claim -/
theorem great_cl (m l : Nat) : ∀ k, Tr.Cl gBook (great m l k) [1 + ((k % 2 : Nat) : Int)]
  | 0 => rfl
  | k + 1 => by
    have ih := great_cl m l k
    have hk : k % 2 < 2 := Nat.mod_lt _ (by decide)
    have hk1 : (k + 1) % 2 = 1 - k % 2 := by omega
    refine ⟨_, [-(1 + ((k % 2 : Nat) : Int)), 2 - ((k % 2 : Nat) : Int)], ih, ?_, ?_⟩
    · split
      · exact step_cl _ hk
      · exact part_cl _ hk
    · rw [hk1, show (1 : Int) + ((1 - k % 2 : Nat) : Int) = 2 - ((k % 2 : Nat) : Int) by omega]
      exact comes_one (by omega) (by omega) (by omega)
theorem great_lf (m l : Nat) : ∀ k, Lf 11 (great m l k)
  | 0 => by show 0 < 11; decide
  | k + 1 => by
    have hk : k % 2 < 2 := Nat.mod_lt _ (by decide)
    refine ⟨great_lf m l k, ?_⟩
    split
    · refine ⟨⟨⟨⟨⟨?_, ?_⟩, ?_⟩, ?_⟩, ?_⟩, ?_⟩
      · show 3 + k % 2 < 11
        omega
      · show 5 < 11
        decide
      · show 6 < 11
        decide
      · show 7 < 11
        decide
      · show 8 < 11
        decide
      · show 9 + k % 2 < 11
        omega
    · show 1 + k % 2 < 11
      omega
theorem great_is {m l : Nat} : IsTree gBook (datT (great m l m)) ↔ (great m l m).depth ≤ 40 ∧ (great m l m).pieces ≤ 360 := by
  rw [isTree_iff]
  constructor
  · rintro ⟨t, e, _, a, b, _⟩
    rw [dat_inj e]
    exact ⟨a, b⟩
  · exact fun ⟨a, b⟩ => ⟨_, rfl, great_lf m l m, a, b, _, great_cl m l m⟩
/-- the law's seven deep trees -/
def sevenG : List (Nat × Nat) := [(38, 0), (39, 0), (40, 0), (45, 0), (39, 28), (39, 29), (30, 30)]
theorem great_due : ∀ p ∈ sevenG, (IsTree gBook (datT (great p.1 p.2 p.1)) ↔ p.1 < 40 ∧ p.1 + 5 * p.2 < 180) ∧ (great p.1 p.2 p.1).depth ≤ 46 ∧ (great p.1 p.2 p.1).pieces ≤ 1000 := by
  intro p hp
  rw [great_is]
  have key : ∀ p ∈ sevenG, (((great p.1 p.2 p.1).depth ≤ 40 ∧ (great p.1 p.2 p.1).pieces ≤ 360) ↔ p.1 < 40 ∧ p.1 + 5 * p.2 < 180) ∧ (great p.1 p.2 p.1).depth ≤ 46 ∧ (great p.1 p.2 p.1).pieces ≤ 1000 := by decide +kernel
  exact key p hp
/-! ### all opposite -/
def ng (c : List Int) : List Int := (c.map fun s => -s).reverse
theorem mem_ng {x : Int} {c : List Int} : x ∈ ng c ↔ -x ∈ c := by
  unfold ng
  rw [List.mem_reverse, List.mem_map]
  constructor
  · rintro ⟨z, hz, rfl⟩
    rw [Int.neg_neg]
    exact hz
  · exact fun h => ⟨-x, h, Int.neg_neg x⟩
theorem ng_up {c : List Int} (h : c.Pairwise (· < ·)) : (ng c).Pairwise (· < ·) := by
  unfold ng
  rw [List.pairwise_reverse, List.pairwise_map]
  exact h.imp fun {a b} z => by omega
theorem bes_ng {a b : List Int} {k j : Int} : Bes (ng b) (ng a) k j ↔ Bes a b k (-j) := by
  unfold Bes
  rw [mem_ng, mem_ng, Int.natAbs_neg]
  exact and_congr_left fun _ => Or.comm
theorem comes_ng {a b c : List Int} {k : Int} (h : Comes a b k c) : Comes (ng b) (ng a) k (ng c) := by
  obtain ⟨k1, ka, kb, no, up, me⟩ := h
  refine ⟨k1, mem_ng.mpr kb, mem_ng.mpr (by rw [Int.neg_neg]; exact ka), fun j h1 h2 => ?_, ng_up up, fun j => ?_⟩
  · exact no _ (bes_ng.mp h1) (bes_ng.mp h2)
  · rw [mem_ng, bes_ng]
    exact me (-j)
theorem turn_cl {css : List (List Int)} : ∀ {t : T} {c : List Int}, Tr.Cl css t c → Tr.Cl (css.map ng) (turn t) (ng c)
  | .leaf n, c, h => by
    have h : css[n]? = some c := h
    show (css.map ng)[n]? = some (ng c)
    rw [List.getElem?_map, h]
    rfl
  | .cut t u k, c, h => by
    obtain ⟨x, y, h1, h2, h3⟩ := h
    exact ⟨ng y, ng x, turn_cl h2, turn_cl h1, comes_ng h3⟩
theorem turn_is {m l : Nat} : IsTree (gBook.map ng) (datT (turn (great m l m))) ↔ IsTree gBook (datT (great m l m)) := by
  rw [great_is, isTree_iff]
  constructor
  · rintro ⟨t, e, _, a, b, _⟩
    rw [← dat_inj e, turn_depth] at a
    rw [← dat_inj e, turn_pieces] at b
    exact ⟨a, b⟩
  · exact fun ⟨a, b⟩ => ⟨_, rfl, turn_lf (by rw [List.length_map]; exact great_lf m l m), by rw [turn_depth]; exact a, by rw [turn_pieces]; exact b, _, turn_cl (great_cl m l m)⟩
end Ta
namespace Tj
open PySem PySem.Spec PyProof.Rows L2 GxR Nw Dr Kp Se Ct Lr Lp Od Og Ta
open Tr (T At)
/-! ### odd things put into trees (k20): their data is small -/
mutual
def pcD : PyData → Nat
  | .tuple ds => 1 + pcAll ds
  | .list ds => 1 + pcAll ds
  | _ => 0
def pcAll : List PyData → Nat
  | [] => 0
  | d :: ds => pcD d + pcAll ds
end
structure Ot (B D : Nat) (d : PyData) : Prop where
  sh : d.showable = true
  nd : d.hasDict = false
  dp : d.depth ≤ D
  sz : d.shown.length ≤ B
  ly : PyData.canLay0 d = true
  pc : pcD d * 10 ≤ B
structure OtAll (S D : Nat) (ds : List PyData) : Prop where
  sh : PyData.showableAll ds = true
  nd : PyData.hasDictAll ds = false
  dp : PyData.depthAll ds ≤ D
  sz : ((PyData.shownAll ds).map (·.length)).sum ≤ S
  ly : PyData.canLayAll0 ds = true
  pc : pcAll ds * 10 ≤ S
theorem OtAll.nil {D : Nat} : OtAll 0 D [] := ⟨rfl, rfl, Nat.zero_le _, Nat.le_refl _, rfl, Nat.le_refl _⟩
theorem OtAll.cons {B D S : Nat} {d : PyData} {ds : List PyData} (h : Ot B D d) (t : OtAll S D ds) : OtAll (B + S) D (d :: ds) := by
  refine ⟨?_, ?_, Nat.max_le.mpr ⟨h.dp, t.dp⟩, ?_, ?_, ?_⟩
  · show (PyData.showable d && PyData.showableAll ds) = true
    rw [h.sh, t.sh]
    rfl
  · show (PyData.hasDict d || PyData.hasDictAll ds) = false
    rw [h.nd, t.nd]
    rfl
  · show (d.shown.length :: (PyData.shownAll ds).map (·.length)).sum ≤ _
    rw [List.sum_cons]
    have := h.sz
    have := t.sz
    omega
  · show (PyData.canLay0 d && PyData.canLayAll0 ds) = true
    rw [h.ly, t.ly]
    rfl
  · show (pcD d + pcAll ds) * 10 ≤ _
    have := h.pc
    have := t.pc
    omega
theorem OtAll.tup {S D B' D' : Nat} {ds : List PyData} (h : OtAll S D ds) (hb : S + 2 * ds.length + 13 ≤ B') (hd : D + 1 ≤ D') : Ot B' D' (.tuple ds) := by
  have e := tupleText_len_le (PyData.shownAll ds)
  rw [shownAll_len] at e
  have s := h.sz
  have p := h.pc
  refine ⟨h.sh, h.nd, ?_, ?_, h.ly, ?_⟩
  · show PyData.depthAll ds + 1 ≤ D'
    have := h.dp
    omega
  · show (tupleText (PyData.shownAll ds)).length ≤ B'
    omega
  · show (1 + pcAll ds) * 10 ≤ B'
    omega
theorem OtAll.lst {S D B' D' : Nat} {ds : List PyData} (h : OtAll S D ds) (hb : S + 2 * ds.length + 13 ≤ B') (hd : D + 1 ≤ D') : Ot B' D' (.list ds) := by
  have e := listText_len_le (PyData.shownAll ds)
  rw [shownAll_len] at e
  have s := h.sz
  have p := h.pc
  refine ⟨h.sh, h.nd, ?_, ?_, h.ly, ?_⟩
  · show PyData.depthAll ds + 1 ≤ D'
    have := h.dp
    omega
  · show (listText (PyData.shownAll ds)).length ≤ B'
    omega
  · show (1 + pcAll ds) * 10 ≤ B'
    omega
theorem Ot.mono {B D B' D' : Nat} {d : PyData} (h : Ot B D d) (hb : B ≤ B') (hd : D ≤ D') : Ot B' D' d := ⟨h.sh, h.nd, Nat.le_trans h.dp hd, Nat.le_trans h.sz hb, h.ly, Nat.le_trans h.pc hb⟩
theorem Ot.shaped {B D : Nat} {d : PyData} (h : Ot B D d) (hd : D ≤ 64) : SeqAt.shaped d = true := shaped_mk h.ly (Nat.le_trans h.dp hd)
abbrev Im (d : PyData) : Prop := Ot 960 7 d
abbrev Or (d : PyData) : Prop := Ot 6000 8 d
theorem ot_of {B D : Nat} {d : PyData} (h : (d.showable && !d.hasDict && decide (d.depth ≤ D) && decide (d.shown.length ≤ B) && PyData.canLay0 d && decide (pcD d * 10 ≤ B)) = true) : Ot B D d := by
  simp only [Bool.and_eq_true, decide_eq_true_eq, Bool.not_eq_true'] at h
  obtain ⟨⟨⟨⟨⟨h1, h2⟩, h3⟩, h4⟩, h5⟩, h6⟩ := h
  exact ⟨h1, h2, h3, h4, h5, h6⟩
theorem im_of {d : PyData} (h : (d.showable && !d.hasDict && decide (d.depth ≤ 7) && decide (d.shown.length ≤ 960) && PyData.canLay0 d && decide (pcD d * 10 ≤ 960)) = true) : Im d := ot_of h
theorem or_of {d : PyData} (h : (d.showable && !d.hasDict && decide (d.depth ≤ 8) && decide (d.shown.length ≤ 6000) && PyData.canLay0 d && decide (pcD d * 10 ≤ 6000)) = true) : Or d := ot_of h
theorem mid_ints : ∀ n : Fin 601, PyData.showable (.int ((n.val : Int) - 300)) = true ∧ (PyData.shown (.int ((n.val : Int) - 300))).length ≤ 4 := by decide +kernel
theorem ot_int {n : Int} (h0 : -300 ≤ n) (h1 : n ≤ 300) : Ot 4 0 (.int n) := by
  have := mid_ints ⟨(n + 300).toNat, by omega⟩
  rw [show (((n + 300).toNat : Nat) : Int) - 300 = n by omega] at this
  exact ⟨this.1, rfl, Nat.le_refl _, this.2, rfl, Nat.zero_le _⟩
theorem im_int {n : Int} (h0 : -300 ≤ n) (h1 : n ≤ 300) : Im (.int n) := (ot_int h0 h1).mono (by decide) (by decide)
theorem im_bool (b : Bool) : Im (.bool b) := by cases b <;> exact im_of (by decide +kernel)
theorem mid_txts : ∀ n : Fin 301, (PyData.shown (.str (toString ((n.val : Nat) : Int)))).length ≤ 10 ∧ PyData.canLay0 (.str (toString ((n.val : Nat) : Int))) = true := by decide +kernel
theorem im_txt {n : Int} (h0 : 0 ≤ n) (h1 : n ≤ 300) : Im (.str (toString n)) := by
  have := mid_txts ⟨n.toNat, by omega⟩
  rw [show (((n.toNat : Nat)) : Int) = n by omega] at this
  exact ⟨rfl, rfl, Nat.zero_le _, Nat.le_trans this.1 (by decide), this.2, Nat.zero_le _⟩
theorem log_lt {n : Int} (h : -300 ≤ n ∧ n ≤ 300) : n.natAbs.log2 < 1920 := by
  have : n.natAbs < 2 ^ 1920 := Nat.lt_of_lt_of_le (show n.natAbs < 2 ^ 9 by omega) (Nat.pow_le_pow_right (by decide) (by decide))
  by_cases z : n.natAbs = 0
  · rw [z]
    decide
  · exact (Nat.log2_lt z).mpr this
inductive AllD (P : PyData → Prop) : List PyData → Prop
  | nil : AllD P []
  | cons {d : PyData} {ds : List PyData} : P d → AllD P ds → AllD P (d :: ds)
theorem AllD.mem {P : PyData → Prop} : ∀ {ds : List PyData}, AllD P ds → ∀ d ∈ ds, P d
  | _, .cons h t, d, hd => by
    rcases List.mem_cons.mp hd with z | z
    · rw [z]
      exact h
    · exact t.mem d z
theorem AllD.cat {P : PyData → Prop} : ∀ {as bs : List PyData}, AllD P as → AllD P bs → AllD P (as ++ bs)
  | [], _, _, h => h
  | _ :: _, _, .cons h t, g => .cons h (t.cat g)
theorem AllD.ot {B D : Nat} : ∀ {ds : List PyData}, AllD (Ot B D) ds → OtAll (B * ds.length) D ds
  | [], _ => .nil
  | d :: ds, .cons h t => by
    have := OtAll.cons h t.ot
    rw [List.length_cons, Nat.mul_succ, Nat.add_comm]
    exact this
theorem or_t {ds : List PyData} (h : AllD Im ds) (l : ds.length ≤ 6) : Or (.tuple ds) := OtAll.tup h.ot (by omega) (by decide)
theorem or_l {ds : List PyData} (h : AllD Im ds) (l : ds.length ≤ 6) : Or (.list ds) := OtAll.lst h.ot (by omega) (by decide)
/-- small trees -/
def Nb : T → Prop
  | .leaf n => n ≤ 200
  | .cut t u k => Nb t ∧ Nb u ∧ 1 ≤ k ∧ k ≤ 8
theorem nb_cl {css : List (List Int)} (ib : ∀ c ∈ css, IsCl c) (l : css.length ≤ 200) : ∀ {t : T} {c : List Int}, Tr.Cl css t c → Nb t
  | .leaf n, c, h => by
    have h : css[n]? = some c := h
    have := (List.getElem?_eq_some_iff.mp h).1
    show n ≤ 200
    omega
  | .cut t u k, c, h => by
    obtain ⟨x, y, h1, h2, h3⟩ := h
    obtain ⟨k1, ka, _⟩ := id h3
    exact ⟨nb_cl ib l h1, nb_cl ib l h2, k1, ((h1.isCl ib).says k ka).2.2⟩
theorem ot_str {x : Str} {B : Nat} (h : (PyData.showable (.str x) && decide ((PyData.shown (.str x)).length ≤ B) && PyData.canLay0 (.str x)) = true) : Ot B 0 (.str x) := by
  simp only [Bool.and_eq_true, decide_eq_true_eq] at h
  exact ⟨h.1.1, rfl, Nat.le_refl _, h.1.2, h.2, Nat.zero_le _⟩
theorem ot_tree : ∀ {t : T}, Nb t → Ot (30 * t.pieces) t.depth (datT t)
  | .leaf n, h => by
    have h : n ≤ 200 := h
    refine OtAll.tup (S := 6 + (4 + 0)) (D := 0) (.cons (ot_str (by decide +kernel)) (.cons (ot_int (by omega) (by omega)) .nil)) ?_ ?_
    · show 6 + (4 + 0) + 2 * 2 + 13 ≤ 30 * 1
      decide
    · show 0 + 1 ≤ 1
      decide
  | .cut t u k, h => by
    obtain ⟨h1, h2, h3, h4⟩ := h
    refine OtAll.tup (S := 5 + (30 * t.pieces + (30 * u.pieces + (4 + 0)))) (D := max t.depth u.depth) (.cons ((ot_str (B := 5) (by decide +kernel)).mono (Nat.le_refl _) (Nat.zero_le _)) (.cons ((ot_tree h1).mono (Nat.le_refl _) (by omega)) (.cons ((ot_tree h2).mono (Nat.le_refl _) (by omega)) (.cons ((ot_int (by omega) (by omega)).mono (Nat.le_refl _) (Nat.zero_le _)) .nil)))) ?_ ?_
    · show 5 + (30 * t.pieces + (30 * u.pieces + (4 + 0))) + 2 * 4 + 13 ≤ 30 * (1 + t.pieces + u.pieces)
      omega
    · show max t.depth u.depth + 1 ≤ 1 + max t.depth u.depth
      omega
theorem pieces_depth : ∀ {t : T}, t.pieces + 1 ≤ 2 ^ t.depth
  | .leaf _ => by show 1 + 1 ≤ 2 ^ 1; decide
  | .cut t u _ => by
    show 1 + t.pieces + u.pieces + 1 ≤ 2 ^ (1 + max t.depth u.depth)
    have a := pieces_depth (t := t)
    have b := pieces_depth (t := u)
    have a' : 2 ^ t.depth ≤ 2 ^ (max t.depth u.depth) := Nat.pow_le_pow_right (by decide) (Nat.le_max_left _ _)
    have b' : 2 ^ u.depth ≤ 2 ^ (max t.depth u.depth) := Nat.pow_le_pow_right (by decide) (Nat.le_max_right _ _)
    rw [Nat.pow_add]
    omega
theorem pc_dat : ∀ t : T, pcD (datT t) = t.pieces
  | .leaf _ => rfl
  | .cut t u k => by
    show 1 + (0 + (pcD (datT t) + (pcD (datT u) + (0 + 0)))) = 1 + t.pieces + u.pieces
    rw [pc_dat t, pc_dat u]
    omega
/-! ### the odd ones so far -/
def Kn (H : Hp) : Addr → Prop := fun a => ∃ xs, H a = some (.lst xs)
theorem kn_of {H G : Hp} {p : Addr} (s : Same H G) (n : G p = none) : ¬ Kn H p := fun ⟨xs, e⟩ => ne_of_none (s _ _ e) n rfl
theorem ke_any {H : Hp} {p : Addr} {xs : List V} {o : HO} (hp : H p = some (.lst xs)) : Ke (fun _ => True) H (upd H p o) := by
  refine ⟨fun b x e _ m => absurd trivial m, fun Q hQ => ?_, fun b ys e => ?_⟩
  · obtain ⟨qs, e, t⟩ := hQ
    exact ⟨qs, by rw [upd_ne fun z => by rw [z, hp] at e; cases e]; exact e, t⟩
  · rw [upd_ne fun z => by rw [z, hp] at e; cases e]
    exact e
theorem ke_wrG {G : Addr → Prop} {H : Hp} {p : Addr} {xs : List V} {o : HO} (g : G p) (hp : H p = some (.lst xs)) : Ke G H (upd H p o) := by
  refine ⟨fun b x e _ m => ?_, (ke_any hp).tabs, (ke_any hp).tups⟩
  rw [upd_ne (show b ≠ p from fun z => m (by rw [z]; exact g))]
  exact e
mutual
theorem OdV.fresh {F : Addr → Prop} {G : Hp} {Z : Addr} (n : G Z = none) : ∀ {d : PyData} {v : V}, OdV F G v d → OdV (fun b => F b ∨ b = Z) G v d
  | .none, _, h => by cases h; exact .non
  | .bool _, _, h => by cases h; exact .bl _
  | .int _, _, h => by cases h; exact .int _
  | .str _, _, h => by cases h; exact .str _
  | .list ds, _, h => by cases h with | lst h1 m h2 => exact .lst h1 (fun z => z.elim m (ne_of_none h1 n)) (OdAll.fresh n h2)
  | .tuple ds, _, h => by cases h with | tup h1 h2 => exact .tup h1 (OdAll.fresh n h2)
  | .dict _, _, h => by cases h
theorem OdAll.fresh {F : Addr → Prop} {G : Hp} {Z : Addr} (n : G Z = none) : ∀ {ds : List PyData} {vs : List V}, OdAll F G vs ds → OdAll (fun b => F b ∨ b = Z) G vs ds
  | [], _, h => by cases h; exact .nil
  | d :: ds, _, h => by cases h with | cons h1 h2 => exact .cons (OdV.fresh n h1) (OdAll.fresh n h2)
end
/-- the odd ones so far, at D -/
structure Ob (F : Addr → Prop) (H G : Hp) (D : Addr) (us : List V) (N : Nat) : Prop where
  s : Same H G
  n : H D = none
  h : G D = some (.lst us)
  od : ∃ ds, OdAll F G us ds ∧ AllD Or ds
  l : us.length = N
section
variable {F F' : Addr → Prop} {H G G1 G2 : Hp} {D D' : Addr} {us us2 : List V} {ds2 : List PyData} {N M : Nat}
theorem Ob.cat (o : Ob F H G D us N) (w : Same G G1) (od2 : OdAll F G2 us2 ds2) (a2 : AllD Or ds2) (t : Same G1 G2) (hD : G2 D' = some (.lst (us ++ us2))) (n' : G1 D' = none) (l2 : us2.length = M) : Ob F H G2 D' (us ++ us2) (N + M) := by
  obtain ⟨ds, od, a⟩ := o.od
  exact ⟨o.s.trans (w.trans t), o.s.free (w.free n'), hD, ⟨ds ++ ds2, (od.ke (.same (w.trans t))).cat od2, a.cat a2⟩, by rw [List.length_append, o.l, l2]⟩
theorem Ob.catF (o : Ob F H G D us N) (w : Same G G1) (od2 : OdAll (fun b => F b ∨ b = D') G2 us2 ds2) (a2 : AllD Or ds2) (t : Same G1 G2) (hD : G2 D' = some (.lst (us ++ us2))) (n' : G1 D' = none) (l2 : us2.length = M) : Ob (fun b => F b ∨ b = D') H G2 D' (us ++ us2) (N + M) := by
  obtain ⟨ds, od, a⟩ := o.od
  exact ⟨o.s.trans (w.trans t), o.s.free (w.free n'), hD, ⟨ds ++ ds2, ((OdAll.fresh n' (od.ke (.same w))).ke (.same t)).cat od2, a.cat a2⟩, by rw [List.length_append, o.l, l2]⟩
theorem Ob.same (o : Ob F H G D us N) (w : Same G G1) : Ob F H G1 D us N := by
  obtain ⟨ds, od, al⟩ := o.od
  exact ⟨o.s.trans w, o.n, w _ _ o.h, ⟨ds, od.ke (.same w), al⟩, o.l⟩
end
theorem cutA (x a b c : V) : cutV [x, a, b, c] none (some 3) = [x, a, b] := by
  unfold cutV
  rw [show (3 : Int) = ((3 : Nat) : Int) from rfl, HT.sIx_none, HT.sIx_nat]
  rfl
theorem cutC (x a b c : V) : cutV [x, a, b, c] (some 1) none = [a, b, c] := by
  unfold cutV
  rw [show (1 : Int) = ((1 : Nat) : Int) from rfl, HT.sIx_none, HT.sIx_nat]
  rfl
theorem small1000' {n : Nat} (h : n ≤ 1000) : n ≤ sizeLine := Nat.le_trans h (by decide)
theorem atS {H H' : Hp} {t : T} {v : V} (s : Same H H') (h : At H t v) : At H' t v := At.ke (Ke.same (F := Nof) s) h
structure Zo (mg : Str → Option Value) : Prop where
  z_list : mg "list" = none
  z_str : mg "str" = none
  z_range : mg "range" = none
  z_len : mg "len" = none
section
variable {P : Program} {w : World} {K : PySem.W.Frag} {mg : Str → Option Value} {base : Heap}
abbrev sOdd : Stmt := topS 31
abbrev nOdd : List Str := ["book", "piece", "zero", "odd", "number", "one", "other", "k", "words", "word"]
theorem scOdd : FnScope nOdd ["book", "piece"] (defScope sOdd) := ⟨rfl, rfl, rfl, by decide +kernel, rfl, by decide +kernel, by decide +kernel⟩
def spOdd : Sp := fun vs H Q _ => ∃ (ba : Addr) (bvs : List V) (v : V) (t : T), vs = [.ref ba, v] ∧ H ba = some (.tup bvs) ∧ bvs.length ≤ 16 ∧ At H t v ∧ Nb t ∧ t.depth ≤ 6 ∧
  ∀ (D : Addr) (us : List V) (N : Nat) (H' : Hp), Ob (Kn H) H H' D us N → N ≤ 80 → Q (.ref D) H'
theorem ok_odd {f : Addr} {fd : FuncData} {k : Nat} (F : Fun K "_law_s_odd" "_law_s_odd" sOdd f fd) (T : Zo mg) : FnOk P w K mg base CX0 (k + 1) f fd ["book", "piece"] spOdd := by
  refine F.ok scOdd (fun vs H Q E h => ?_) (fun cdv A outer s H vs Q E hr h => ?_)
  · obtain ⟨ba, bvs, v, t, rfl, _⟩ := h
    rfl
  · obtain ⟨ba, bvs, v, t, rfl, hB, lB, hT, nb, dp, q⟩ := h
    refine ⟨_, (Evl.pss_cut (ps_set (i := 2) scOdd.nd rfl (.inl rfl) (pe_tupN (pa_cons pe_str (pa_cons pe_int pa_nil))))
      (Evl.pss_cut (ps_set (i := 3) scOdd.nd rfl (.inl rfl) (pe_lstN (pa_cons (pe_tupN (pa_cons pe_str (pa_cons (pe_callB call_len_seq (by rfl) T.z_len (by decide +kernel) (pa_cons (pv 0) pa_nil)) pa_nil))) (pa_cons (pe_tupN (pa_cons pe_str (pa_cons (pe_un un_neg pe_int) pa_nil))) (pa_cons (pe_tupN (pa_cons pe_str (pa_cons pe_bl pa_nil))) (pa_cons (pe_tupN (pa_cons pe_str (pa_cons pe_str pa_nil))) pa_nil))))))
      (Evl.pss_cut (ps_set (i := 3) scOdd.nd rfl (.inl rfl) (pe_op op_catN (pv 3) (pe_lstN (pa_cons (pe_tupN (pa_cons pe_str pa_nil)) (pa_cons (pe_tupN (pa_cons pe_str (pa_cons pe_int (pa_cons pe_int pa_nil)))) (pa_cons (pe_lstN (pa_cons pe_str (pa_cons pe_int pa_nil))) (pa_cons pe_non (pa_cons pe_int (pa_cons pe_str (pa_cons (pe_tupN pa_nil) pa_nil))))))))))
      (Evl.pss_cut (ps_set (i := 3) scOdd.nd rfl (.inl rfl) (pe_op op_catN (pv 3) (pe_lstN (pa_cons (pe_tupN (pa_cons pe_str (pa_cons pe_int pa_nil))) (pa_cons (pe_tupN (pa_cons pe_str (pa_cons (pe_op op_pow pe_int pe_int) pa_nil))) (pa_cons (pe_tupN (pa_cons pe_str (pa_cons (pe_lstN (pa_cons pe_int pa_nil)) pa_nil))) (pa_cons (pe_tupN (pa_cons pe_str (pa_cons pe_int (pa_cons pe_int (pa_cons pe_int pa_nil))))) pa_nil)))))))
      (Evl.pss_cut (ps_set (i := 3) scOdd.nd rfl (.inl rfl) (pe_op op_catN (pv 3) (pe_lstN (pa_cons (pe_tupN (pa_cons pe_str (pa_cons (pv 2) (pa_cons (pv 2) (pa_cons pe_int pa_nil))))) (pa_cons (pe_tupN (pa_cons pe_str (pa_cons (pv 2) (pa_cons pe_non (pa_cons pe_int pa_nil))))) pa_nil)))))
      (Evl.pss_cut (ps_set (i := 3) scOdd.nd rfl (.inl rfl) (pe_op op_catN (pv 3) (pe_lstN (pa_cons (pe_tupN (pa_cons (pe_lstN pa_nil) (pa_cons pe_int pa_nil))) (pa_cons (pe_tupN (pa_cons pe_str (pa_cons pe_int pa_nil))) (pa_cons (pe_tupN (pa_cons pe_str (pa_cons (pe_un un_neg pe_int) pa_nil))) pa_nil))))))
      (Evl.pss_cut (ps_set (i := 3) scOdd.nd rfl (.inl rfl) (pe_op op_catN (pv 3) (pe_lc (own := [("number", 4)]) (g := (gName 4)) (tt := tYes) rfl scOdd.nd (pi_range1 (by rfl) T.z_range (pa_cons (pe_callB call_len_seq (by rfl) T.z_len (by decide +kernel) (pa_cons (pv 0) pa_nil)) pa_nil)) (blkOk_by (N := nOdd) (sc := defScope sOdd) (by decide +kernel)) (fun _ _ _ _ _ => (pg_name (i := 4) scOdd.nd rfl (.inl rfl))) (fun _ _ _ _ _ => pts_nil) (fun _ _ _ _ _ => (pe_tupN (pa_cons pe_str (pa_cons (pv 4) pa_nil)))))))
      (Evl.pss_cut (ps_if (pt_cmpR op_eq (pe_ix ix_tup (pv 1) pe_int (fun _ _ => rfl)) pe_str (nomark _)) (Evl.pss_cut (ps_asg (pe_slice sl_tupN (pv 1) (po_some pe_int) po_none) (pg_tup rfl (pgs_cons (pg_name (i := 5) scOdd.nd rfl (.inl rfl)) (pgs_cons (pg_name (i := 6) scOdd.nd rfl (.inl rfl)) (pgs_cons (pg_name (i := 7) scOdd.nd rfl (.inl rfl)) pgs_nil)))))
      (Evl.pss_cut (ps_set (i := 8) scOdd.nd rfl (.inl rfl) (pe_lstN (pa_cons pe_str (pa_cons pe_str (pa_cons pe_str (pa_cons pe_int (pa_cons pe_non (pa_cons (pe_lstN (pa_cons pe_str pa_nil)) (pa_cons (pe_tupN (pa_cons pe_str pa_nil)) pa_nil)))))))))
      (Evl.pss_cut (ps_set (i := 3) scOdd.nd rfl (.inl rfl) (pe_op op_catN (pv 3) (pe_lc (own := [("word", 9)]) (g := (gName 9)) (tt := tYes) rfl scOdd.nd (pi_list (pv 8)) (blkOk_by (N := nOdd) (sc := defScope sOdd) (by decide +kernel)) (fun _ _ _ _ _ => (pg_name (i := 9) scOdd.nd rfl (.inl rfl))) (fun _ _ _ _ _ => pts_nil) (fun _ _ _ _ _ => (pe_op op_catTN (pe_tupN (pa_cons (pv 9) pa_nil)) (pe_slice sl_tupN (pv 1) (po_some pe_int) po_none))))))
      (Evl.pss_cut (ps_set (i := 3) scOdd.nd rfl (.inl rfl) (pe_op op_catN (pv 3) (pe_lstN (pa_cons (pe_tupN (pa_cons pe_str (pa_cons (pv 6) (pa_cons (pv 5) (pa_cons (pv 7) pa_nil))))) (pa_cons (pe_tupN (pa_cons pe_str (pa_cons (pv 6) (pa_cons (pv 5) (pa_cons (pe_op op_sub pe_int (pv 7)) pa_nil))))) pa_nil)))))
      (Evl.pss_cut (ps_set (i := 3) scOdd.nd rfl (.inl rfl) (pe_op op_catN (pv 3) (pe_lstN (pa_cons (pe_tupN (pa_cons pe_str (pa_cons (pv 5) (pa_cons (pv 6) (pa_cons (pe_op op_sub pe_int (pv 7)) pa_nil))))) (pa_cons (pe_tupN (pa_cons pe_str (pa_cons (pv 5) (pa_cons (pv 5) (pa_cons (pv 7) pa_nil))))) pa_nil)))))
      (Evl.pss_cut (ps_set (i := 3) scOdd.nd rfl (.inl rfl) (pe_op op_catN (pv 3) (pe_lstN (pa_cons (pe_op op_catTN (pe_slice sl_tupN (pv 1) po_none (po_some pe_int)) (pe_tupN (pa_cons (pe_op op_add (pe_op op_mod (pv 7) pe_int) pe_int) pa_nil))) (pa_cons (pe_callTy call_list_ofN (by rfl) T.z_list (by decide +kernel) (pa_cons (pv 1) pa_nil)) (pa_cons (pe_slice sl_tupN (pv 1) po_none (po_some pe_int)) pa_nil))))))
      (Evl.pss_cut (ps_set (i := 3) scOdd.nd rfl (.inl rfl) (pe_op op_catN (pv 3) (pe_lstN (pa_cons (pe_op op_catTN (pv 1) (pe_tupN (pa_cons (pv 7) pa_nil))) (pa_cons (pe_op op_catTN (pe_tupN (pa_cons pe_str pa_nil)) (pe_slice sl_tupN (pv 1) (po_some pe_int) po_none)) (pa_cons (pe_op op_catTN (pe_slice sl_tupN (pv 1) po_none (po_some pe_int)) (pe_tupN (pa_cons (pe_cmpR op_eq (pv 7) pe_int (nomark _)) pa_nil))) pa_nil))))))
      (Evl.pss_cut (ps_set (i := 3) scOdd.nd rfl (.inl rfl) (pe_op op_catN (pv 3) (pe_lstN (pa_cons (pe_op op_catTN (pe_slice sl_tupN (pv 1) po_none (po_some pe_int)) (pe_tupN (pa_cons pe_non pa_nil))) (pa_cons (pe_op op_catTN (pe_slice sl_tupN (pv 1) po_none (po_some pe_int)) (pe_tupN (pa_cons (pe_callTy call_str_int (by rfl) T.z_str (by decide +kernel) (pa_cons (pv 7) pa_nil)) pa_nil))) pa_nil)))))
      (pss_one (ps_expr (pe_bm PySem.F.plainAttrs_list PySem.F.slot_list_append PySem.F.type_list_append mt_append (pv 3) (pa_cons (pe_tupN (pa_cons pe_str (pa_cons (pv 5) (pa_cons (pe_lstN (pa_cons (pv 6) pa_nil)) (pa_cons (pv 7) pa_nil))))) pa_nil)))))))))))) pss_nil)
      (pss_one (ps_ret (pv 3))))))))))), ?_⟩
    -- zero
    refine Evl.q_cut (M := fun σ' H' => ∃ z : Addr, σ' = [some (.ref ba), some v, some (.ref z), none, none, none, none, none, none, none] ∧ H' z = some (.tup [.str "book", .int 0]) ∧ Same H H') ?_ ?_
    · exact ⟨by show 2 ≤ sizeLine; decide, fun p G n t h _ => ⟨p, rfl, h, t⟩⟩
    rintro σ' G ⟨z, rfl, hz, s0⟩
    have hb := s0 _ _ hB
    refine Evl.q_cut (M := fun σ' H' => ∃ (D : Addr) (us : List V), σ' = [some (.ref ba), some v, some (.ref z), some (.ref D), none, none, none, none, none, none] ∧ H' z = some (.tup [.str "book", .int 0]) ∧ Ob (Kn H) H H' D us 4) ?_ ?_
    · skip
      have xw0 : Same G G := Same.refl _
      refine ⟨_, rfl, ba, _, rfl, .inr (.of hb), by show 2 ≤ sizeLine; decide, fun xp1 xG1 xn1 xt1 xh1 _ => ?_⟩
      have xw1 := xw0.trans xt1
      refine ⟨_, rfl, by show 2 ≤ sizeLine; decide, fun xp2 xG2 xn2 xt2 xh2 _ => ?_⟩
      have xw2 := xw1.trans xt2
      refine ⟨by show 2 ≤ sizeLine; decide, fun xp3 xG3 xn3 xt3 xh3 _ => ?_⟩
      have xw3 := xw2.trans xt3
      refine ⟨by show 2 ≤ sizeLine; decide, fun xp4 xG4 xn4 xt4 xh4 _ => ?_⟩
      have xw4 := xw3.trans xt4
      refine ⟨by show 4 ≤ sizeLine; decide, fun xp5 xG5 xn5 xt5 xh5 _ => ?_⟩
      have xw5 := xw4.trans xt5
      have xu5 := (Same.refl xG5)
      have xu4 := xt5.trans xu5
      have xu3 := xt4.trans xu4
      have xu2 := xt3.trans xu3
      have xu1 := xt2.trans xu2
      have xu0 := xt1.trans xu1
      exact ⟨xp5, _, rfl, xw5 _ _ hz, s0.trans xw5, s0.free (xw4.free xn5), xh5, ⟨[.tuple [.str "book", .int ((bvs.length : Nat) : Int)], .tuple [.str "book", .int (-1)], .tuple [.str "book", .bool true], .tuple [.str "book", .str "0"]], (.cons (.tup (xu1 _ _ xh1) (.cons (.str _) (.cons (.int _) .nil))) (.cons (.tup (xu2 _ _ xh2) (.cons (.str _) (.cons (.int _) .nil))) (.cons (.tup (xu3 _ _ xh3) (.cons (.str _) (.cons (.bl _) .nil))) (.cons (.tup (xu4 _ _ xh4) (.cons (.str _) (.cons (.str _) .nil))) .nil)))), (.cons (or_t (.cons (im_of (by decide +kernel)) (.cons (im_int (by omega) (by omega)) .nil)) (by show 2 ≤ 6; decide)) (.cons (or_of (by decide +kernel)) (.cons (or_t (.cons (im_of (by decide +kernel)) (.cons (im_bool _) .nil)) (by show 2 ≤ 6; decide)) (.cons (or_of (by decide +kernel)) .nil))))⟩, rfl⟩
    clear s0 hz hb
    clear G
    rintro σ' G ⟨D, us, rfl, hz, ob⟩
    have s0 := ob.s
    have hb := s0 _ _ hB
    refine Evl.q_cut (M := fun σ' H' => ∃ (D : Addr) (us : List V), σ' = [some (.ref ba), some v, some (.ref z), some (.ref D), none, none, none, none, none, none] ∧ H' z = some (.tup [.str "book", .int 0]) ∧ Ob (Kn H) H H' D us 11) ?_ ?_
    · skip
      have xw0 : Same G G := Same.refl _
      refine ⟨_, rfl, by show 1 ≤ sizeLine; decide, fun xp1 xG1 xn1 xt1 xh1 _ => ?_⟩
      have xw1 := xw0.trans xt1
      refine ⟨by show 3 ≤ sizeLine; decide, fun xp2 xG2 xn2 xt2 xh2 _ => ?_⟩
      have xw2 := xw1.trans xt2
      refine ⟨by show 2 ≤ sizeLine; decide, fun xp3 xG3 xn3 xt3 xh3 _ => ?_⟩
      have xw3 := xw2.trans xt3
      have xk3 : ¬ Kn H xp3 := kn_of (s0.trans xw2) xn3
      refine ⟨Nat.zero_le _, fun xp4 xG4 xn4 xt4 xh4 _ => ?_⟩
      have xw4 := xw3.trans xt4
      refine ⟨by show 7 ≤ sizeLine; decide, fun xp5 xG5 xn5 xt5 xh5 _ => ?_⟩
      have xw5 := xw4.trans xt5
      refine ⟨D, xp5, us, _, rfl, rfl, xw5 _ _ ob.h, xh5, small1000' (by rw [ob.l]; show 4 + 7 ≤ 1000; decide), fun D' G' nD tD hD _ => ?_⟩
      have xu5 := tD
      have xu4 := xt5.trans xu5
      have xu3 := xt4.trans xu4
      have xu2 := xt3.trans xu3
      have xu1 := xt2.trans xu2
      have xu0 := xt1.trans xu1
      exact ⟨D', _, rfl, tD _ _ (xw5 _ _ hz), ob.cat xw5 (.cons (.tup (xu1 _ _ xh1) (.cons (.str _) .nil)) (.cons (.tup (xu2 _ _ xh2) (.cons (.str _) (.cons (.int _) (.cons (.int _) .nil)))) (.cons (.lst (xu3 _ _ xh3) xk3 (.cons (.str _) (.cons (.int _) .nil))) (.cons .non (.cons (.int _) (.cons (.str _) (.cons (.tup (xu4 _ _ xh4) .nil) .nil))))))) (.cons (or_of (by decide +kernel)) (.cons (or_of (by decide +kernel)) (.cons (or_of (by decide +kernel)) (.cons (or_of (by decide +kernel)) (.cons (or_of (by decide +kernel)) (.cons (or_of (by decide +kernel)) (.cons (or_of (by decide +kernel)) .nil))))))) tD hD nD rfl⟩
    clear s0 hz hb ob
    clear G
    rintro σ' G ⟨D, us, rfl, hz, ob⟩
    have s0 := ob.s
    have hb := s0 _ _ hB
    refine Evl.q_cut (M := fun σ' H' => ∃ (D : Addr) (us : List V), σ' = [some (.ref ba), some v, some (.ref z), some (.ref D), none, none, none, none, none, none] ∧ H' z = some (.tup [.str "book", .int 0]) ∧ Ob (Kn H) H H' D us 15) ?_ ?_
    · skip
      have xw0 : Same G G := Same.refl _
      refine ⟨_, rfl, by show 2 ≤ sizeLine; decide, fun xp1 xG1 xn1 xt1 xh1 _ => ?_⟩
      have xw1 := xw0.trans xt1
      refine ⟨_, _, rfl, rfl, ⟨by decide, by decide, by decide⟩, by show 2 ≤ sizeLine; decide, fun xp2 xG2 xn2 xt2 xh2 _ => ?_⟩
      have xw2 := xw1.trans xt2
      refine ⟨by show 1 ≤ sizeLine; decide, fun xp3 xG3 xn3 xt3 xh3 _ => ?_⟩
      have xw3 := xw2.trans xt3
      have xk3 : ¬ Kn H xp3 := kn_of (s0.trans xw2) xn3
      refine ⟨by show 2 ≤ sizeLine; decide, fun xp4 xG4 xn4 xt4 xh4 _ => ?_⟩
      have xw4 := xw3.trans xt4
      refine ⟨by show 4 ≤ sizeLine; decide, fun xp5 xG5 xn5 xt5 xh5 _ => ?_⟩
      have xw5 := xw4.trans xt5
      refine ⟨by show 4 ≤ sizeLine; decide, fun xp6 xG6 xn6 xt6 xh6 _ => ?_⟩
      have xw6 := xw5.trans xt6
      refine ⟨D, xp6, us, _, rfl, rfl, xw6 _ _ ob.h, xh6, small1000' (by rw [ob.l]; show 11 + 4 ≤ 1000; decide), fun D' G' nD tD hD _ => ?_⟩
      have xu6 := tD
      have xu5 := xt6.trans xu6
      have xu4 := xt5.trans xu5
      have xu3 := xt4.trans xu4
      have xu2 := xt3.trans xu3
      have xu1 := xt2.trans xu2
      have xu0 := xt1.trans xu1
      exact ⟨D', _, rfl, tD _ _ (xw6 _ _ hz), ob.cat xw6 (.cons (.tup (xu1 _ _ xh1) (.cons (.str _) (.cons (.int _) .nil))) (.cons (.tup (xu2 _ _ xh2) (.cons (.str _) (.cons (.int _) .nil))) (.cons (.tup (xu4 _ _ xh4) (.cons (.str _) (.cons (.lst (xu3 _ _ xh3) xk3 (.cons (.int _) .nil)) .nil))) (.cons (.tup (xu5 _ _ xh5) (.cons (.str _) (.cons (.int _) (.cons (.int _) (.cons (.int _) .nil))))) .nil)))) (.cons (or_of (by decide +kernel)) (.cons (or_of (by decide +kernel)) (.cons (or_of (by decide +kernel)) (.cons (or_of (by decide +kernel)) .nil)))) tD hD nD rfl⟩
    clear s0 hz hb ob
    clear G
    rintro σ' G ⟨D, us, rfl, hz, ob⟩
    have s0 := ob.s
    have hb := s0 _ _ hB
    refine Evl.q_cut (M := fun σ' H' => ∃ (D : Addr) (us : List V), σ' = [some (.ref ba), some v, some (.ref z), some (.ref D), none, none, none, none, none, none] ∧ H' z = some (.tup [.str "book", .int 0]) ∧ Ob (Kn H) H H' D us 17) ?_ ?_
    · skip
      have xw0 : Same G G := Same.refl _
      refine ⟨_, rfl, _, rfl, _, rfl, by show 4 ≤ sizeLine; decide, fun xp1 xG1 xn1 xt1 xh1 _ => ?_⟩
      have xw1 := xw0.trans xt1
      refine ⟨_, rfl, by show 4 ≤ sizeLine; decide, fun xp2 xG2 xn2 xt2 xh2 _ => ?_⟩
      have xw2 := xw1.trans xt2
      refine ⟨by show 2 ≤ sizeLine; decide, fun xp3 xG3 xn3 xt3 xh3 _ => ?_⟩
      have xw3 := xw2.trans xt3
      refine ⟨D, xp3, us, _, rfl, rfl, xw3 _ _ ob.h, xh3, small1000' (by rw [ob.l]; show 15 + 2 ≤ 1000; decide), fun D' G' nD tD hD _ => ?_⟩
      have xu3 := tD
      have xu2 := xt3.trans xu3
      have xu1 := xt2.trans xu2
      have xu0 := xt1.trans xu1
      exact ⟨D', _, rfl, tD _ _ (xw3 _ _ hz), ob.cat xw3 (.cons (.tup (xu1 _ _ xh1) (.cons (.str _) (.cons (.tup (xu0 _ _ hz) (.cons (.str _) (.cons (.int _) .nil))) (.cons (.tup (xu0 _ _ hz) (.cons (.str _) (.cons (.int _) .nil))) (.cons (.int _) .nil))))) (.cons (.tup (xu2 _ _ xh2) (.cons (.str _) (.cons (.tup (xu0 _ _ hz) (.cons (.str _) (.cons (.int _) .nil))) (.cons .non (.cons (.int _) .nil))))) .nil)) (.cons (or_of (by decide +kernel)) (.cons (or_of (by decide +kernel)) .nil)) tD hD nD rfl⟩
    clear s0 hz hb ob
    clear G
    rintro σ' G ⟨D, us, rfl, hz, ob⟩
    have s0 := ob.s
    have hb := s0 _ _ hB
    refine Evl.q_cut (M := fun σ' H' => ∃ (D : Addr) (us : List V), σ' = [some (.ref ba), some v, some (.ref z), some (.ref D), none, none, none, none, none, none] ∧ H' z = some (.tup [.str "book", .int 0]) ∧ Ob (Kn H) H H' D us 20) ?_ ?_
    · skip
      have xw0 : Same G G := Same.refl _
      refine ⟨_, rfl, Nat.zero_le _, fun xp1 xG1 xn1 xt1 xh1 _ => ?_⟩
      have xw1 := xw0.trans xt1
      have xk1 : ¬ Kn H xp1 := kn_of (s0.trans xw0) xn1
      refine ⟨by show 2 ≤ sizeLine; decide, fun xp2 xG2 xn2 xt2 xh2 _ => ?_⟩
      have xw2 := xw1.trans xt2
      refine ⟨by show 2 ≤ sizeLine; decide, fun xp3 xG3 xn3 xt3 xh3 _ => ?_⟩
      have xw3 := xw2.trans xt3
      refine ⟨_, rfl, by show 2 ≤ sizeLine; decide, fun xp4 xG4 xn4 xt4 xh4 _ => ?_⟩
      have xw4 := xw3.trans xt4
      refine ⟨by show 3 ≤ sizeLine; decide, fun xp5 xG5 xn5 xt5 xh5 _ => ?_⟩
      have xw5 := xw4.trans xt5
      refine ⟨D, xp5, us, _, rfl, rfl, xw5 _ _ ob.h, xh5, small1000' (by rw [ob.l]; show 17 + 3 ≤ 1000; decide), fun D' G' nD tD hD _ => ?_⟩
      have xu5 := tD
      have xu4 := xt5.trans xu5
      have xu3 := xt4.trans xu4
      have xu2 := xt3.trans xu3
      have xu1 := xt2.trans xu2
      have xu0 := xt1.trans xu1
      exact ⟨D', _, rfl, tD _ _ (xw5 _ _ hz), ob.cat xw5 (.cons (.tup (xu2 _ _ xh2) (.cons (.lst (xu1 _ _ xh1) xk1 .nil) (.cons (.int _) .nil))) (.cons (.tup (xu3 _ _ xh3) (.cons (.str _) (.cons (.int _) .nil))) (.cons (.tup (xu4 _ _ xh4) (.cons (.str _) (.cons (.int _) .nil))) .nil))) (.cons (or_of (by decide +kernel)) (.cons (or_of (by decide +kernel)) (.cons (or_of (by decide +kernel)) .nil))) tD hD nD rfl⟩
    clear s0 hz hb ob
    clear G
    rintro σ' G ⟨D, us, rfl, hz, ob⟩
    have s0 := ob.s
    have hb := s0 _ _ hB
    -- claims of the book
    refine Evl.q_cut (M := fun σ' H' => ∃ (D : Addr) (us : List V), σ' = [some (.ref ba), some v, some (.ref z), some (.ref D), none, none, none, none, none, none] ∧ H' z = some (.tup [.str "book", .int 0]) ∧ Ob (Kn H) H H' D us (20 + bvs.length)) ?_ ?_
    · refine ⟨_, rfl, _, rfl, ba, _, rfl, .inr (.of hb), ((bvs.length : Nat) : Int), rfl, by omega, by omega, fun Z nZ => ?_⟩
      refine lc_range (n := ((bvs.length : Nat) : Int).toNat) (Pv := fun t H' => ∃ (vs : List V) (ds : List PyData), Same G H' ∧ H' Z = some (.lst vs) ∧ OdAll (fun _ => True) H' vs ds ∧ AllD Or ds ∧ vs.length = t) ⟨[], [], same_new nZ, upd_same, .nil, .nil, rfl⟩ ?_ ?_
      · rintro t H2 ht ⟨vs, ds, s2, hZ, oZ, aZ, lZ⟩
        have ht : t < ((bvs.length : Nat) : Int).toNat := ht
        refine ⟨rfl, _, rfl, by show 2 ≤ sizeLine; decide, fun p H5 np s5 hp _ => ?_⟩
        have hZ5 := s5 _ _ hZ
        refine ⟨_, hZ5, small1000' (by omega), vs ++ [.ref p], ds ++ [.tuple [.str "book", .int (0 + (t : Int))]], fun b o e => ?_, upd_same, ((oZ.ke (.same s5)).cat (.one (.tup hp (.cons (.str _) (.cons (.int _) .nil))))).ke (ke_any hZ5), aZ.cat (.cons (or_t (.cons (im_of (by decide +kernel)) (.cons (im_int (by omega) (by omega)) .nil)) (by show 2 ≤ 6; decide)) .nil), by rw [List.length_append, lZ]; rfl⟩
        rw [upd_ne (ne_of_none e nZ)]
        exact (s2.trans s5) _ _ e
      · rintro H2 ⟨vs, ds, s2, hZ, oZ, aZ, lZ⟩
        have lZ : vs.length = bvs.length := by rw [lZ]; exact Int.toNat_natCast _
        refine ⟨D, Z, us, _, rfl, rfl, s2 _ _ ob.h, hZ, small1000' (by rw [ob.l, lZ]; omega), fun D' G' nD tD hD _ => ?_⟩
        exact ⟨D', _, rfl, tD _ _ (s2 _ _ hz), ob.cat s2 ((oZ.un fun b z => trivial).ke (.same tD)) aZ tD hD nD lZ⟩
    clear s0 hz hb ob
    clear G us D
    rintro σ' G ⟨D, us, rfl, hz, ob⟩
    have s0 := ob.s
    have hb := s0 _ _ hB
    generalize hN : 20 + bvs.length = N at ob
    -- and of cuts
    refine Evl.q_cut (M := fun σ' H' => ∃ (y4 y5 y6 y7 y8 y9 : Option V) (D : Addr) (us : List V) (N : Nat), σ' = [some (.ref ba), some v, some (.ref z), some (.ref D), y4, y5, y6, y7, y8, y9] ∧ Ob (Kn H) H H' D us N ∧ N ≤ 80) ?_ ?_
    · cases t with
      | leaf n =>
        obtain ⟨a, rfl, ha⟩ := atS s0 hT
        refine ⟨_, rfl, a, _, 0, .str "book", rfl, rfl, .of ha, rfl, rfl, false, by simp; decide, ?_⟩
        exact ⟨_, _, _, _, _, _, D, us, _, rfl, ob, by omega⟩
      | cut tl tr k =>
        obtain ⟨a, x, y, rfl, hA, h1, h2⟩ := id hT
        obtain ⟨nb1, nb2, k1, k8⟩ := nb
        have dp : 1 + max tl.depth tr.depth ≤ 6 := dp
        have imA : Im (datT tl) := by
          have p := pieces_depth (t := tl)
          have g : 2 ^ tl.depth ≤ 2 ^ 5 := Nat.pow_le_pow_right (by decide) (by omega)
          exact (ot_tree nb1).mono (by omega) (by omega)
        have imB : Im (datT tr) := by
          have p := pieces_depth (t := tr)
          have g : 2 ^ tr.depth ≤ 2 ^ 5 := Nat.pow_le_pow_right (by decide) (by omega)
          exact (ot_tree nb2).mono (by omega) (by omega)
        have oB : Ot 930 5 (datT tr) := by
          have p := pieces_depth (t := tr)
          have g : 2 ^ tr.depth ≤ 2 ^ 5 := Nat.pow_le_pow_right (by decide) (by omega)
          exact (ot_tree nb2).mono (by omega) (by omega)
        have ha := s0 _ _ hA
        refine ⟨_, rfl, a, _, 0, .str "cut", rfl, rfl, .of ha, rfl, rfl, true, by simp, ?_⟩
        -- one, other, k
        refine Evl.q_cut (M := fun σ' H' => ∃ (y4 y9 : Option V), σ' = [some (.ref ba), some (.ref a), some (.ref z), some (.ref D), y4, some x, some y, some (.int k), none, y9] ∧ H' z = some (.tup [.str "book", .int 0]) ∧ Ob (Kn H) H H' D us N) ?_ ?_
        · refine ⟨_, rfl, 1, rfl, a, _, rfl, ha, fun p G t h => ?_⟩
          rw [cutC] at h
          exact ⟨p, _, rfl, .of h, rfl, _, _, rfl, _, _, rfl, _, _, rfl, rfl, none, none, rfl, t _ _ hz, ob.same t⟩
        clear s0 hz hb ob ha
        clear G
        rintro σ' G ⟨y4, y9, rfl, hz, ob⟩
        have s0 := ob.s
        have hb := s0 _ _ hB
        have ha := s0 _ _ hA
        -- words
        refine Evl.q_cut (M := fun σ' H' => ∃ (W : Addr) (ws : List V) (es : List PyData), σ' = [some (.ref ba), some (.ref a), some (.ref z), some (.ref D), y4, some x, some y, some (.int k), some (.ref W), y9] ∧ Same G H' ∧ H' W = some (.lst ws) ∧ OdAll (Kn H) H' ws es ∧ AllD Im es ∧ ws.length = 7) ?_ ?_
        · skip
          have yw0 : Same G G := Same.refl _
          refine ⟨by show 1 ≤ sizeLine; decide, fun yp1 yG1 yn1 yt1 yh1 _ => ?_⟩
          have yw1 := yw0.trans yt1
          have yk1 : ¬ Kn H yp1 := kn_of (s0.trans yw0) yn1
          refine ⟨by show 1 ≤ sizeLine; decide, fun yp2 yG2 yn2 yt2 yh2 _ => ?_⟩
          have yw2 := yw1.trans yt2
          refine ⟨by show 7 ≤ sizeLine; decide, fun yp3 yG3 yn3 yt3 yh3 _ => ?_⟩
          have yw3 := yw2.trans yt3
          have yu3 := (Same.refl yG3)
          have yu2 := yt3.trans yu3
          have yu1 := yt2.trans yu2
          have yu0 := yt1.trans yu1
          exact ⟨yp3, _, [.str "Cut", .str "cuts", .str "", .int 0, .none, .list [.str "cut"], .tuple [.str "cut"]], rfl, yw3, yh3, (.cons (.str _) (.cons (.str _) (.cons (.str _) (.cons (.int _) (.cons .non (.cons (.lst (yu1 _ _ yh1) yk1 (.cons (.str _) .nil)) (.cons (.tup (yu2 _ _ yh2) (.cons (.str _) .nil)) .nil))))))), .cons (im_of (by decide +kernel)) (.cons (im_of (by decide +kernel)) (.cons (im_of (by decide +kernel)) (.cons (im_of (by decide +kernel)) (.cons (im_of (by decide +kernel)) (.cons (im_of (by decide +kernel)) (.cons (im_of (by decide +kernel)) .nil)))))), rfl⟩
        rintro σ' G1 ⟨W, ws, es, rfl, s1, hW, oW, iW, lW⟩
        have ob1 := ob.same s1
        have hz1 := s1 _ _ hz
        clear ob s0 ha hz hb
        have s0 := ob1.s
        have ha := s0 _ _ hA
        refine Evl.q_cut (M := fun σ' H' => ∃ (y9 : Option V) (D : Addr) (us : List V), σ' = [some (.ref ba), some (.ref a), some (.ref z), some (.ref D), y4, some x, some y, some (.int k), some (.ref W), y9] ∧ H' z = some (.tup [.str "book", .int 0]) ∧ Ob (Kn H) H H' D us (N + 7)) ?_ ?_
        · refine ⟨_, rfl, _, rfl, W, rfl, ⟨_, .of hW⟩, fun Z nZ => ?_⟩
          refine lc_list (xs := ws) (Pv := fun t H' => ∃ (vs : List V) (ds : List PyData), Same G1 H' ∧ H' Z = some (.lst vs) ∧ OdAll (fun b => Kn H b ∨ b = Z) H' vs ds ∧ AllD Or ds ∧ vs.length = t) ⟨[], [], same_new nZ, upd_same, .nil, .nil, rfl⟩ (fun t H' _ p => ?_) ?_ ?_
          · obtain ⟨_, _, s2, _⟩ := p
            exact .of (s2 _ _ hW)
          · rintro t wv H2 hx ⟨vs, ds, s2, hZ, oZ, aZ, lZ⟩
            have lt := (List.getElem?_eq_some_iff.mp hx).1
            obtain ⟨d, hd, ox⟩ := (OdAll.fresh nZ oW).at hx
            have imd := iW.mem d (List.mem_of_getElem? hd)
            refine ⟨rfl, _, rfl, by show 1 ≤ sizeLine; decide, fun p H5 np s5 hp _ => ?_⟩
            have ha5 := (s2.trans s5) _ _ ha
            refine ⟨_, rfl, 1, rfl, a, _, rfl, ha5, fun p2 H6 s6 hp2 => ?_⟩
            rw [cutC] at hp2
            refine ⟨p, p2, _, _, rfl, rfl, s6 _ _ hp, hp2, by show 4 ≤ sizeLine; decide, fun p3 H7 s7 hp3 => ?_⟩
            have s27 := s5.trans (s6.trans s7)
            have hZ7 := s27 _ _ hZ
            have s07 := s0.trans (s2.trans s27)
            have kw : Ke (fun b => Kn H b ∨ b = Z) H7 (upd H7 Z (.lst (vs ++ [.ref p3]))) := ke_wrG (.inr rfl) hZ7
            have hp3 : H7 p3 = some (.tup [wv, x, y, .int k]) := hp3
            refine ⟨_, hZ7, small1000' (by omega), vs ++ [.ref p3], ds ++ [.tuple [d, datT tl, datT tr, .int k]], fun b o e => ?_, upd_same, ((oZ.ke (.same s27)).cat (.one (.tup hp3 (.cons (ox.ke (.same (s2.trans s27))) (.cons (od_of_at (atS s07 h1)) (.cons (od_of_at (atS s07 h2)) (.cons (.int _) .nil))))))).ke kw, aZ.cat (.cons (or_t (.cons imd (.cons imA (.cons imB (.cons (im_int (by omega) (by omega)) .nil)))) (by show 4 ≤ 6; decide)) .nil), by rw [List.length_append, lZ]; rfl⟩
            rw [upd_ne (ne_of_none e nZ)]
            exact (s2.trans s27) _ _ e
          · rintro H2 ⟨vs, ds, s2, hZ, oZ, aZ, lZ⟩
            refine ⟨D, Z, us, _, rfl, rfl, s2 _ _ ob1.h, hZ, small1000' (by rw [ob1.l, lZ, lW]; omega), fun D' G' nD tD hD _ => ?_⟩
            exact ⟨_, D', _, rfl, tD _ _ (s2 _ _ hz1), ob1.cat s2 ((oZ.un fun b z => .inl z).ke (.same tD)) aZ tD hD nD (by rw [lZ, lW])⟩
        clear ob1 s0 ha hW oW iW lW s1 hz1
        clear G y9 us D ws
        rintro σ' G ⟨y9, D, us, rfl, hz, ob⟩
        have s0 := ob.s
        have hb := s0 _ _ hB
        have ha := s0 _ _ hA
        clear G1
        have nN : N ≤ 40 := by omega
        clear hN
        generalize hN' : N + 7 = N' at ob
        have nN' : N' ≤ 47 := by omega
        clear hN' nN
        clear N
        revert N'
        intro N ob nN
        refine Evl.q_cut (M := fun σ' H' => ∃ (D : Addr) (us : List V), σ' = [some (.ref ba), some (.ref a), some (.ref z), some (.ref D), y4, some x, some y, some (.int k), some (.ref W), y9] ∧ H' z = some (.tup [.str "book", .int 0]) ∧ Ob (Kn H) H H' D us (N + 2)) ?_ ?_
        · skip
          have xw0 : Same G G := Same.refl _
          refine ⟨_, rfl, _, rfl, _, rfl, _, rfl, by show 4 ≤ sizeLine; decide, fun xp1 xG1 xn1 xt1 xh1 _ => ?_⟩
          have xw1 := xw0.trans xt1
          refine ⟨_, rfl, _, rfl, _, rfl, _, _, rfl, rfl, by show 4 ≤ sizeLine; decide, fun xp2 xG2 xn2 xt2 xh2 _ => ?_⟩
          have xw2 := xw1.trans xt2
          refine ⟨by show 2 ≤ sizeLine; decide, fun xp3 xG3 xn3 xt3 xh3 _ => ?_⟩
          have xw3 := xw2.trans xt3
          refine ⟨D, xp3, us, _, rfl, rfl, xw3 _ _ ob.h, xh3, small1000' (by rw [ob.l]; show N + 0 + 2 ≤ 1000; omega), fun D' G' nD tD hD _ => ?_⟩
          have xu3 := tD
          have xu2 := xt3.trans xu3
          have xu1 := xt2.trans xu2
          have xu0 := xt1.trans xu1
          exact ⟨D', _, rfl, tD _ _ (xw3 _ _ hz), ob.cat xw3 (.cons (.tup (xu1 _ _ xh1) (.cons (.str _) (.cons (od_of_at (atS (s0.trans xu0) h2)) (.cons (od_of_at (atS (s0.trans xu0) h1)) (.cons (.int _) .nil))))) (.cons (.tup (xu2 _ _ xh2) (.cons (.str _) (.cons (od_of_at (atS (s0.trans xu0) h2)) (.cons (od_of_at (atS (s0.trans xu0) h1)) (.cons (.int _) .nil))))) .nil)) (.cons (or_t (.cons (im_of (by decide +kernel)) (.cons imB (.cons imA (.cons (im_int (by omega) (by omega)) .nil)))) (by show 4 ≤ 6; decide)) (.cons (or_t (.cons (im_of (by decide +kernel)) (.cons imB (.cons imA (.cons (im_int (by omega) (by omega)) .nil)))) (by show 4 ≤ 6; decide)) .nil)) tD hD nD rfl⟩
        clear s0 hz hb ob
        clear ha
        clear G
        rintro σ' G ⟨D, us, rfl, hz, ob⟩
        have s0 := ob.s
        have hb := s0 _ _ hB
        have ha := s0 _ _ hA
        refine Evl.q_cut (M := fun σ' H' => ∃ (D : Addr) (us : List V), σ' = [some (.ref ba), some (.ref a), some (.ref z), some (.ref D), y4, some x, some y, some (.int k), some (.ref W), y9] ∧ H' z = some (.tup [.str "book", .int 0]) ∧ Ob (Kn H) H H' D us (N + 4)) ?_ ?_
        · skip
          have xw0 : Same G G := Same.refl _
          refine ⟨_, rfl, _, rfl, _, rfl, _, rfl, _, _, rfl, rfl, by show 4 ≤ sizeLine; decide, fun xp1 xG1 xn1 xt1 xh1 _ => ?_⟩
          have xw1 := xw0.trans xt1
          refine ⟨_, rfl, _, rfl, _, rfl, by show 4 ≤ sizeLine; decide, fun xp2 xG2 xn2 xt2 xh2 _ => ?_⟩
          have xw2 := xw1.trans xt2
          refine ⟨by show 2 ≤ sizeLine; decide, fun xp3 xG3 xn3 xt3 xh3 _ => ?_⟩
          have xw3 := xw2.trans xt3
          refine ⟨D, xp3, us, _, rfl, rfl, xw3 _ _ ob.h, xh3, small1000' (by rw [ob.l]; show N + 2 + 2 ≤ 1000; omega), fun D' G' nD tD hD _ => ?_⟩
          have xu3 := tD
          have xu2 := xt3.trans xu3
          have xu1 := xt2.trans xu2
          have xu0 := xt1.trans xu1
          exact ⟨D', _, rfl, tD _ _ (xw3 _ _ hz), ob.cat xw3 (.cons (.tup (xu1 _ _ xh1) (.cons (.str _) (.cons (od_of_at (atS (s0.trans xu0) h1)) (.cons (od_of_at (atS (s0.trans xu0) h2)) (.cons (.int _) .nil))))) (.cons (.tup (xu2 _ _ xh2) (.cons (.str _) (.cons (od_of_at (atS (s0.trans xu0) h1)) (.cons (od_of_at (atS (s0.trans xu0) h1)) (.cons (.int _) .nil))))) .nil)) (.cons (or_t (.cons (im_of (by decide +kernel)) (.cons imA (.cons imB (.cons (im_int (by omega) (by omega)) .nil)))) (by show 4 ≤ 6; decide)) (.cons (or_t (.cons (im_of (by decide +kernel)) (.cons imA (.cons imA (.cons (im_int (by omega) (by omega)) .nil)))) (by show 4 ≤ 6; decide)) .nil)) tD hD nD rfl⟩
        clear s0 hz hb ob
        clear ha
        clear G
        rintro σ' G ⟨D, us, rfl, hz, ob⟩
        have s0 := ob.s
        have hb := s0 _ _ hB
        have ha := s0 _ _ hA
        refine Evl.q_cut (M := fun σ' H' => ∃ (D : Addr) (us : List V), σ' = [some (.ref ba), some (.ref a), some (.ref z), some (.ref D), y4, some x, some y, some (.int k), some (.ref W), y9] ∧ H' z = some (.tup [.str "book", .int 0]) ∧ Ob (Kn H) H H' D us (N + 7)) ?_ ?_
        · skip
          have xw0 : Same G G := Same.refl _
          refine ⟨_, rfl, _, rfl, 3, rfl, a, _, rfl, ha, fun xp1 xG1 xt1 xh1 => ?_⟩
          have xw1 := xw0.trans xt1
          rw [cutA] at xh1
          refine ⟨_, rfl, _, _, rfl, rfl, by show (0 : Int) < 8; decide, _, _, rfl, rfl, by show 1 ≤ sizeLine; decide, fun xp2 xG2 xn2 xt2 xh2 _ => ?_⟩
          have xw2 := xw1.trans xt2
          refine ⟨xp1, xp2, _, _, rfl, rfl, (xt2 _ _ xh1), xh2, by show 4 ≤ sizeLine; decide, fun xp3 xG3 xt3 xh3 => ?_⟩
          have xw3 := xw2.trans xt3
          have xh3 : xG3 xp3 = some (.tup [.str "cut", x, y, .int ((k % (8 : Int)) + (1 : Int))]) := xh3
          refine ⟨_, rfl, a, _, rfl, .inr (.of (xw3 _ _ ha)), fun xp4 xG4 xn4 xt4 xh4 _ => ?_⟩
          have xw4 := xw3.trans xt4
          have xk4 : ¬ Kn H xp4 := kn_of (s0.trans xw3) xn4
          refine ⟨_, rfl, 3, rfl, a, _, rfl, (xw4 _ _ ha), fun xp5 xG5 xt5 xh5 => ?_⟩
          have xw5 := xw4.trans xt5
          rw [cutA] at xh5
          refine ⟨by show 3 ≤ sizeLine; decide, fun xp6 xG6 xn6 xt6 xh6 _ => ?_⟩
          have xw6 := xw5.trans xt6
          refine ⟨D, xp6, us, _, rfl, rfl, xw6 _ _ ob.h, xh6, small1000' (by rw [ob.l]; show N + 4 + 3 ≤ 1000; omega), fun D' G' nD tD hD _ => ?_⟩
          have xu6 := tD
          have xu5 := xt6.trans xu6
          have xu4 := xt5.trans xu5
          have xu3 := xt4.trans xu4
          have xu2 := xt3.trans xu3
          have xu1 := xt2.trans xu2
          have xu0 := xt1.trans xu1
          exact ⟨D', _, rfl, tD _ _ (xw6 _ _ hz), ob.cat xw6 (.cons (.tup (xu3 _ _ xh3) (.cons (.str _) (.cons (od_of_at (atS (s0.trans xu0) h1)) (.cons (od_of_at (atS (s0.trans xu0) h2)) (.cons (.int _) .nil))))) (.cons (.lst (xu4 _ _ xh4) xk4 (.cons (.str _) (.cons (od_of_at (atS (s0.trans xu0) h1)) (.cons (od_of_at (atS (s0.trans xu0) h2)) (.cons (.int _) .nil))))) (.cons (.tup (xu5 _ _ xh5) (.cons (.str _) (.cons (od_of_at (atS (s0.trans xu0) h1)) (.cons (od_of_at (atS (s0.trans xu0) h2)) .nil)))) .nil))) (.cons (or_t (.cons (im_of (by decide +kernel)) (.cons imA (.cons imB (.cons (im_int (by omega) (by omega)) .nil)))) (by show 4 ≤ 6; decide)) (.cons (or_l (.cons (im_of (by decide +kernel)) (.cons imA (.cons imB (.cons (im_int (by omega) (by omega)) .nil)))) (by show 4 ≤ 6; decide)) (.cons (or_t (.cons (im_of (by decide +kernel)) (.cons imA (.cons imB .nil))) (by show 3 ≤ 6; decide)) .nil))) tD hD nD rfl⟩
        clear s0 hz hb ob
        clear ha
        clear G
        rintro σ' G ⟨D, us, rfl, hz, ob⟩
        have s0 := ob.s
        have hb := s0 _ _ hB
        have ha := s0 _ _ hA
        refine Evl.q_cut (M := fun σ' H' => ∃ (D : Addr) (us : List V), σ' = [some (.ref ba), some (.ref a), some (.ref z), some (.ref D), y4, some x, some y, some (.int k), some (.ref W), y9] ∧ H' z = some (.tup [.str "book", .int 0]) ∧ Ob (Kn H) H H' D us (N + 10)) ?_ ?_
        · skip
          have xw0 : Same G G := Same.refl _
          refine ⟨_, rfl, _, rfl, _, rfl, by show 1 ≤ sizeLine; decide, fun xp1 xG1 xn1 xt1 xh1 _ => ?_⟩
          have xw1 := xw0.trans xt1
          refine ⟨a, xp1, _, _, rfl, rfl, (xw1 _ _ ha), xh1, by show 5 ≤ sizeLine; decide, fun xp2 xG2 xt2 xh2 => ?_⟩
          have xw2 := xw1.trans xt2
          have xh2 : xG2 xp2 = some (.tup [.str "cut", x, y, .int k, .int k]) := xh2
          refine ⟨by show 1 ≤ sizeLine; decide, fun xp3 xG3 xn3 xt3 xh3 _ => ?_⟩
          have xw3 := xw2.trans xt3
          refine ⟨_, rfl, 1, rfl, a, _, rfl, (xw3 _ _ ha), fun xp4 xG4 xt4 xh4 => ?_⟩
          have xw4 := xw3.trans xt4
          rw [cutC] at xh4
          refine ⟨xp3, xp4, _, _, rfl, rfl, (xt4 _ _ xh3), xh4, by show 4 ≤ sizeLine; decide, fun xp5 xG5 xt5 xh5 => ?_⟩
          have xw5 := xw4.trans xt5
          have xh5 : xG5 xp5 = some (.tup [.str "book", x, y, .int k]) := xh5
          refine ⟨_, rfl, 3, rfl, a, _, rfl, (xw5 _ _ ha), fun xp6 xG6 xt6 xh6 => ?_⟩
          have xw6 := xw5.trans xt6
          rw [cutA] at xh6
          refine ⟨_, rfl, rfl, by show 1 ≤ sizeLine; decide, fun xp7 xG7 xn7 xt7 xh7 _ => ?_⟩
          have xw7 := xw6.trans xt7
          refine ⟨xp6, xp7, _, _, rfl, rfl, (xt7 _ _ xh6), xh7, by show 4 ≤ sizeLine; decide, fun xp8 xG8 xt8 xh8 => ?_⟩
          have xw8 := xw7.trans xt8
          have xh8 : xG8 xp8 = some (.tup [.str "cut", x, y, .bl (decide (V.int k = V.int (1 : Int)))]) := xh8
          refine ⟨by show 3 ≤ sizeLine; decide, fun xp9 xG9 xn9 xt9 xh9 _ => ?_⟩
          have xw9 := xw8.trans xt9
          refine ⟨D, xp9, us, _, rfl, rfl, xw9 _ _ ob.h, xh9, small1000' (by rw [ob.l]; show N + 7 + 3 ≤ 1000; omega), fun D' G' nD tD hD _ => ?_⟩
          have xu9 := tD
          have xu8 := xt9.trans xu9
          have xu7 := xt8.trans xu8
          have xu6 := xt7.trans xu7
          have xu5 := xt6.trans xu6
          have xu4 := xt5.trans xu5
          have xu3 := xt4.trans xu4
          have xu2 := xt3.trans xu3
          have xu1 := xt2.trans xu2
          have xu0 := xt1.trans xu1
          exact ⟨D', _, rfl, tD _ _ (xw9 _ _ hz), ob.cat xw9 (.cons (.tup (xu2 _ _ xh2) (.cons (.str _) (.cons (od_of_at (atS (s0.trans xu0) h1)) (.cons (od_of_at (atS (s0.trans xu0) h2)) (.cons (.int _) (.cons (.int _) .nil)))))) (.cons (.tup (xu5 _ _ xh5) (.cons (.str _) (.cons (od_of_at (atS (s0.trans xu0) h1)) (.cons (od_of_at (atS (s0.trans xu0) h2)) (.cons (.int _) .nil))))) (.cons (.tup (xu8 _ _ xh8) (.cons (.str _) (.cons (od_of_at (atS (s0.trans xu0) h1)) (.cons (od_of_at (atS (s0.trans xu0) h2)) (.cons (.bl _) .nil))))) .nil))) (.cons (or_t (.cons (im_of (by decide +kernel)) (.cons imA (.cons imB (.cons (im_int (by omega) (by omega)) (.cons (im_int (by omega) (by omega)) .nil))))) (by show 5 ≤ 6; decide)) (.cons (or_t (.cons (im_of (by decide +kernel)) (.cons imA (.cons imB (.cons (im_int (by omega) (by omega)) .nil)))) (by show 4 ≤ 6; decide)) (.cons (or_t (.cons (im_of (by decide +kernel)) (.cons imA (.cons imB (.cons (im_bool _) .nil)))) (by show 4 ≤ 6; decide)) .nil))) tD hD nD rfl⟩
        clear s0 hz hb ob
        clear ha
        clear G
        rintro σ' G ⟨D, us, rfl, hz, ob⟩
        have s0 := ob.s
        have hb := s0 _ _ hB
        have ha := s0 _ _ hA
        refine Evl.q_cut (M := fun σ' H' => ∃ (D : Addr) (us : List V), σ' = [some (.ref ba), some (.ref a), some (.ref z), some (.ref D), y4, some x, some y, some (.int k), some (.ref W), y9] ∧ H' z = some (.tup [.str "book", .int 0]) ∧ Ob (fun b => Kn H b ∨ b = D) H H' D us (N + 12)) ?_ ?_
        · skip
          have xw0 : Same G G := Same.refl _
          refine ⟨_, rfl, _, rfl, 3, rfl, a, _, rfl, ha, fun xp1 xG1 xt1 xh1 => ?_⟩
          have xw1 := xw0.trans xt1
          rw [cutA] at xh1
          refine ⟨by show 1 ≤ sizeLine; decide, fun xp2 xG2 xn2 xt2 xh2 _ => ?_⟩
          have xw2 := xw1.trans xt2
          refine ⟨xp1, xp2, _, _, rfl, rfl, (xt2 _ _ xh1), xh2, by show 4 ≤ sizeLine; decide, fun xp3 xG3 xt3 xh3 => ?_⟩
          have xw3 := xw2.trans xt3
          have xh3 : xG3 xp3 = some (.tup [.str "cut", x, y, .non]) := xh3
          refine ⟨_, rfl, 3, rfl, a, _, rfl, (xw3 _ _ ha), fun xp4 xG4 xt4 xh4 => ?_⟩
          have xw4 := xw3.trans xt4
          rw [cutA] at xh4
          refine ⟨_, rfl, _, rfl, log_lt (by omega), by show 1 ≤ sizeLine; decide, fun xp5 xG5 xn5 xt5 xh5 _ => ?_⟩
          have xw5 := xw4.trans xt5
          refine ⟨xp4, xp5, _, _, rfl, rfl, (xt5 _ _ xh4), xh5, by show 4 ≤ sizeLine; decide, fun xp6 xG6 xt6 xh6 => ?_⟩
          have xw6 := xw5.trans xt6
          have xh6 : xG6 xp6 = some (.tup [.str "cut", x, y, .str (toString k)]) := xh6
          refine ⟨by show 2 ≤ sizeLine; decide, fun xp7 xG7 xn7 xt7 xh7 _ => ?_⟩
          have xw7 := xw6.trans xt7
          refine ⟨D, xp7, us, _, rfl, rfl, xw7 _ _ ob.h, xh7, small1000' (by rw [ob.l]; show N + 10 + 2 ≤ 1000; omega), fun D' G' nD tD hD _ => ?_⟩
          have xu7 := tD
          have xu6 := xt7.trans xu7
          have xu5 := xt6.trans xu6
          have xu4 := xt5.trans xu5
          have xu3 := xt4.trans xu4
          have xu2 := xt3.trans xu3
          have xu1 := xt2.trans xu2
          have xu0 := xt1.trans xu1
          exact ⟨D', _, rfl, tD _ _ (xw7 _ _ hz), ob.catF xw7 (.cons (.tup (xu3 _ _ xh3) (.cons (.str _) (.cons (od_of_at (atS (s0.trans xu0) h1)) (.cons (od_of_at (atS (s0.trans xu0) h2)) (.cons .non .nil))))) (.cons (.tup (xu6 _ _ xh6) (.cons (.str _) (.cons (od_of_at (atS (s0.trans xu0) h1)) (.cons (od_of_at (atS (s0.trans xu0) h2)) (.cons (.str _) .nil))))) .nil)) (.cons (or_t (.cons (im_of (by decide +kernel)) (.cons imA (.cons imB (.cons (im_of (by decide +kernel)) .nil)))) (by show 4 ≤ 6; decide)) (.cons (or_t (.cons (im_of (by decide +kernel)) (.cons imA (.cons imB (.cons (im_txt (by omega) (by omega)) .nil)))) (by show 4 ≤ 6; decide)) .nil)) tD hD nD rfl⟩
        clear s0 hz hb ob
        clear ha
        clear G
        rintro σ' G ⟨D, us, rfl, hz, ob⟩
        have s0 := ob.s
        have hb := s0 _ _ hB
        have ha := s0 _ _ hA
        -- the last
        obtain ⟨ds, od, al⟩ := ob.od
        refine ⟨_, rfl, .inl ⟨rfl, _, .of ob.h⟩, _, rfl, _, rfl, by show 1 ≤ sizeLine; decide, fun p1 G1 n1 t1 q1 _ => ?_⟩
        refine ⟨_, rfl, by show 4 ≤ sizeLine; decide, fun p2 G2 n2 t2 q2 _ => ?_⟩
        have t12 := t1.trans t2
        have hD2 := t12 _ _ ob.h
        have s02 := s0.trans t12
        refine ⟨D, _, _, rfl, rfl, hD2, small1000' (by rw [ob.l]; omega), ?_⟩
        refine ⟨_, _, _, _, _, _, D, us ++ [.ref p2], _, rfl, ⟨fun b o e => ?_, ob.n, upd_same, ⟨ds ++ [.tuple [.str "cut", datT tl, .list [datT tr], .int k]], ?_, ?_⟩, rfl⟩, ?_⟩
        · rw [upd_ne (ne_of_none e ob.n)]
          exact s02 _ _ e
        · refine OdAll.un (f := fun b => Kn H b ∨ b = D) (fun b z => .inl z) (OdAll.ke (ke_wrG (.inr rfl) hD2) ((od.ke (.same t12)).cat (.one (.tup q2 (.cons (.str _) (.cons (od_of_at (atS s02 h1)) (.cons (.lst (t2 _ _ q1) (fun z => z.elim (kn_of s0 n1) fun z => ne_of_none ob.h n1 z.symm) (.cons (od_of_at (atS s02 h2)) .nil)) (.cons (.int _) .nil))))))))
        · exact al.cat (.cons (or_t (.cons (im_of (by decide +kernel)) (.cons imA (.cons (OtAll.lst (.cons (oB.mono (Nat.le_refl _) (by decide)) .nil) (by show 930 + 0 + 2 * 1 + 13 ≤ 960; decide) (Nat.le_refl _)) (.cons (im_int (by omega) (by omega)) .nil)))) (by show 4 ≤ 6; decide)) .nil)
        · rw [List.length_append, ob.l]
          show _ + 1 ≤ 80
          omega
    rintro σ' G1 ⟨y4, y5, y6, y7, y8, y9, D, us, N, rfl, ob, n80⟩
    exact ⟨_, rfl, q D us N G1 ob n80⟩
end
end Tj
namespace Tj
open PySem PySem.Spec PyProof.Rows L2 GxR Nw Dr Kp Se Ct Lr Lp Od Og Ta
open Tr (T At)
/-! ### a thing put into a tree (k20) -/
def wi (b : Bool) : Int := if b then 2 else 1
def Way : T → List Bool → T → Prop
  | t, [], s => s = t
  | .cut t u _, b :: w, s => Way (if b then u else t) w s
  | .leaf _, _ :: _, _ => False
def putD : T → List Bool → PyData → PyData
  | _, [], d => d
  | .cut t u k, true :: w, d => .tuple [.str "cut", datT t, putD u w d, .int k]
  | .cut t u k, false :: w, d => .tuple [.str "cut", putD t w d, datT u, .int k]
  | .leaf _, _ :: _, d => d
theorem way_snoc : ∀ {t : T} {w : List Bool} {x y : T} {k : Int} (b : Bool), Way t w (.cut x y k) → Way t (w ++ [b]) (if b then y else x)
  | t, [], x, y, k, b, h => by
    have h : T.cut x y k = t := h
    subst h
    show Way (if b then y else x) [] _
    rfl
  | .cut t u j, c :: w, x, y, k, b, h => way_snoc (t := if c then u else t) b h
  | .leaf _, _ :: _, _, _, _, _, h => h.elim
theorem way_sub : ∀ {t : T} {w : List Bool} {s : T}, Way t w s → Nb t → Nb s ∧ s.depth + w.length ≤ t.depth
  | t, [], s, h, nb => by
    have h : s = t := h
    subst h
    exact ⟨nb, Nat.le_refl _⟩
  | .cut t u k, c :: w, s, h, nb => by
    obtain ⟨n1, n2, _⟩ := nb
    have h : Way (if c then u else t) w s := h
    have := way_sub (t := if c then u else t) h (by split <;> assumption)
    refine ⟨this.1, ?_⟩
    have l := this.2
    have : (if c then u else t).depth ≤ max t.depth u.depth := by split <;> omega
    show s.depth + (w.length + 1) ≤ 1 + max t.depth u.depth
    omega
  | .leaf _, _ :: _, _, h, _ => h.elim
theorem ot_put : ∀ {t : T} {w : List Bool} {s : T} {d : PyData} {B D : Nat}, Way t w s → Nb t → Ot B D d → t.depth ≤ D → Ot (B + 30 * t.pieces) (D + w.length) (putD t w d)
  | t, [], s, d, B, D, h, nb, o, l => by
    cases t <;> exact o.mono (Nat.le_add_right _ _) (Nat.le_refl _)
  | .leaf _, _ :: _, _, _, _, _, h, _, _, _ => h.elim
  | .cut t u k, c :: w, s, d, B, D, h, nb, o, l => by
    obtain ⟨n1, n2, k1, k8⟩ := nb
    have l : 1 + max t.depth u.depth ≤ D := l
    have h : Way (if c then u else t) w s := h
    have P : (T.cut t u k).pieces = 1 + t.pieces + u.pieces := rfl
    have hk : Ot 4 0 (.int k) := ot_int (by omega) (by omega)
    cases c with
    | true =>
      have h : Way u w s := h
      have ih := ot_put (B := B) (D := D) h n2 o (by omega)
      have := ot_tree n1
      refine OtAll.tup (S := 5 + (30 * t.pieces + ((B + 30 * u.pieces) + (4 + 0)))) (D := D + w.length) (.cons ((ot_str (B := 5) (by decide +kernel)).mono (Nat.le_refl _) (Nat.zero_le _)) (.cons (this.mono (Nat.le_refl _) (by omega)) (.cons ih (.cons (hk.mono (Nat.le_refl _) (Nat.zero_le _)) .nil)))) ?_ ?_
      · show 5 + (30 * t.pieces + ((B + 30 * u.pieces) + (4 + 0))) + 2 * 4 + 13 ≤ _
        omega
      · show D + w.length + 1 ≤ D + (w.length + 1)
        omega
    | false =>
      have h : Way t w s := h
      have ih := ot_put (B := B) (D := D) h n1 o (by omega)
      have := ot_tree n2
      refine OtAll.tup (S := 5 + ((B + 30 * t.pieces) + (30 * u.pieces + (4 + 0)))) (D := D + w.length) (.cons ((ot_str (B := 5) (by decide +kernel)).mono (Nat.le_refl _) (Nat.zero_le _)) (.cons ih (.cons (this.mono (Nat.le_refl _) (by omega)) (.cons (hk.mono (Nat.le_refl _) (Nat.zero_le _)) .nil)))) ?_ ?_
      · show 5 + ((B + 30 * t.pieces) + (30 * u.pieces + (4 + 0))) + 2 * 4 + 13 ≤ _
        omega
      · show D + w.length + 1 ≤ D + (w.length + 1)
        omega
theorem cut_drop (xs : List V) : cutV xs (some 1) none = xs.drop 1 := by
  unfold cutV
  rw [show (1 : Int) = ((1 : Nat) : Int) from rfl, HT.sIx_none, HT.sIx_nat]
  by_cases h : 1 ≤ xs.length
  · rw [Nat.min_eq_left h]
    exact List.take_of_length_le (by rw [List.length_drop]; omega)
  · rw [Nat.min_eq_right (by omega), List.drop_of_length_le (by omega : xs.length ≤ 1), List.drop_of_length_le (Nat.le_refl _), List.take_nil]
section
variable {P : Program} {w : World} {K : PySem.W.Frag} {mg : Str → Option Value} {base : Heap}
structure Zp (mg : Str → Option Value) : Prop where
  z_list : mg "list" = none
  z_tuple : mg "tuple" = none
abbrev sPtt : Stmt := topS 32
theorem scPtt : FnScope ["tree", "way", "thing", "parts"] ["tree", "way", "thing"] (defScope sPtt) := ⟨rfl, rfl, rfl, by decide +kernel, rfl, by decide +kernel, by decide +kernel⟩
def spPtt (n : Nat) : Sp := fun vs H Q _ => ∃ (f0 : Addr → Prop) (v x : V) (wa : Addr) (t s : T) (wy : List Bool) (d : PyData), vs = [v, .ref wa, x] ∧ At H t v ∧ H wa = some (.lst (wy.map fun b => V.int (wi b))) ∧ wy.length ≤ n ∧ n ≤ 50 ∧ Way t wy s ∧ OdV f0 H x d ∧
  ∀ u H', Same H H' → OdV f0 H' u (putD t wy d) → Q u H'
theorem ok_ptt {f : Addr} {fd : FuncData} (F : Fun K "_law_s_put" "_law_s_put" sPtt f fd) (T : Zp mg) (bS : Binds K fd ["tree", "way", "thing"] []) (gS : mg "_law_s_put" = some (.ref f)) :
    ∀ n, FnOk P w K mg base CX0 (n + 2) f fd ["tree", "way", "thing"] (spPtt n) := by
  have main : ∀ n, (0 < n → FnOk P w K mg base CX0 (n + 1) f fd ["tree", "way", "thing"] (spPtt (n - 1))) → FnOk P w K mg base CX0 (n + 2) f fd ["tree", "way", "thing"] (spPtt n) := by
    intro n ih0
    refine F.ok scPtt (fun vs H Q E h => ?_) (fun cdv A outer s H vs Q E hr h => ?_)
    · obtain ⟨f0, v, x, wa, t, s, wy, d, rfl, _⟩ := h
      rfl
    · obtain ⟨f0, v, x, wa, t, sb, wy, d, rfl, ht, hw, hn, n50, hy, hx, q⟩ := h
      have hrd : Room (n + 1) _ := hr
      have ih : FnOk P w K mg base CX0 (n + 1) f fd ["tree", "way", "thing"] (fun vs H Q E => 0 < n ∧ spPtt (n - 1) vs H Q E) := by
        by_cases z : 0 < n
        · exact ok_weak (ih0 z) fun vs H Q E h => h.2
        · exact ok_weak fn_no fun vs H Q E h => z h.1
      refine ⟨_, (pss_cons (ps_if (pt_cmpR (op_eqD hr.units) (pv 1) (pe_lstN pa_nil) (nomark _)) (pss_one (ps_ret (pv 2))) pss_nil)
      (pss_cons (ps_set (i := 3) scPtt.nd rfl (.inl rfl) (pe_callTy call_list_ofN (by rfl) T.z_list (by decide +kernel) (pa_cons (pv 0) pa_nil)))
      (pss_cons (ps_asg (pe_call ih hrd (by rfl) gS F.kp bS .nil pass0 (pa_cons (pe_ix ix_tup (pv 0) (pe_ix ix_list (pv 1) pe_int (fun _ _ => rfl)) (fun _ _ => rfl)) (pa_cons (pe_slice sl_listN (pv 1) (po_some pe_int) po_none) (pa_cons (pv 2) pa_nil)))) (pg_sub (pv 3) (pe_ix ix_list (pv 1) pe_int (fun _ _ => rfl)) set_list))
      (pss_one (ps_ret (pe_callTy call_tuple_ofN (by rfl) T.z_tuple (by decide +kernel) (pa_cons (pv 3) pa_nil))))))), ?_⟩
      have em : wy.map (fun b => V.int (wi b)) = (wy.map wi).map V.int := by rw [List.map_map]; rfl
      refine ⟨_, rfl, Nat.zero_le _, fun p0 H0 np0 s0 hp0 _ => ?_⟩
      have hw0 := s0 _ _ hw
      rw [em] at hw0
      refine ⟨.list ((wy.map wi).map PyData.int), .list [], .lst (.of hw0) (dp_ints _), .lst (.of hp0) .nil, shaped_list (flat_ints _), rfl, ?_⟩
      cases wy with
      | nil =>
        refine ⟨true, rfl, _, rfl, ?_⟩
        have : OdV f0 H0 x d := hx.ke (.same s0)
        refine q x H0 s0 ?_
        cases t <;> exact this
      | cons b wy =>
        refine ⟨false, rfl, ?_⟩
        cases t with
        | leaf m => exact hy.elim
        | cut tl tr k =>
          obtain ⟨a, y, z, rfl, ha, h1, h2⟩ := atS s0 ht
          have hy : Way (if b then tr else tl) wy sb := hy
          rw [← em] at hw0
          have hw0 : H0 wa = some (.lst (V.int (wi b) :: wy.map fun b => V.int (wi b))) := hw0
          refine ⟨_, rfl, a, _, rfl, .inr (.of ha), fun p H1 np s1 hp _ => ?_⟩
          have hw1 := s1 _ _ hw0
          have s01 := s0.trans s1
          have hx1 : OdV (fun c => f0 c ∨ c = p) H1 x d := (OdV.fresh np (hx.ke (.same s0))).ke (.same s1)
          have hl : wy.length < n := by
            have : wy.length + 1 ≤ n := hn
            omega
          cases b with
          | true =>
            refine ⟨_, rfl, _, rfl, wa, _, 0, .int 2, rfl, rfl, .of hw1, at_of (j := 0) rfl rfl, a, _, 2, z, rfl, rfl, .of (s1 _ _ ha), rfl, ?_⟩
            refine ⟨_, rfl, 1, rfl, wa, _, rfl, .of hw1, fun p2 H2 np2 s2 hp2 _ => ?_⟩
            rw [cut_drop] at hp2
            have hp2 : H2 p2 = some (.lst (wy.map fun b => V.int (wi b))) := hp2
            refine ⟨_, rfl, by omega, fun c => f0 c ∨ c = p, z, x, p2, tr, sb, wy, d, rfl, atS (s1.trans s2) h2, hp2, by omega, by omega, hy, hx1.ke (.same s2), fun u H3 s3 ou => ?_⟩
            have s13 := s2.trans s3
            have hp3 := s13 _ _ hp
            refine ⟨_, rfl, _, rfl, wa, _, 0, .int 2, rfl, rfl, .of (s13 _ _ hw1), at_of (j := 0) rfl rfl, p, _, 2, 2, rfl, rfl, hp3, rfl, ?_⟩
            refine ⟨_, rfl, p, _, rfl, .of upd_same, fun p4 H4 np4 s4 hp4 _ => ?_⟩
            have sA : Same H (upd H3 p (.lst ([V.str "cut", y, z, V.int k].set 2 u))) := same_wr' ((s0.trans (s1.trans s13))) (s0.free np)
            refine q (.ref p4) H4 (sA.trans s4) ?_
            have kw : Ke (fun c => f0 c ∨ c = p) H3 (upd H3 p (.lst ([V.str "cut", y, z, V.int k].set 2 u))) := ke_wrG (.inr rfl) hp3
            have ou4 : OdV f0 H4 u (putD tr wy d) := ((ou.ke kw).ke (.same s4)).un fun c z => .inl z
            exact .tup hp4 (.cons (.str _) (.cons (od_of_at (atS (sA.trans s4) (by obtain ⟨a', x', y', e', q', g1, g2⟩ := ht; cases e'; have := s0 _ _ q'; rw [ha] at this; cases this; exact g1))) (.cons ou4 (.cons (.int _) .nil))))
          | false =>
            refine ⟨_, rfl, _, rfl, wa, _, 0, .int 1, rfl, rfl, .of hw1, at_of (j := 0) rfl rfl, a, _, 1, y, rfl, rfl, .of (s1 _ _ ha), rfl, ?_⟩
            refine ⟨_, rfl, 1, rfl, wa, _, rfl, .of hw1, fun p2 H2 np2 s2 hp2 _ => ?_⟩
            rw [cut_drop] at hp2
            have hp2 : H2 p2 = some (.lst (wy.map fun b => V.int (wi b))) := hp2
            refine ⟨_, rfl, by omega, fun c => f0 c ∨ c = p, y, x, p2, tl, sb, wy, d, rfl, atS (s1.trans s2) h1, hp2, by omega, by omega, hy, hx1.ke (.same s2), fun u H3 s3 ou => ?_⟩
            have s13 := s2.trans s3
            have hp3 := s13 _ _ hp
            refine ⟨_, rfl, _, rfl, wa, _, 0, .int 1, rfl, rfl, .of (s13 _ _ hw1), at_of (j := 0) rfl rfl, p, _, 1, 1, rfl, rfl, hp3, rfl, ?_⟩
            refine ⟨_, rfl, p, _, rfl, .of upd_same, fun p4 H4 np4 s4 hp4 _ => ?_⟩
            have sA : Same H (upd H3 p (.lst ([V.str "cut", y, z, V.int k].set 1 u))) := same_wr' ((s0.trans (s1.trans s13))) (s0.free np)
            refine q (.ref p4) H4 (sA.trans s4) ?_
            have kw : Ke (fun c => f0 c ∨ c = p) H3 (upd H3 p (.lst ([V.str "cut", y, z, V.int k].set 1 u))) := ke_wrG (.inr rfl) hp3
            have ou4 : OdV f0 H4 u (putD tl wy d) := ((ou.ke kw).ke (.same s4)).un fun c z => .inl z
            exact .tup hp4 (.cons (.str _) (.cons ou4 (.cons (od_of_at (atS (sA.trans s4) (by obtain ⟨a', x', y', e', q', g1, g2⟩ := ht; cases e'; have := s0 _ _ q'; rw [ha] at this; cases this; exact g2))) (.cons (.int _) .nil))))
  intro n
  induction n with
  | zero => exact main 0 fun h => absurd h (Nat.lt_irrefl 0)
  | succ n ih => exact main (n + 1) fun _ => ih
end
end Tj
namespace Cl
open PySem PySem.Spec PyProof.Rows L2 GxR Nw Dr Kp
abbrev sThg : Stmt := topS 22
abbrev sClm : Stmt := topS 23
abbrev sBok : Stmt := topS 24
theorem scThg : FnScope ["feed", "least", "most", "left", "many", "some", "turn"] ["feed", "least", "most"] (defScope sThg) := ⟨rfl, rfl, rfl, by decide +kernel, rfl, by decide +kernel, by decide +kernel⟩
theorem scClm : FnScope ["feed", "things", "most", "left", "says", "turn", "thing"] ["feed", "things", "most"] (defScope sClm) := ⟨rfl, rfl, rfl, by decide +kernel, rfl, by decide +kernel, by decide +kernel⟩
theorem scBok : FnScope ["feed", "things", "most", "claims", "turn", "claim"] ["feed", "things", "most"] (defScope sBok) := ⟨rfl, rfl, rfl, by decide +kernel, rfl, by decide +kernel, by decide +kernel⟩
/-- the built-ins that stand as they stood -/
structure Zs (mg : Str → Option Value) : Prop where
  z_len : mg "len" = none
  z_list : mg "list" = none
  z_range : mg "range" = none
  z_min : mg "min" = none
  z_tuple : mg "tuple" = none
  z_sorted : mg "sorted" = none
/-- things: numbers from 1 to 8, none twice -/
structure Thg (ks : List Int) : Prop where
  nd : ks.Nodup
  one : ∀ k ∈ ks, 1 ≤ k ∧ k ≤ 8
  len : ks.length ≤ 8
theorem perm_pop : ∀ {l : List Int} {d : Nat} {y : Int}, l[d]? = some y → (y :: l.eraseIdx d).Perm l
  | [], _, _, h => by simp at h
  | a :: r, 0, y, h => by
    have e : a = y := Option.some.inj h
    subst e
    exact .refl _
  | a :: r, d + 1, y, h => by
    have ih := perm_pop (l := r) (d := d) (y := y) h
    exact (List.Perm.swap a y _).trans (.cons a ih)
theorem erase_len {l : List Int} {d : Nat} (h : d < l.length) : (l.eraseIdx d).length = l.length - 1 := List.length_eraseIdx_of_lt h
theorem erase_map : ∀ (l : List Int) (d : Nat), (l.map V.int).eraseIdx d = (l.eraseIdx d).map V.int
  | [], _ => rfl
  | _ :: _, 0 => rfl
  | a :: r, d + 1 => congrArg (V.int a :: ·) (erase_map r d)
theorem ix_seq {d : Int} {n : Nat} (h0 : 0 ≤ d) (h1 : d < (n : Int)) : seqIndex? d n = some d.toNat := by
  have e : ixN n d = some d.toNat := by
    unfold ixN
    rw [if_pos h0, if_pos h1]
  exact (ixN_seq e).1
section
variable {P : Program} {w : World} {K : PySem.W.Frag} {mg : Str → Option Value} {base : Heap} {fD fM : Addr} {fdD fdM : FuncData}
def spThg : Sp := fun vs H Q _ => ∃ (f c : Addr) (l m : Int) (B : Nat), vs = [.ref f, .int l, .int m] ∧ 1 ≤ l ∧ l ≤ m ∧ m ≤ 8 ∧ Feed H f c B ∧ B ≤ 2 ^ 58 ∧
  ∀ (ks : List Int) (p : Addr) (H' : Hp), Feed H' f c (B + 10) → Ke (· = f) H H' → Frs H p → H' p = some (.lst (ks.map V.int)) → Thg ks → l ≤ ks.length → (ks.length : Int) ≤ m → Q (.ref p) H'
theorem ok_thg {f : Addr} {fd : FuncData} {k : Nat} (F : Fun K "_law_sthings" "_law_sthings" sThg f fd) (T : Zs mg) (FD : Fun K "_law_sdraw" "_law_sdraw" sDrw fD fdD) (bD : Binds K fdD ["feed", "many"] []) (gD : mg "_law_sdraw" = some (.ref fD)) (GD : FnOk P w K mg base CX0 2 fD fdD ["feed", "many"] spDrw) :
    FnOk P w K mg base CX0 (k + 3) f fd ["feed", "least", "most"] spThg := by
  refine F.ok scThg (fun vs H Q E h => ?_) (fun cdv A outer s H vs Q E hr h => ?_)
  · obtain ⟨f, c, l, m, B, rfl, _⟩ := h
    rfl
  · obtain ⟨f, c, l, m, B, rfl, l0, lm, m8, hF, hB, q⟩ := h
    have hr2 : Room 2 _ := hr.mono (by omega)
    refine ⟨_, (pss_cons (ps_set (i := 3) scThg.nd rfl (.inl rfl) (pe_lstN (pa_cons pe_int (pa_cons pe_int (pa_cons pe_int (pa_cons pe_int (pa_cons pe_int (pa_cons pe_int (pa_cons pe_int (pa_cons pe_int pa_nil))))))))))
      (Evl.pss_cut (ps_set (i := 4) scThg.nd rfl (.inl rfl) (pe_op op_add (pv 1) (pe_call GD hr2 (by rfl) gD FD.kp bD .nil pass0 (pa_cons (pv 0) (pa_cons (pe_op op_sub (pe_op op_add (pv 2) pe_int) (pv 1)) pa_nil)))))
      (pss_cons (ps_set (i := 5) scThg.nd rfl (.inl rfl) (pe_lstN pa_nil))
      (pss_cons (ps_for PassesOwn.never rfl (pi_range1 (by rfl) T.z_range (pa_cons (pv 4) pa_nil)) (pg_name (i := 6) scThg.nd rfl (.inl rfl)) (pss_one (ps_expr (pe_bm PySem.F.plainAttrs_list PySem.F.slot_list_append PySem.F.type_list_append mt_append (pv 5) (pa_cons (pe_bm PySem.F.plainAttrs_list PySem.F.slot_list_pop PySem.F.type_list_pop mt_popAt (pv 3) (pa_cons (pe_call GD hr2 (by rfl) gD FD.kp bD .nil pass0 (pa_cons (pv 0) (pa_cons (pe_callB call_len_seq (by rfl) T.z_len (by decide +kernel) (pa_cons (pv 3) pa_nil)) pa_nil))) pa_nil)) pa_nil)))))
      (pss_one (ps_ret (pv 5))))))), ?_⟩
    refine ⟨by show 8 ≤ sizeLine; decide, fun L H1 nL s1 hL _ => ?_⟩
    have nLf : L ≠ f := hF.nf nL
    have nLc : L ≠ c := hF.nc nL
    refine Evl.q_cut (M := fun σ' H' => ∃ n : Nat, σ' = [some (.ref f), some (.int l), some (.int m), some (.ref L), some (.int n), none, none] ∧ l ≤ n ∧ (n : Int) ≤ m ∧ Feed H' f c (B + 1) ∧ Ke (· = f) H H' ∧ H' L = some (.lst (([1, 2, 3, 4, 5, 6, 7, 8] : List Int).map V.int))) ?_ ?_
    · have F1 : Feed H1 f c B := hF.same s1
      refine ⟨_, rfl, _, rfl, _, rfl, _, _, rfl, rfl, _, rfl, _, _, rfl, rfl, f, c, _, B, rfl, by omega, by omega, F1, by omega, fun d H2 d0 d1 F2 b2 => ?_⟩
      refine ⟨_, _, rfl, rfl, (l + d).toNat, ?_, by omega, by omega, F2, (Ke.same s1).trans (.but F1 b2), (b2 L nLf).trans hL⟩
      rw [Int.toNat_of_nonneg (by omega)]
      rfl
    rintro σ' H2 ⟨n, rfl, ln, nm, F2, k2, hL2⟩
    refine ⟨Nat.zero_le _, fun S H3 nS s3 hS _ => ?_⟩
    have nSL : S ≠ L := Ne.symm (ne_of_none hL2 nS)
    have nSf : S ≠ f := F2.nf nS
    have nSc : S ≠ c := F2.nc nS
    have frS : Frs H S := .ke k2 F2 (.of nS)
    have frL : Frs H L := .of nL
    refine ⟨_, rfl, n, rfl, by omega, by omega, for_range (Pv := fun i σ H' => ∃ (y6 : Option V) (left ks : List Int), σ = [some (.ref f), some (.int l), some (.int m), some (.ref L), some (.int n), some (.ref S), y6] ∧ Feed H' f c (B + 1 + i) ∧ Ke (· = f) H H' ∧ H' L = some (.lst (left.map V.int)) ∧ H' S = some (.lst (ks.map V.int)) ∧
      left.length = 8 - i ∧ ks.length = i ∧ (ks ++ left).Perm [1, 2, 3, 4, 5, 6, 7, 8]) ?_ ?_ ?_⟩
    · exact ⟨none, _, [], rfl, F2.same s3, k2.trans (.same s3), s3 _ _ hL2, hS, rfl, rfl, .refl _⟩
    · rintro i σ H' hi ⟨y6, left, ks, rfl, F4, k4, hL4, hS4, ll, lk, pm⟩
      have hi : i < n := by simpa using hi
      refine ⟨_, rfl, .inl ⟨rfl, _, .of hS4⟩, _, rfl, .inl ⟨rfl, _, .of hL4⟩, _, rfl, _, rfl, L, _, rfl, .inl (.of hL4), f, c, _, B + 1 + i, rfl, ?_, ?_, F4, by omega, fun d H5 d0 d1 F5 b5 => ?_⟩
      · rw [List.length_map]
        omega
      · rw [List.length_map]
        omega
      rw [List.length_map] at d1
      have dl : d.toNat < left.length := by omega
      have hL5 : H5 L = some (.lst (left.map V.int)) := (b5 L nLf).trans hL4
      have hS5 : H5 S = some (.lst (ks.map V.int)) := (b5 S nSf).trans hS4
      have k5 : Ke (· = f) H H5 := k4.trans (.but F4 b5)
      refine ⟨L, _, d, d.toNat, .int left[d.toNat], rfl, rfl, hL5, by omega, by omega, by rw [List.length_map]; exact ix_seq d0 d1, by rw [List.getElem?_map, List.getElem?_eq_getElem dl]; rfl, ?_⟩
      refine ⟨S, _, _, rfl, rfl, by rw [upd_ne nSL]; exact hS5, by rw [List.length_map]; exact small1000 (by omega), ?_⟩
      refine ⟨_, left.eraseIdx d.toNat, ks ++ [left[d.toNat]], rfl, ((F5.upd nLf nLc).upd nSf nSc).mono (by omega), (k5.write frL hL5).write frS (by rw [upd_ne nSL]; exact hS5), ?_, ?_, ?_, ?_, ?_⟩
      · rw [upd_ne (Ne.symm nSL), upd_same, erase_map]
      · rw [upd_same, List.map_append]
        rfl
      · rw [erase_len dl]
        omega
      · rw [List.length_append, lk]
        rfl
      · refine List.Perm.trans ?_ pm
        rw [List.append_assoc]
        exact (List.Perm.refl ks).append (perm_pop (List.getElem?_eq_getElem dl))
    · rintro σ H' ⟨y6, left, ks, rfl, F4, k4, hL4, hS4, ll, lk, pm⟩
      have lk' : ks.length = n := by simpa using lk
      have nd : (ks ++ left).Nodup := pm.nodup_iff.mpr (by decide)
      refine ⟨_, rfl, q ks S H' (F4.mono (by omega)) k4 frS hS4 ⟨(List.nodup_append.mp nd).1, fun k hk => ?_, by omega⟩ (by omega) (by omega)⟩
      have hm : k ∈ ([1, 2, 3, 4, 5, 6, 7, 8] : List Int) := pm.mem_iff.mp (List.mem_append_left _ hk)
      simp only [List.mem_cons, List.not_mem_nil, or_false] at hm
      omega
/-- sclaim(feed, things, most) -/
def spClm : Sp := fun vs H Q _ => ∃ (f c t : Addr) (m : Int) (B : Nat) (ks : List Int), vs = [.ref f, .ref t, .int m] ∧ 0 ≤ m ∧ m ≤ 8 ∧ H t = some (.lst (ks.map V.int)) ∧ Thg ks ∧ Feed H f c B ∧ B ≤ 2 ^ 58 ∧
  ∀ (cs : List Int) (p : Addr) (H' : Hp), Feed H' f c (B + 20) → Ke (· = f) H H' → Frs H p → H' p = some (.tup (cs.map V.int)) → IsCl cs → (∀ s ∈ cs, (s.natAbs : Int) ∈ ks) → (cs.length : Int) ≤ m → Q (.ref p) H'
theorem abs_nd : ∀ {l : List Int}, (l.map fun s => (s.natAbs : Int)).Nodup → l.Nodup ∧ ∀ k ∈ l, k ≠ 0 → -k ∉ l := fun {l} h => by
  refine ⟨(List.pairwise_map.mp h).imp (fun {a b} z e => z (by rw [e])), fun k hk h0 hn => ?_⟩
  have inj : ∀ a ∈ l, ∀ b ∈ l, (a.natAbs : Int) = b.natAbs → a = b := fun a ha b hb e => by
    obtain ⟨i, hi, ei⟩ := List.getElem_of_mem ha
    obtain ⟨j, hj, ej⟩ := List.getElem_of_mem hb
    have hij : (l.map fun s => (s.natAbs : Int))[i]'(by rw [List.length_map]; exact hi) = (l.map fun s => (s.natAbs : Int))[j]'(by rw [List.length_map]; exact hj) := by
      rw [List.getElem_map, List.getElem_map, ei, ej]
      exact e
    have := (List.getElem_inj h).mp hij
    subst this
    rw [← ei, ← ej]
  have := inj k hk (-k) hn (by omega)
  omega
theorem cl_of {says left ks ns : List Int} (T : Thg ks) (pm : ((says.map fun s => (s.natAbs : Int)) ++ left).Perm ks) (pn : ns.Perm says) (so : ns.Pairwise (· ≤ ·)) : IsCl ns ∧ ∀ s ∈ ns, (s.natAbs : Int) ∈ ks := by
  have nd := (List.nodup_append.mp (pm.nodup_iff.mpr T.nd)).1
  obtain ⟨n1, n2⟩ := abs_nd nd
  have mem : ∀ s ∈ ns, (s.natAbs : Int) ∈ ks := fun s hs => pm.mem_iff.mp (List.mem_append_left _ (List.mem_map.mpr ⟨s, pn.mem_iff.mp hs, rfl⟩))
  have nn : ns.Nodup := pn.nodup_iff.mpr n1
  have bd : ∀ s ∈ ns, s ≠ 0 ∧ -8 ≤ s ∧ s ≤ 8 := fun s hs => by
    have := T.one _ (mem s hs)
    omega
  refine ⟨⟨?_, bd, fun k hk hn => n2 k (pn.mem_iff.mp hk) (bd k hk).1 (pn.mem_iff.mp hn), ?_⟩, mem⟩
  · have := List.Pairwise.and so nn
    exact this.imp fun {a b} h => by
      obtain ⟨h1, h2⟩ := h
      omega
  · have l1 := pn.length_eq
    have l2 := pm.length_eq
    rw [List.length_append, List.length_map] at l2
    have := T.len
    omega
theorem ok_clm {f : Addr} {fd : FuncData} {k : Nat} (F : Fun K "_law_sclaim" "_law_sclaim" sClm f fd) (T : Zs mg) (FD : Fun K "_law_sdraw" "_law_sdraw" sDrw fD fdD) (bD : Binds K fdD ["feed", "many"] []) (gD : mg "_law_sdraw" = some (.ref fD)) (GD : FnOk P w K mg base CX0 2 fD fdD ["feed", "many"] spDrw) :
    FnOk P w K mg base CX0 (k + 3) f fd ["feed", "things", "most"] spClm := by
  refine F.ok scClm (fun vs H Q E h => ?_) (fun cdv A outer s H vs Q E hr h => ?_)
  · obtain ⟨f, c, t, m, B, ks, rfl, _⟩ := h
    rfl
  · obtain ⟨f, c, t, m, B, ks, rfl, m0, m8, ht, Tk, hF, hB, q⟩ := h
    have hr2 : Room 2 _ := hr.mono (by omega)
    refine ⟨_, (Evl.pss_cut (ps_set (i := 3) scClm.nd rfl (.inl rfl) (pe_callTy call_list_ofN (by rfl) T.z_list (by decide +kernel) (pa_cons (pv 1) pa_nil)))
      (pss_cons (ps_set (i := 4) scClm.nd rfl (.inl rfl) (pe_lstN pa_nil))
      (Evl.pss_cut (ps_for PassesOwn.never rfl (pi_range1 (by rfl) T.z_range (pa_cons (pe_callB (call_min2 rfl) (by rfl) T.z_min (by decide +kernel) (pa_cons (pe_callB call_len_seq (by rfl) T.z_len (by decide +kernel) (pa_cons (pv 3) pa_nil)) (pa_cons (pe_call GD hr2 (by rfl) gD FD.kp bD .nil pass0 (pa_cons (pv 0) (pa_cons (pe_op op_add (pv 2) pe_int) pa_nil))) pa_nil))) pa_nil)) (pg_name (i := 5) scClm.nd rfl (.inl rfl)) (pss_cons (ps_set (i := 6) scClm.nd rfl (.inl rfl) (pe_bm PySem.F.plainAttrs_list PySem.F.slot_list_pop PySem.F.type_list_pop mt_popAt (pv 3) (pa_cons (pe_call GD hr2 (by rfl) gD FD.kp bD .nil pass0 (pa_cons (pv 0) (pa_cons (pe_callB call_len_seq (by rfl) T.z_len (by decide +kernel) (pa_cons (pv 3) pa_nil)) pa_nil))) pa_nil)))
      (pss_one (ps_expr (pe_bm PySem.F.plainAttrs_list PySem.F.slot_list_append PySem.F.type_list_append mt_append (pv 4) (pa_cons (pe_ix ix_list (pe_lstN (pa_cons (pv 6) (pa_cons (pe_op op_sub pe_int (pv 6)) pa_nil))) (pe_call GD hr2 (by rfl) gD FD.kp bD .nil pass0 (pa_cons (pv 0) (pa_cons pe_int pa_nil))) (fun _ _ => rfl)) pa_nil))))))
      (pss_one (ps_ret (pe_callTy call_tuple_ofN (by rfl) T.z_tuple (by decide +kernel) (pa_cons (pe_callB cr_sortedN (by rfl) T.z_sorted (by decide +kernel) (pa_cons (pv 4) pa_nil)) pa_nil))))))), ?_⟩
    -- left
    refine Evl.q_cut (M := fun σ' H' => ∃ L, σ' = [some (.ref f), some (.ref t), some (.int m), some (.ref L), none, none, none] ∧ H L = none ∧ Same H H' ∧ H' L = some (.lst (ks.map V.int))) ?_ ?_
    · exact ⟨_, rfl, t, _, rfl, .inl (.of ht), fun L H1 nL s1 hL _ => ⟨L, rfl, nL, s1, hL⟩⟩
    rintro σ' H1 ⟨L, rfl, nL, s1, hL⟩
    refine ⟨Nat.zero_le _, fun S H2 nS s2 hS _ => ?_⟩
    have F2 : Feed H2 f c B := hF.same (s1.trans s2)
    have nLf : L ≠ f := hF.nf nL
    have nLc : L ≠ c := hF.nc nL
    have nSL : S ≠ L := Ne.symm (ne_of_none hL nS)
    have nSf : S ≠ f := (hF.same s1).nf nS
    have nSc : S ≠ c := (hF.same s1).nc nS
    have frL : Frs H L := .of nL
    have frS : Frs H S := .of (s1.free nS)
    have hL2 : H2 L = some (.lst (ks.map V.int)) := s2 _ _ hL
    -- the loop
    refine Evl.q_cut (M := fun σ' H' => ∃ (y5 y6 : Option V) (left says : List Int), σ' = [some (.ref f), some (.ref t), some (.int m), some (.ref L), some (.ref S), y5, y6] ∧ Feed H' f c (B + 20) ∧ Ke (· = f) H H' ∧ H' S = some (.lst (says.map V.int)) ∧ (says.length : Int) ≤ m ∧ ((says.map fun s => (s.natAbs : Int)) ++ left).Perm ks) ?_ ?_
    · refine ⟨_, rfl, L, _, rfl, .inl (.of hL2), _, rfl, _, rfl, _, _, rfl, rfl, f, c, _, B, rfl, by omega, by omega, F2, by omega, fun d H3 d0 d1 F3 b3 => ?_⟩
      refine ⟨_, _, rfl, ?_⟩
      generalize hn : (if d < ((ks.map V.int).length : Int) then d else ((ks.map V.int).length : Int)) = n
      have n0 : 0 ≤ n ∧ n ≤ m ∧ n ≤ ks.length := by
        rw [List.length_map] at hn
        split at hn <;> omega
      have tl := Tk.len
      have hL3 : H3 L = some (.lst (ks.map V.int)) := (b3 L nLf).trans hL2
      have hS3 : H3 S = some (.lst (([] : List Int).map V.int)) := (b3 S nSf).trans hS
      have k3 : Ke (· = f) H H3 := (Ke.same (s1.trans s2)).trans (.but F2 b3)
      refine ⟨n, rfl, by omega, by omega, for_range (Pv := fun i σ H' => ∃ (y5 y6 : Option V) (left says : List Int), σ = [some (.ref f), some (.ref t), some (.int m), some (.ref L), some (.ref S), y5, y6] ∧ Feed H' f c (B + 1 + 2 * i) ∧ Ke (· = f) H H' ∧ H' L = some (.lst (left.map V.int)) ∧ H' S = some (.lst (says.map V.int)) ∧
        left.length = ks.length - i ∧ says.length = i ∧ ((says.map fun s => (s.natAbs : Int)) ++ left).Perm ks) ?_ ?_ ?_⟩
      · exact ⟨none, none, ks, [], rfl, F3, k3, hL3, hS3, rfl, rfl, .refl _⟩
      · rintro i σ H' hi ⟨y5, y6, left, says, rfl, F4, k4, hL4, hS4, ll, ls, pm⟩
        have hi : i < n.toNat := hi
        refine ⟨_, rfl, .inl ⟨rfl, _, .of hL4⟩, _, rfl, _, rfl, L, _, rfl, .inl (.of hL4), f, c, _, B + 1 + 2 * i, rfl, ?_, ?_, F4, by omega, fun d H5 d0 d1 F5 b5 => ?_⟩
        · rw [List.length_map]
          omega
        · rw [List.length_map]
          omega
        rw [List.length_map] at d1
        have dl : d.toNat < left.length := by omega
        have hL5 : H5 L = some (.lst (left.map V.int)) := (b5 L nLf).trans hL4
        have hS5 : H5 S = some (.lst (says.map V.int)) := (b5 S nSf).trans hS4
        have k5 : Ke (· = f) H H5 := k4.trans (.but F4 b5)
        refine ⟨L, _, d, d.toNat, .int left[d.toNat], rfl, rfl, hL5, by omega, by omega, by rw [List.length_map]; exact ix_seq d0 d1, by rw [List.getElem?_map, List.getElem?_eq_getElem dl]; rfl, ?_⟩
        have pp := perm_pop (List.getElem?_eq_getElem dl)
        have y1 := Tk.one left[d.toNat] (pm.mem_iff.mp (List.mem_append_right _ (List.getElem_mem dl)))
        generalize left[d.toNat] = y at pp y1
        have F6 : Feed (upd H5 L (.lst ((left.map V.int).eraseIdx d.toNat))) f c (B + 1 + 2 * i + 1) := F5.upd nLf nLc
        have k6 : Ke (· = f) H (upd H5 L (.lst ((left.map V.int).eraseIdx d.toNat))) := k5.write frL hL5
        have hL6 : (upd H5 L (.lst ((left.map V.int).eraseIdx d.toNat))) L = some (.lst ((left.eraseIdx d.toNat).map V.int)) := by rw [upd_same, erase_map]
        have hS6 : (upd H5 L (.lst ((left.map V.int).eraseIdx d.toNat))) S = some (.lst (says.map V.int)) := by rw [upd_ne nSL]; exact hS5
        generalize (upd H5 L (.lst ((left.map V.int).eraseIdx d.toNat))) = H6 at F6 k6 hL6 hS6 ⊢
        -- says.append([thing, 0 - thing][..])
        refine ⟨_, rfl, .inl ⟨rfl, _, .of hS6⟩, _, rfl, _, rfl, _, _, rfl, rfl, by show 2 ≤ sizeLine; decide, fun p H7 np s7 hp _ => ?_⟩
        refine ⟨_, rfl, f, c, 2, B + 1 + 2 * i + 1, rfl, by decide, by decide, F6.same s7, by omega, fun e H8 e0 e1 F8 b8 => ?_⟩
        have npf : p ≠ f := F6.nf np
        have hp8 := (b8 p npf).trans hp
        have hS8 : H8 S = some (.lst (says.map V.int)) := (b8 S nSf).trans (s7 _ _ hS6)
        have hL8 : H8 L = some (.lst ((left.eraseIdx d.toNat).map V.int)) := (b8 L nLf).trans (s7 _ _ hL6)
        have k8 : Ke (· = f) H H8 := (k6.trans (.same s7)).trans (.but (F6.same s7) b8)
        have two : e = 0 ∨ e = 1 := by omega
        have go : ∀ z : Int, (z.natAbs : Int) = y → ((says ++ [z]).map (fun s => (s.natAbs : Int)) ++ left.eraseIdx d.toNat).Perm ks := fun z hz => by
          refine List.Perm.trans ?_ pm
          rw [List.map_append, List.append_assoc, List.map_singleton, hz]
          exact (List.Perm.refl _).append pp
        rcases two with rfl | rfl
        · refine ⟨p, _, 0, .int y, rfl, rfl, .of hp8, rfl, S, _, _, rfl, rfl, hS8, by rw [List.length_map]; exact small1000 (by omega), ?_⟩
          refine ⟨_, _, left.eraseIdx d.toNat, says ++ [y], rfl, (F8.upd nSf nSc).mono (by omega), k8.write frS hS8, by rw [upd_ne (Ne.symm nSL)]; exact hL8, by rw [upd_same, List.map_append]; rfl, by rw [erase_len dl]; omega, by rw [List.length_append, ls]; rfl, go y (by omega)⟩
        · refine ⟨p, _, 1, .int (0 - y), rfl, rfl, .of hp8, rfl, S, _, _, rfl, rfl, hS8, by rw [List.length_map]; exact small1000 (by omega), ?_⟩
          refine ⟨_, _, left.eraseIdx d.toNat, says ++ [0 - y], rfl, (F8.upd nSf nSc).mono (by omega), k8.write frS hS8, by rw [upd_ne (Ne.symm nSL)]; exact hL8, by rw [upd_same, List.map_append]; rfl, by rw [erase_len dl]; omega, by rw [List.length_append, ls]; rfl, go (0 - y) (by omega)⟩
      · rintro σ H' ⟨y5, y6, left, says, rfl, F4, k4, hL4, hS4, ll, ls, pm⟩
        exact ⟨y5, y6, left, says, rfl, F4.mono (by omega), k4, hS4, by omega, pm⟩
    rintro σ' H3 ⟨y5, y6, left, says, rfl, F3, k3, hS3, ls, pm⟩
    refine ⟨_, rfl, S, says, rfl, .of hS3, fun ns pn so p H4 np s4 hp _ => ?_⟩
    refine ⟨p, _, rfl, .of hp, fun p2 H5 np2 s5 hp2 _ => ?_⟩
    obtain ⟨h1, h2⟩ := cl_of Tk pm pn so
    refine q ns p2 H5 (F3.same (s4.trans s5)) (k3.trans (.same (s4.trans s5))) (.ke k3 F3 (.of (s4.free np2))) hp2 h1 h2 ?_
    rw [pn.length_eq]
    exact ls
/-- the claims css are of the things ks -/
def Of (ks : List Int) (cs : List Int) : Prop := IsCl cs ∧ ∀ s ∈ cs, (s.natAbs : Int) ∈ ks
/-- a list of claims as it grows -/
def Ls (H : Hp) (L : Addr) (css : List (List Int)) : Prop := ∃ vs, H L = some (.lst vs) ∧ vs.length = css.length ∧ ∀ (i : Nat) (x : V) (cs : List Int), vs[i]? = some x → css[i]? = some cs → TupI H x cs
theorem ix_append {α β : Type} {R : α → β → Prop} {vs : List α} {ys : List β} {v : α} {y : β} (l : vs.length = ys.length) (h : ∀ (i : Nat) (x : α) (z : β), vs[i]? = some x → ys[i]? = some z → R x z) (r : R v y) :
    ∀ (i : Nat) (x : α) (z : β), (vs ++ [v])[i]? = some x → (ys ++ [y])[i]? = some z → R x z := by
  intro i x z h1 h2
  by_cases hi : i < vs.length
  · rw [List.getElem?_append_left hi] at h1
    rw [List.getElem?_append_left (by omega)] at h2
    exact h i x z h1 h2
  · have e : i = vs.length := by
      have := (List.getElem?_eq_some_iff.mp h1).1
      rw [List.length_append, List.length_singleton] at this
      omega
    subst e
    rw [List.getElem?_append_right (Nat.le_refl _), Nat.sub_self] at h1
    rw [List.getElem?_append_right (by omega), show vs.length - ys.length = 0 by omega] at h2
    cases h1
    cases h2
    exact r
/-- sbook(feed, things, most) -/
def spBok : Sp := fun vs H Q _ => ∃ (f c t : Addr) (m : Int) (B : Nat) (ks : List Int), vs = [.ref f, .ref t, .int m] ∧ 1 ≤ m ∧ m ≤ 16 ∧ H t = some (.lst (ks.map V.int)) ∧ Thg ks ∧ ks ≠ [] ∧ t ≠ f ∧ Feed H f c B ∧ B ≤ 2 ^ 57 ∧
  ∀ (css : List (List Int)) (p : Addr) (H' : Hp), Feed H' f c (B + 500) → Ke (· = f) H H' → Frs H p → Bk H' (.ref p) css → (∀ cs ∈ css, Of ks cs) → 1 ≤ css.length → (css.length : Int) ≤ m → Q (.ref p) H'
theorem ok_bok {f fC : Addr} {fd fdC : FuncData} {k : Nat} (F : Fun K "_law_sbook" "_law_sbook" sBok f fd) (T : Zs mg) (FD : Fun K "_law_sdraw" "_law_sdraw" sDrw fD fdD) (bD : Binds K fdD ["feed", "many"] []) (gD : mg "_law_sdraw" = some (.ref fD)) (GD : FnOk P w K mg base CX0 2 fD fdD ["feed", "many"] spDrw)
    (FC : Fun K "_law_sclaim" "_law_sclaim" sClm fC fdC) (bC : Binds K fdC ["feed", "things", "most"] []) (gC : mg "_law_sclaim" = some (.ref fC)) (GC : FnOk P w K mg base CX0 3 fC fdC ["feed", "things", "most"] spClm) :
    FnOk P w K mg base CX0 (k + 4) f fd ["feed", "things", "most"] spBok := by
  refine F.ok scBok (fun vs H Q E h => ?_) (fun cdv A outer s H vs Q E hr h => ?_)
  · obtain ⟨f, c, t, m, B, ks, rfl, _⟩ := h
    rfl
  · obtain ⟨f, c, t, m, B, ks, rfl, m0, m8, ht, Tk, kn, ntf, hF, hB, q⟩ := h
    have hr2 : Room 2 _ := hr.mono (by omega)
    have hr3 : Room 3 _ := hr.mono (by omega)
    refine ⟨_, (pss_cons (ps_set (i := 3) scBok.nd rfl (.inl rfl) (pe_lstN pa_nil))
      (Evl.pss_cut (ps_for PassesOwn.never rfl (pi_range1 (by rfl) T.z_range (pa_cons (pe_op op_add pe_int (pe_call GD hr2 (by rfl) gD FD.kp bD .nil pass0 (pa_cons (pv 0) (pa_cons (pv 2) pa_nil)))) pa_nil)) (pg_name (i := 4) scBok.nd rfl (.inl rfl)) (Evl.pss_cut (ps_set (i := 5) scBok.nd rfl (.inl rfl) (pe_call GC hr3 (by rfl) gC FC.kp bC .nil pass0 (pa_cons (pv 0) (pa_cons (pv 1) (pa_cons (pe_ix ix_list (pe_lstN (pa_cons pe_int (pa_cons pe_int (pa_cons pe_int (pa_cons pe_int pa_nil))))) (pe_call GD hr2 (by rfl) gD FD.kp bD .nil pass0 (pa_cons (pv 0) (pa_cons pe_int pa_nil))) (fun _ _ => rfl)) pa_nil)))))
      (Evl.pss_cut (ps_if (PW.pt (pw_and (pt_cmpR (op_eqD hr.units) (pv 5) (pe_tupN pa_nil) (nomark _)) (pw_and1 (pt_cmpR op_gt (pe_call GD hr2 (by rfl) gD FD.kp bD .nil pass0 (pa_cons (pv 0) (pa_cons pe_int pa_nil))) pe_int (nomark _))))) (pss_one (ps_set (i := 5) scBok.nd rfl (.inl rfl) (pe_tupN (pa_cons (pe_ix ix_list (pv 1) pe_int (fun _ _ => rfl)) pa_nil)))) pss_nil)
      (pss_one (ps_expr (pe_bm PySem.F.plainAttrs_list PySem.F.slot_list_append PySem.F.type_list_append mt_append (pv 3) (pa_cons (pv 5) pa_nil)))))))
      (pss_one (ps_ret (pe_callTy call_tuple_ofN (by rfl) T.z_tuple (by decide +kernel) (pa_cons (pv 3) pa_nil)))))), ?_⟩
    refine ⟨Nat.zero_le _, fun L H1 nL s1 hL _ => ?_⟩
    have nLf : L ≠ f := hF.nf nL
    have nLc : L ≠ c := hF.nc nL
    have frL : Frs H L := .of nL
    have nLt : L ≠ t := Ne.symm (ne_of_none ht nL)
    obtain ⟨k0, kr, rfl⟩ : ∃ k0 kr, ks = k0 :: kr := by
      cases ks with
      | nil => exact absurd rfl kn
      | cons a r => exact ⟨a, r, rfl⟩
    have hk0 := Tk.one k0 List.mem_cons_self
    have of0 : Of (k0 :: kr) [k0] := by
      refine ⟨⟨.cons (fun _ h => (nomatch h)) .nil, fun k hk => ?_, fun k hk hn => ?_, by show 1 ≤ 8; decide⟩, fun s hs => ?_⟩
      · rw [List.mem_singleton.mp hk]
        omega
      · rw [List.mem_singleton.mp hk] at hn
        have := List.mem_singleton.mp hn
        omega
      · rw [List.mem_singleton.mp hs, show ((k0.natAbs : Nat) : Int) = k0 by omega]
        exact List.mem_cons_self
    refine Evl.q_cut (M := fun σ' H' => ∃ (y4 y5 : Option V) (css : List (List Int)), σ' = [some (.ref f), some (.ref t), some (.int m), some (.ref L), y4, y5] ∧ Feed H' f c (B + 500) ∧ Ke (· = f) H H' ∧ Ls H' L css ∧ (∀ cs ∈ css, Of (k0 :: kr) cs) ∧ 1 ≤ css.length ∧ (css.length : Int) ≤ m) ?_ ?_
    · have F1 : Feed H1 f c B := hF.same s1
      refine ⟨_, rfl, _, rfl, f, c, _, B, rfl, by omega, by omega, F1, by omega, fun d H2 d0 d1 F2 b2 => ?_⟩
      refine ⟨_, _, rfl, rfl, 1 + d, rfl, by omega, by omega, for_range (Pv := fun i σ H' => ∃ (y4 y5 : Option V) (css : List (List Int)), σ = [some (.ref f), some (.ref t), some (.int m), some (.ref L), y4, y5] ∧ Feed H' f c (B + 1 + 30 * i) ∧ Ke (· = f) H H' ∧ Ls H' L css ∧ (∀ cs ∈ css, Of (k0 :: kr) cs) ∧ css.length = i) ?_ ?_ ?_⟩
      · exact ⟨none, none, [], rfl, F2, (Ke.same s1).trans (.but F1 b2), ⟨[], (b2 L nLf).trans hL, rfl, fun i x cs h => by simp at h⟩, fun cs h => (nomatch h), rfl⟩
      · rintro i σ H3 hi ⟨y4, y5, css, rfl, F3, k3, ⟨vs, hL3, lv, hv⟩, oc, lc⟩
        have hi : i < (1 + d).toNat := hi
        have ht3 : H3 t = some (.lst ((k0 :: kr).map V.int)) := k3.lst ht ntf
        refine Evl.q_cut (M := fun σ' H' => ∃ (p : Addr) (cs : List Int), σ' = [some (.ref f), some (.ref t), some (.int m), some (.ref L), some (.int (0 + (i : Int))), some (.ref p)] ∧ Feed H' f c (B + 1 + 30 * i + 21) ∧ Ke (· = f) H3 H' ∧ H' p = some (.tup (cs.map V.int)) ∧ Of (k0 :: kr) cs) ?_ ?_
        · refine ⟨_, rfl, _, rfl, by show 4 ≤ sizeLine; decide, fun p4 H4 np4 s4 hp4 _ => ?_⟩
          have F4 := F3.same s4
          refine ⟨_, rfl, f, c, 4, _, rfl, by decide, by decide, F4, by omega, fun e H5 e0 e1 F5 b5 => ?_⟩
          have k5 : Ke (· = f) H3 H5 := (Ke.same s4).trans (.but F4 b5)
          have np4f : p4 ≠ f := F3.nf np4
          have ht5 : H5 t = some (.lst ((k0 :: kr).map V.int)) := k5.lst ht3 ntf
          have pk : ∃ mm : Int, 0 ≤ mm ∧ mm ≤ 8 ∧ atI [V.int 3, V.int 3, V.int 3, V.int 6] e = some (.int mm) := by
            have four : e = 0 ∨ e = 1 ∨ e = 2 ∨ e = 3 := by omega
            rcases four with rfl | rfl | rfl | rfl
            · exact ⟨3, by decide, by decide, rfl⟩
            · exact ⟨3, by decide, by decide, rfl⟩
            · exact ⟨3, by decide, by decide, rfl⟩
            · exact ⟨6, by decide, by decide, rfl⟩
          obtain ⟨mm, mm0, mm1, ha⟩ := pk
          refine ⟨p4, _, e, .int mm, rfl, rfl, .of ((b5 p4 np4f).trans hp4), ha, f, c, t, mm, _, k0 :: kr, rfl, mm0, mm1, ht5, Tk, F5, by omega, fun cs p H6 F6 k6 _ hp h1 h2 _ => ?_⟩
          exact ⟨p, cs, rfl, F6.mono (by omega), k5.trans k6, hp, h1, h2⟩
        rintro σ' H4 ⟨p, cs, rfl, F4, k4, hp, hc⟩
        -- if claim == () and ..
        refine Evl.q_cut (M := fun σ' H' => ∃ (p : Addr) (cs : List Int), σ' = [some (.ref f), some (.ref t), some (.int m), some (.ref L), some (.int (0 + (i : Int))), some (.ref p)] ∧ Feed H' f c (B + 1 + 30 * i + 22) ∧ Ke (· = f) H3 H' ∧ H' p = some (.tup (cs.map V.int)) ∧ Of (k0 :: kr) cs) ?_ ?_
        · refine ⟨_, rfl, Nat.zero_le _, fun p5 H5 np5 s5 hp5 _ => ?_⟩
          have F5 := F4.same s5
          have k5 : Ke (· = f) H3 H5 := k4.trans (.same s5)
          refine ⟨_, _, .tup (.of (s5 _ _ hp)) (dp_ints cs), .tup (.of hp5) .nil, shaped_tuple (flat_ints _), shaped_tuple rfl, _, rfl, ite2 (fun e => ?_) (fun e => ?_)⟩
          · refine ⟨_, rfl, f, c, 6, _, rfl, by decide, by decide, F5, by omega, fun g H6 g0 g1 F6 b6 => ?_⟩
            have k6 : Ke (· = f) H3 H6 := k5.trans (.but F5 b6)
            refine ⟨_, _, rfl, rfl, _, rfl, ite2 (fun e => ?_) (fun e => ?_)⟩
            · have ht6 : H6 t = some (.lst ((k0 :: kr).map V.int)) := k6.lst ht3 ntf
              refine ⟨_, rfl, t, _, 0, .int k0, rfl, rfl, .of ht6, atI_nat (j := 0) rfl, by show 1 ≤ sizeLine; decide, fun p7 H7 np7 s7 hp7 _ => ?_⟩
              exact ⟨p7, [k0], rfl, (F6.same s7).mono (by omega), k6.trans (.same s7), hp7, of0⟩
            · exact ⟨p, cs, rfl, F6.mono (by omega), k6, (Ke.but F5 b6).tups _ _ (s5 _ _ hp), hc⟩
          · exact ⟨p, cs, rfl, F5.mono (by omega), k5, s5 _ _ hp, hc⟩
        rintro σ' H5 ⟨p, cs, rfl, F5, k5, hp, hc⟩
        -- claims.append(claim)
        have hL5 : H5 L = some (.lst vs) := k5.lst hL3 nLf
        refine ⟨_, rfl, .inl ⟨rfl, _, .of hL5⟩, _, rfl, L, _, _, rfl, rfl, hL5, small1000 (by omega), ?_⟩
        have k6 : Ke (· = f) H (upd H5 L (.lst (vs ++ [.ref p]))) := (k3.trans k5).write frL hL5
        have tp : ∀ {x : V} {ds : List Int}, TupI H5 x ds → TupI (upd H5 L (.lst (vs ++ [.ref p]))) x ds := fun {x ds} ⟨a, e, h⟩ => ⟨a, e, by
          have n : a ≠ L := fun z => by
            rw [z, hL5] at h
            cases h
          rw [upd_ne n]
          exact h⟩
        refine ⟨_, _, css ++ [cs], rfl, (F5.upd nLf nLc).mono (by omega), k6, ⟨vs ++ [.ref p], upd_same, by rw [List.length_append, List.length_append, lv]; rfl, ix_append lv (fun i x ds h1 h2 => tp ((hv i x ds h1 h2).ke k5)) (tp ⟨p, rfl, hp⟩)⟩, fun ds hd => ?_, by rw [List.length_append, lc]; rfl⟩
        rcases List.mem_append.mp hd with z | z
        · exact oc ds z
        · rw [List.mem_singleton.mp z]
          exact hc
      · rintro σ H3 ⟨y4, y5, css, rfl, F3, k3, ls, oc, lc⟩
        have lc' : css.length = (1 + d).toNat := lc
        exact ⟨y4, y5, css, rfl, F3.mono (by omega), k3, ls, oc, by omega, by omega⟩
    rintro σ' H2 ⟨y4, y5, css, rfl, F2, k2, ⟨vs, hL2, lv, hv⟩, oc, l1, l2⟩
    refine ⟨_, rfl, L, vs, rfl, .of hL2, fun p H3 np s3 hp _ => ?_⟩
    have k3 : Ke (· = f) H2 H3 := .same s3
    exact q css p H3 (F2.same s3) (k2.trans k3) (.ke k2 F2 (.of np)) ⟨p, vs, rfl, hp, lv, fun i x cs h1 h2 => (hv i x cs h1 h2).ke k3⟩ oc l1 l2
end
end Cl
namespace Rpa
open PySem PySem.Spec PyProof.Rows L2
/-- repr of anything by its data, where nothing is being shown -/
theorem cr_reprA {X : Cx} (hg : X.A.guards = some []) (hu : X.A.units + 70 < cLine) : CallR X (.builtin "repr") (fun xs H Q => ∃ (x : V) (d : PyData), xs = [x] ∧ Dp X.K H x d ∧ d.showable = true ∧ d.hasDict = false ∧ d.depth ≤ 64 ∧ d.shown.length ≤ sizeLine ∧ Q (.str d.shown) H) := by
  intro pins s σ H xs us Q I r h
  obtain ⟨x, d, rfl, hd, hs, hn, dp, sz, q⟩ := h
  obtain ⟨u, rfl, hu'⟩ := vals1 r
  cases id hd with
  | non =>
    obtain rfl : u = .none := hu'
    exact PySem.P.repr_of_none ⟨.str _, H, I.tok _, ⟨_, rfl⟩, q⟩
  | bl b =>
    obtain rfl : u = .bool b := hu'
    exact PySem.P.repr_of_bool ⟨.str _, H, I.tok _, ⟨_, rfl⟩, q⟩
  | int i =>
    obtain ⟨t, rfl⟩ := hu'
    exact PySem.P.repr_of_int (by simpa [PyData.showable] using hs) ⟨.str _, H, I.tok _, ⟨_, rfl⟩, q⟩
  | str z =>
    obtain ⟨t, rfl⟩ := hu'
    exact PySem.P.repr_of_str ⟨.str _, H, I.tok _, ⟨_, rfl⟩, q⟩ sz
  | lst _ _ =>
    rename_i a _ _ _ _
    obtain rfl : u = .ref a := hu'
    obtain ⟨as, r1⟩ := Dp.reads I _ (.ref a) (.ref a) hd rfl
    exact repr_of_reads' r1 hs (PyData.noDict_hsm hn) hg (by omega) (fun _ _ e => e) (fun h' u tk k => ⟨.str _, H, I.turnedL (ch := []) (fun b o _ e => k b o e) (fun b hb => absurd hb (by simp)), ⟨_, rfl⟩, q⟩) sz
  | tup _ _ =>
    rename_i a _ _ _ _
    obtain rfl : u = .ref a := hu'
    obtain ⟨as, r1⟩ := Dp.reads I _ (.ref a) (.ref a) hd rfl
    exact repr_of_reads' r1 hs (PyData.noDict_hsm hn) hg (by omega) (fun _ _ e => e) (fun h' u tk k => ⟨.str _, H, I.turnedL (ch := []) (fun b o _ e => k b o e) (fun b hb => absurd hb (by simp)), ⟨_, rfl⟩, q⟩) sz
end Rpa
namespace Tj
open PySem PySem.Spec PyProof.Rows L2 GxR Nw Dr Kp Se Cl Ct Lr Lp Od Og Ta
open Tr (T At)
/-! ### deep trees are looked at as is due (k20) -/
theorem call_tuple_ofNB {X : Cx} {K : PySem.W.Frag} (h : X.K = K) : CallR X (.type "tuple") (fun xs H Q => ∃ p ys, xs = [.ref p] ∧ SqL K H p ys ∧ New H (.tup ys) Q) := by subst h; exact call_tuple_ofN
theorem cr_sortedNB {X : Cx} {K : PySem.W.Frag} (h : X.K = K) : CallR X (.builtin "sorted") (fun vs H Q => ∃ (a : Addr) (ns : List Int), vs = [V.ref a] ∧ SqL K H a (ns.map V.int) ∧ ∀ ns' : List Int, ns'.Perm ns → ns'.Pairwise (· ≤ ·) → New H (.lst (ns'.map V.int)) Q) := by subst h; exact cr_sortedN
theorem pi_tupB {X : Cx} {K : PySem.W.Frag} (hk : X.K = K) {tg l : Expr} {tl : TE} (hl : PE X l tl) : PI X tg l (iTup K tl) := by
  subst hk
  exact pi_tup hl
theorem ints_of_od {f : Addr → Prop} {H : Hp} : ∀ {c : List Int} {xs : List V}, OdAll f H xs (c.map PyData.int) → xs = c.map V.int
  | [], _, h => by cases h; rfl
  | i :: r, _, h => by
    cases h with
    | cons h1 h2 =>
      cases h1
      rw [ints_of_od h2]
      rfl
theorem bk_of_od {f : Addr → Prop} {H : Hp} {v : V} {css : List (List Int)} (h : OdV f H v (.tuple (css.map fun c => .tuple (c.map PyData.int)))) : Bk H v css := by
  obtain ⟨a, xs, rfl, ha, od⟩ := od_tup h
  have l := od.len
  rw [List.length_map] at l
  refine ⟨a, xs, rfl, ha, l, fun i x cs h1 h2 => ?_⟩
  obtain ⟨d, hd, ov⟩ := od.at h1
  rw [List.getElem?_map, h2] at hd
  cases hd
  obtain ⟨p, ys, rfl, hp, oy⟩ := od_tup ov
  rw [ints_of_od oy] at hp
  exact ⟨p, rfl, hp⟩
def negs (c : List Int) : List Int := c.map fun s => 0 - s
theorem ng_sorted {c ns : List Int} (hc : c.Pairwise (· < ·)) (p : ns.Perm (negs c)) (s : ns.Pairwise (· ≤ ·)) : ns = ng c := by
  have q : (ng c).Perm (negs c) := by
    unfold ng negs
    refine (List.reverse_perm _).trans ?_
    have : (fun s : Int => -s) = fun s : Int => 0 - s := by
      funext s
      omega
    rw [this]
  exact List.Perm.eq_of_pairwise (fun a b _ _ h1 h2 => Int.le_antisymm h1 h2) s ((ng_up hc).imp fun h => Int.le_of_lt h) (p.trans q.symm)
theorem gb_cl : ∀ c ∈ gBook, IsCl c := by
  intro c hc
  have key : ∀ c ∈ gBook, c.Pairwise (· < ·) ∧ (∀ k ∈ c, k ≠ 0 ∧ -8 ≤ k ∧ k ≤ 8) ∧ (∀ k ∈ c, -k ∉ c) ∧ c.length ≤ 8 := by decide
  obtain ⟨a, b, d, e⟩ := key c hc
  exact ⟨a, b, d, e⟩
theorem go_cl : ∀ c ∈ gBook.map ng, IsCl c := by
  intro c hc
  have key : ∀ c ∈ gBook.map ng, c.Pairwise (· < ·) ∧ (∀ k ∈ c, k ≠ 0 ∧ -8 ≤ k ∧ k ≤ 8) ∧ (∀ k ∈ c, -k ∉ c) ∧ c.length ≤ 8 := by decide
  obtain ⟨a, b, d, e⟩ := key c hc
  exact ⟨a, b, d, e⟩
def PairAt (H : Hp) (v : V) : Prop := ∃ p ∈ sevenG, ∃ a : Addr, v = .ref a ∧ H a = some (.tup [.int (p.1 : Nat), .int (p.2 : Nat)])
theorem PairAt.ke {F : Addr → Prop} {H H' : Hp} {v : V} (h : PairAt H v) (k : Ke F H H') : PairAt H' v := by
  obtain ⟨p, hp, a, e, ha⟩ := h
  exact ⟨p, hp, a, e, k.tups _ _ ha⟩
theorem show_two : ∀ b : Bool, (PyData.shown (.list [.bool b, .bool b])).length ≤ sizeLine := by
  intro b
  refine Nat.le_trans (m := 100) ?_ (by decide)
  cases b <;> decide +kernel
theorem Tr_keL {H : Hp} {p : Addr} {xs : List V} {o : HO} (hp : H p = some (.lst xs)) : Ke (· = p) H (upd H p o) := ke_wrG rfl hp
theorem shaped_dat {t : T} (h : t.depth ≤ 64) : SeqAt.shaped (datT t) = true := by
  have hs1 : PyData.canLay0 (.str "book") = true := by decide +kernel
  have hs2 : PyData.canLay0 (.str "cut") = true := by decide +kernel
  have ly : ∀ t : T, PyData.canLay0 (datT t) = true ∧ (datT t).depth = t.depth := by
    intro t
    induction t with
    | leaf n =>
      refine ⟨?_, rfl⟩
      show (PyData.canLay0 (.str "book") && (PyData.canLay0 (.int (n : Nat)) && true)) = true
      rw [hs1]
      rfl
    | cut t u k i1 i2 =>
      refine ⟨?_, ?_⟩
      · show (PyData.canLay0 (.str "cut") && (PyData.canLay0 (datT t) && (PyData.canLay0 (datT u) && (PyData.canLay0 (.int k) && true)))) = true
        rw [i1.1, i2.1, hs2]
        rfl
      · show Nat.max 0 (Nat.max (datT t).depth (Nat.max (datT u).depth (Nat.max 0 0))) + 1 = 1 + max t.depth u.depth
        rw [i1.2, i2.2, Nat.add_comm]
        simp
  exact shaped_mk (ly t).1 (by rw [(ly t).2]; exact h)
section
variable {P : Program} {w : World} {K : PySem.W.Frag} {mg : Str → Option Value} {base : Heap}
structure Zq (mg : Str → Option Value) : Prop where
  z_len : mg "len" = none
  z_range : mg "range" = none
  z_repr : mg "repr" = none
  z_tuple : mg "tuple" = none
  z_sorted : mg "sorted" = none
abbrev sGrr : Stmt := topS 36
abbrev nGrr : List Str := ["feed", "book", "other", "claim", "say", "left", "turn", "many", "long", "tree", "due", "found"]
theorem scGrr : FnScope nGrr ["feed"] (defScope sGrr) := ⟨rfl, rfl, rfl, by decide +kernel, rfl, by decide +kernel, by decide +kernel⟩
def spGrr (Po : Addr) : Sp := fun vs H Q _ => ∃ (f c : Addr) (B : Nat), vs = [.ref f] ∧ Feed H f c B ∧ B ≤ 2 ^ 40 ∧ TabG H Po ∧ ∀ H', Q (.bl true) H'
theorem ok_grr {f fD fG fI fT fU Po : Addr} {fd fdD fdG fdI fdT fdU : FuncData} (F : Fun K "_law_s_great_right" "_law_s_great_right" sGrr f fd) (T : Zq mg)
    (FD : Fun K "_law_sdraw" "_law_sdraw" sDrw fD fdD) (bD : Binds K fdD ["feed", "many"] []) (gD : mg "_law_sdraw" = some (.ref fD)) (GD : FnOk P w K mg base CX0 2 fD fdD ["feed", "many"] spDrw)
    (FG : Fun K "_law_s_great" "_law_s_great" sGrt fG fdG) (bG : Binds K fdG ["many", "long"] []) (gG : mg "_law_s_great" = some (.ref fG)) (GG : FnOk P w K mg base CX0 1 fG fdG ["many", "long"] spGrt)
    (FI : Fun K "is_tree" "is_tree" sIst fI fdI) (bI : Binds K fdI ["book", "thing"] []) (gI : mg "is_tree" = some (.ref fI)) (GI : FnOk P w K mg base CX0 46 fI fdI ["book", "thing"] (spItG Po))
    (FT : Fun K "_law_s_turned" "_law_s_turned" sTrn fT fdT) (bT : Binds K fdT ["tree"] []) (gT : mg "_law_s_turned" = some (.ref fT)) (GT : FnOk P w K mg base CX0 47 fT fdT ["tree"] (spTrn 46))
    (FU : Fun K "_law_s_due" "_law_s_due" sDue fU fdU) (bU : Binds K fdU ["book", "thing"] []) (gU : mg "_law_s_due" = some (.ref fU)) (GU : FnOk P w K mg base CX0 43 fU fdU ["book", "thing"] spDue) :
    Gx2.FnX P w K mg base CX0 48 f fd ["feed"] (spGrr Po) := by
  refine Gx2.okX F scGrr (fun vs H Q E h => ?_) (fun cdv A outer s H vs Q E gd0 hr h => ?_)
  · obtain ⟨f, c, B, rfl, _⟩ := h
    rfl
  · obtain ⟨fe, c, B, rfl, hF, hB, tg, q⟩ := h
    have gd : (A.deeper (envOfC "_law_s_great_right" (defScope sGrr) s.heap.objs.size f cdv)).guards = some [] := gd0
    have hu : (A.deeper (envOfC "_law_s_great_right" (defScope sGrr) s.heap.objs.size f cdv)).units + 70 < cLine := by
      have := hr.un
      omega
    have hr1 : Room 1 _ := hr.mono (by omega)
    have hr2 : Room 2 _ := hr.mono (by omega)
    have hr43 : Room 43 _ := hr.mono (by omega)
    have hr46 : Room 46 _ := hr.mono (by omega)
    have hr47 : Room 47 _ := hr.mono (by omega)
    refine ⟨_, (PSs.nox (Evl.pss_cut (ps_set (i := 1) scGrr.nd rfl (.inl rfl) (pe_tupN (pa_cons (pe_tupN (pa_cons pe_int pa_nil)) (pa_cons (pe_tupN (pa_cons (pe_un un_neg pe_int) (pa_cons pe_int pa_nil))) (pa_cons (pe_tupN (pa_cons (pe_un un_neg pe_int) (pa_cons pe_int pa_nil))) (pa_cons (pe_tupN (pa_cons (pe_un un_neg pe_int) (pa_cons pe_int pa_nil))) (pa_cons (pe_tupN (pa_cons (pe_un un_neg pe_int) (pa_cons pe_int pa_nil))) (pa_cons (pe_tupN (pa_cons (pe_un un_neg pe_int) (pa_cons pe_int pa_nil))) (pa_cons (pe_tupN (pa_cons (pe_un un_neg pe_int) (pa_cons pe_int pa_nil))) (pa_cons (pe_tupN (pa_cons (pe_un un_neg pe_int) (pa_cons pe_int pa_nil))) (pa_cons (pe_tupN (pa_cons (pe_un un_neg pe_int) (pa_cons pe_int pa_nil))) (pa_cons (pe_tupN (pa_cons (pe_un un_neg pe_int) (pa_cons pe_int pa_nil))) (pa_cons (pe_tupN (pa_cons (pe_un un_neg pe_int) (pa_cons pe_int pa_nil))) pa_nil)))))))))))))
      (Evl.pss_cut (ps_set (i := 2) scGrr.nd rfl (.inl rfl) (pe_callTy call_tuple_ofN (by rfl) T.z_tuple (by decide +kernel) (pa_cons (pe_lc (own := [("claim", 3)]) (g := (gName 3)) (tt := tYes) rfl scGrr.nd (pi_tup (pv 1)) (blkOk_by (N := nGrr) (sc := defScope sGrr) (by decide +kernel)) (fun _ _ _ _ _ => (pg_name (i := 3) scGrr.nd rfl (.inl rfl))) (fun _ _ _ _ _ => pts_nil) (fun _ _ _ _ _ => (pe_callTy (Tj.call_tuple_ofNB (K := K) rfl) (by rfl) T.z_tuple (by decide +kernel) (pa_cons (pe_callB (Tj.cr_sortedNB (K := K) rfl) (by rfl) T.z_sorted (by decide +kernel) (pa_cons (pe_lc (own := [("say", 4)]) (g := (gName 4)) (tt := tYes) rfl scGrr.nd (Tj.pi_tupB (K := K) rfl (pv 3)) (blkOk_by (N := nGrr) (sc := { kind := .function, names := [(".0", .local), ("claim", .local), ("tuple", .globalImplicit), ("sorted", .globalImplicit)], isGenerator := false, isCoroutine := false }) (by decide +kernel)) (fun _ _ _ _ _ => (pg_name (i := 4) scGrr.nd rfl (.inl rfl))) (fun _ _ _ _ _ => pts_nil) (fun _ _ _ _ _ => (pe_op op_sub pe_int (pv 4)))) pa_nil)) pa_nil)))) pa_nil)))
      (Evl.pss_cut (ps_set (i := 5) scGrr.nd rfl (.inl rfl) (pe_lstN (pa_cons (pe_tupN (pa_cons pe_int (pa_cons pe_int pa_nil))) (pa_cons (pe_tupN (pa_cons pe_int (pa_cons pe_int pa_nil))) (pa_cons (pe_tupN (pa_cons pe_int (pa_cons pe_int pa_nil))) (pa_cons (pe_tupN (pa_cons pe_int (pa_cons pe_int pa_nil))) (pa_cons (pe_tupN (pa_cons pe_int (pa_cons pe_int pa_nil))) (pa_cons (pe_tupN (pa_cons pe_int (pa_cons pe_int pa_nil))) (pa_cons (pe_tupN (pa_cons pe_int (pa_cons pe_int pa_nil))) pa_nil)))))))))
      (pss_cons (ps_for PassesOwn.never rfl (pi_range1 (by rfl) T.z_range (pa_cons pe_int pa_nil)) (pg_name (i := 6) scGrr.nd rfl (.inl rfl)) (Evl.pss_cut (ps_asg (pe_bm PySem.F.plainAttrs_list PySem.F.slot_list_pop PySem.F.type_list_pop mt_popAt (pv 5) (pa_cons (pe_call GD hr2 (by rfl) gD FD.kp bD .nil pass0 (pa_cons (pv 0) (pa_cons (pe_callB call_len_seq (by rfl) T.z_len (by decide +kernel) (pa_cons (pv 5) pa_nil)) pa_nil))) pa_nil)) (pg_tup rfl (pgs_cons (pg_name (i := 7) scGrr.nd rfl (.inl rfl)) (pgs_cons (pg_name (i := 8) scGrr.nd rfl (.inl rfl)) pgs_nil))))
      (Evl.pss_cut (ps_set (i := 9) scGrr.nd rfl (.inl rfl) (pe_call GG hr1 (by rfl) gG FG.kp bG .nil pass0 (pa_cons (pv 7) (pa_cons (pv 8) pa_nil))))
      (Evl.pss_cut (ps_set (i := 10) scGrr.nd rfl (.inl rfl) (pe_and (pe_cmpR op_lt (pv 7) pe_int (nomark _)) (pe_one (pe_cmpR op_lt (pe_op op_add (pv 7) (pe_op op_mul pe_int (pv 8))) pe_int (nomark _)))))
      (Evl.pss_cut (ps_set (i := 11) scGrr.nd rfl (.inl rfl) (pe_lstN (pa_cons (pe_call GI hr46 (by rfl) gI FI.kp bI .nil pass0 (pa_cons (pv 1) (pa_cons (pv 9) pa_nil))) (pa_cons (pe_call GI hr46 (by rfl) gI FI.kp bI .nil pass0 (pa_cons (pv 2) (pa_cons (pe_call GT hr47 (by rfl) gT FT.kp bT .nil pass0 (pa_cons (pv 9) pa_nil)) pa_nil))) pa_nil))))
      (pss_one (ps_if (PW.pt (pw_or (pt_cmpR op_ne (pe_call GU hr43 (by rfl) gU FU.kp bU .nil pass0 (pa_cons (pv 1) (pa_cons (pv 9) pa_nil))) (pv 10) (nomark _)) (pw_or1 (pt_cmpR op_ne (pe_callB (Rpa.cr_reprA gd hu) (by rfl) T.z_repr (by decide +kernel) (pa_cons (pv 11) pa_nil)) (pe_callB (Rpa.cr_reprA gd hu) (by rfl) T.z_repr (by decide +kernel) (pa_cons (pe_lstN (pa_cons (pv 10) (pa_cons (pv 10) pa_nil))) pa_nil)) (nomark _))))) pss_never pss_nil)))))))
      (pss_one (ps_ret pe_bl))))))), ?_⟩
    -- the book
    refine Evl.q_cut (M := fun σ' G => ∃ b : V, σ' = [some (.ref fe), some b, none, none, none, none, none, none, none, none, none, none] ∧ Same H G ∧ Bk G b gBook) ?_ ?_
    · skip
      have xw0 : Same H H := Same.refl _
      refine ⟨by show 1 ≤ sizeLine; decide, fun xp1 xG1 xn1 xt1 xh1 _ => ?_⟩
      have xw1 := xw0.trans xt1
      refine ⟨_, rfl, by show 2 ≤ sizeLine; decide, fun xp2 xG2 xn2 xt2 xh2 _ => ?_⟩
      have xw2 := xw1.trans xt2
      refine ⟨_, rfl, by show 2 ≤ sizeLine; decide, fun xp3 xG3 xn3 xt3 xh3 _ => ?_⟩
      have xw3 := xw2.trans xt3
      refine ⟨_, rfl, by show 2 ≤ sizeLine; decide, fun xp4 xG4 xn4 xt4 xh4 _ => ?_⟩
      have xw4 := xw3.trans xt4
      refine ⟨_, rfl, by show 2 ≤ sizeLine; decide, fun xp5 xG5 xn5 xt5 xh5 _ => ?_⟩
      have xw5 := xw4.trans xt5
      refine ⟨_, rfl, by show 2 ≤ sizeLine; decide, fun xp6 xG6 xn6 xt6 xh6 _ => ?_⟩
      have xw6 := xw5.trans xt6
      refine ⟨_, rfl, by show 2 ≤ sizeLine; decide, fun xp7 xG7 xn7 xt7 xh7 _ => ?_⟩
      have xw7 := xw6.trans xt7
      refine ⟨_, rfl, by show 2 ≤ sizeLine; decide, fun xp8 xG8 xn8 xt8 xh8 _ => ?_⟩
      have xw8 := xw7.trans xt8
      refine ⟨_, rfl, by show 2 ≤ sizeLine; decide, fun xp9 xG9 xn9 xt9 xh9 _ => ?_⟩
      have xw9 := xw8.trans xt9
      refine ⟨_, rfl, by show 2 ≤ sizeLine; decide, fun xp10 xG10 xn10 xt10 xh10 _ => ?_⟩
      have xw10 := xw9.trans xt10
      refine ⟨_, rfl, by show 2 ≤ sizeLine; decide, fun xp11 xG11 xn11 xt11 xh11 _ => ?_⟩
      have xw11 := xw10.trans xt11
      refine ⟨by show 11 ≤ sizeLine; decide, fun xp12 xG12 xn12 xt12 xh12 _ => ?_⟩
      have xw12 := xw11.trans xt12
      have xu12 := (Same.refl xG12)
      have xu11 := xt12.trans xu12
      have xu10 := xt11.trans xu11
      have xu9 := xt10.trans xu10
      have xu8 := xt9.trans xu9
      have xu7 := xt8.trans xu8
      have xu6 := xt7.trans xu7
      have xu5 := xt6.trans xu6
      have xu4 := xt5.trans xu5
      have xu3 := xt4.trans xu4
      have xu2 := xt3.trans xu3
      have xu1 := xt2.trans xu2
      have xu0 := xt1.trans xu1
      exact ⟨_, rfl, xw12, bk_of_od (f := Nof) (css := gBook) (.tup (xu12 _ _ xh12) (.cons (.tup (xu1 _ _ xh1) (.cons (.int _) .nil)) (.cons (.tup (xu2 _ _ xh2) (.cons (.int _) (.cons (.int _) .nil))) (.cons (.tup (xu3 _ _ xh3) (.cons (.int _) (.cons (.int _) .nil))) (.cons (.tup (xu4 _ _ xh4) (.cons (.int _) (.cons (.int _) .nil))) (.cons (.tup (xu5 _ _ xh5) (.cons (.int _) (.cons (.int _) .nil))) (.cons (.tup (xu6 _ _ xh6) (.cons (.int _) (.cons (.int _) .nil))) (.cons (.tup (xu7 _ _ xh7) (.cons (.int _) (.cons (.int _) .nil))) (.cons (.tup (xu8 _ _ xh8) (.cons (.int _) (.cons (.int _) .nil))) (.cons (.tup (xu9 _ _ xh9) (.cons (.int _) (.cons (.int _) .nil))) (.cons (.tup (xu10 _ _ xh10) (.cons (.int _) (.cons (.int _) .nil))) (.cons (.tup (xu11 _ _ xh11) (.cons (.int _) (.cons (.int _) .nil))) .nil))))))))))))⟩
    rintro σ' H1 ⟨b, rfl, s1, hb⟩
    obtain ⟨ba, bvs, rfl, hbt, lb, aB⟩ := id hb
    -- the other book
    refine Evl.q_cut (M := fun σ' G => ∃ o : V, σ' = [some (.ref fe), some (.ref ba), some o, none, none, none, none, none, none, none, none, none] ∧ Same H1 G ∧ Bk G o (gBook.map ng)) ?_ ?_
    · refine ⟨_, rfl, ba, rfl, ⟨_, .of hbt⟩, fun D nD => ?_⟩
      refine lc_tup (xs := bvs) (Pv := fun t G => ∃ vs : List V, Same H1 G ∧ G D = some (.lst vs) ∧ vs.length = t ∧ ∀ (i : Nat) (x : V) (cs : List Int), vs[i]? = some x → gBook[i]? = some cs → TupI G x (ng cs)) ⟨[], same_new nD, upd_same, rfl, fun i x cs h => by simp at h⟩ (fun t G _ z => ?_) ?_ ?_
      · obtain ⟨vs, s2, _⟩ := z
        exact .of (s2 _ _ hbt)
      · rintro t x G hx ⟨vs, s2, hD, lv, al⟩
        have tl := (List.getElem?_eq_some_iff.mp hx).1
        have hcs := List.getElem?_eq_getElem (show t < gBook.length by omega)
        generalize gBook[t]'(by omega) = cs at hcs
        obtain ⟨p, rfl, hp⟩ := aB t x cs hx hcs
        have icl := gb_cl cs (List.mem_of_getElem? hcs)
        have hp2 := s2 _ _ hp
        refine ⟨rfl, _, rfl, p, rfl, ⟨_, .of hp2⟩, fun E nE => ?_⟩
        refine lc_tup (xs := cs.map V.int) (Pv := fun t G' => Same G G' ∧ G' E = some (.lst ((negs (cs.take t)).map V.int))) ⟨same_new nE, upd_same⟩ (fun t G' _ z => .of (z.1 _ _ hp2)) ?_ ?_
        · rintro j y G' hy ⟨s3, hE⟩
          have hj : (cs.map V.int)[j]? = some y := hy
          rw [List.getElem?_map] at hj
          obtain ⟨k, hk, rfl⟩ := Option.map_eq_some_iff.mp hj
          have := (List.getElem?_eq_some_iff.mp hk).1
          have l8 := icl.len
          refine ⟨rfl, _, rfl, _, _, rfl, rfl, _, hE, small1000' (by unfold negs; rw [List.length_map, List.length_map, List.length_take]; omega), ?_, ?_⟩
          · exact same_wr' s3 nE
          · rw [upd_same, Lp.take_snoc hk]
            unfold negs
            rw [List.map_append, List.map_append]
            rfl
        · rintro G' ⟨s3, hE⟩
          rw [List.length_map, List.take_length] at hE
          refine ⟨E, _, rfl, .of hE, fun ns pn so p1 G1 n1 t1 h1 _ => ?_⟩
          have e := ng_sorted icl.up pn so
          subst e
          refine ⟨p1, _, rfl, .of h1, fun p2 G2 n2 t2 h2 _ => ?_⟩
          have s22 := s3.trans (t1.trans t2)
          have hD2 := s22 _ _ hD
          refine ⟨_, hD2, small1000' (by rw [lv]; have : gBook.length = 11 := rfl; omega), vs ++ [.ref p2], same_wr' (s2.trans s22) nD, upd_same, by rw [List.length_append, lv]; rfl, fun i x' cs' h1' h2' => ?_⟩
          have wr : ∀ {x : V} {ns : List Int}, TupI G2 x ns → TupI (upd G2 D (.lst (vs ++ [.ref p2]))) x ns := fun {x ns} ⟨a, e, ha⟩ => ⟨a, e, by rw [upd_ne (fun z => by rw [z, hD2] at ha; cases ha)]; exact ha⟩
          by_cases hi : i < vs.length
          · rw [List.getElem?_append_left hi] at h1'
            exact wr ((al i x' cs' h1' h2').ke (.same (F := Nof) s22))
          · have hi' : i = vs.length := by
              have := (List.getElem?_eq_some_iff.mp h1').1
              rw [List.length_append] at this
              have : i < vs.length + 1 := this
              omega
            rw [hi', List.getElem?_append_right (Nat.le_refl _), Nat.sub_self] at h1'
            cases h1'
            rw [hi', lv, hcs] at h2'
            cases h2'
            exact wr ⟨p2, rfl, h2⟩
      · rintro G ⟨vs, s2, hD, lv, al⟩
        refine ⟨D, _, rfl, .of hD, fun p G1 n1 t1 h1 _ => ⟨.ref p, rfl, s2.trans t1, p, vs, rfl, h1, by rw [lv, List.length_map, lb], fun i x cs h1' h2' => ?_⟩⟩
        rw [List.getElem?_map] at h2'
        obtain ⟨cs0, hc, rfl⟩ := Option.map_eq_some_iff.mp h2'
        exact (al i x cs0 h1' hc).ke (.same (F := Nof) t1)
    rintro σ' H2 ⟨o, rfl, s2, ho⟩
    -- left
    refine Evl.q_cut (M := fun σ' G => ∃ (L : Addr) (lvs : List V), σ' = [some (.ref fe), some (.ref ba), some o, none, none, some (.ref L), none, none, none, none, none, none] ∧ Same H2 G ∧ H2 L = none ∧ G L = some (.lst lvs) ∧ lvs.length = 7 ∧ ∀ v ∈ lvs, PairAt G v) ?_ ?_
    · skip
      have xw0 : Same H2 H2 := Same.refl _
      refine ⟨by show 2 ≤ sizeLine; decide, fun xp1 xG1 xn1 xt1 xh1 _ => ?_⟩
      have xw1 := xw0.trans xt1
      refine ⟨by show 2 ≤ sizeLine; decide, fun xp2 xG2 xn2 xt2 xh2 _ => ?_⟩
      have xw2 := xw1.trans xt2
      refine ⟨by show 2 ≤ sizeLine; decide, fun xp3 xG3 xn3 xt3 xh3 _ => ?_⟩
      have xw3 := xw2.trans xt3
      refine ⟨by show 2 ≤ sizeLine; decide, fun xp4 xG4 xn4 xt4 xh4 _ => ?_⟩
      have xw4 := xw3.trans xt4
      refine ⟨by show 2 ≤ sizeLine; decide, fun xp5 xG5 xn5 xt5 xh5 _ => ?_⟩
      have xw5 := xw4.trans xt5
      refine ⟨by show 2 ≤ sizeLine; decide, fun xp6 xG6 xn6 xt6 xh6 _ => ?_⟩
      have xw6 := xw5.trans xt6
      refine ⟨by show 2 ≤ sizeLine; decide, fun xp7 xG7 xn7 xt7 xh7 _ => ?_⟩
      have xw7 := xw6.trans xt7
      refine ⟨by show 7 ≤ sizeLine; decide, fun xp8 xG8 xn8 xt8 xh8 _ => ?_⟩
      have xw8 := xw7.trans xt8
      have xu8 := (Same.refl xG8)
      have xu7 := xt8.trans xu8
      have xu6 := xt7.trans xu7
      have xu5 := xt6.trans xu6
      have xu4 := xt5.trans xu5
      have xu3 := xt4.trans xu4
      have xu2 := xt3.trans xu3
      have xu1 := xt2.trans xu2
      have xu0 := xt1.trans xu1
      refine ⟨xp8, _, rfl, xw8, xw7.free xn8, xh8, rfl, fun v hv => ?_⟩
      simp only [List.mem_cons, List.not_mem_nil, or_false] at hv
      rcases hv with rfl | rfl | rfl | rfl | rfl | rfl | rfl
      · exact ⟨(38, 0), by decide, _, rfl, xu1 _ _ xh1⟩
      · exact ⟨(39, 0), by decide, _, rfl, xu2 _ _ xh2⟩
      · exact ⟨(40, 0), by decide, _, rfl, xu3 _ _ xh3⟩
      · exact ⟨(45, 0), by decide, _, rfl, xu4 _ _ xh4⟩
      · exact ⟨(39, 28), by decide, _, rfl, xu5 _ _ xh5⟩
      · exact ⟨(39, 29), by decide, _, rfl, xu6 _ _ xh6⟩
      · exact ⟨(30, 30), by decide, _, rfl, xu7 _ _ xh7⟩
    rintro σ' H3 ⟨L, lvs, rfl, s3, nL, hL, lL, al⟩
    have s13 := s1.trans (s2.trans s3)
    have F3 := hF.same s13
    have nLf : L ≠ fe := (hF.same (s1.trans s2)).nf nL
    have nLc : L ≠ c := (hF.same (s1.trans s2)).nc nL
    have k3 : Ke Nof H H3 := .same s13
    refine ⟨3, rfl, by decide, by decide, for_range (n := 3) (Pv := fun i σ G => ∃ (y6 y7 y8 y9 y10 y11 : Option V) (lvs : List V), σ = [some (.ref fe), some (.ref ba), some o, none, none, some (.ref L), y6, y7, y8, y9, y10, y11] ∧ Feed G fe c (B + i) ∧ TabG G Po ∧ Bk G (.ref ba) gBook ∧ Bk G o (gBook.map ng) ∧ G L = some (.lst lvs) ∧ lvs.length + i = 7 ∧ ∀ v ∈ lvs, PairAt G v) ?_ ?_ ?_⟩
    · exact ⟨none, none, none, none, none, none, lvs, rfl, F3, k3.tabs _ tg, hb.ke (.same (s2.trans s3)) (F := Nof), ho.ke (.same s3) (F := Nof), hL, lL, al⟩
    · clear al hL lL lvs k3 F3 s13 s3 H3 nL ho s2 H2 aB hbt lb hb s1 H1 tg hF
      rintro i σ H1 hi ⟨y6, y7, y8, y9, y10, y11, lvs, rfl, F1, tg, hb, ho, hL, lL, al⟩
      have hi : i < 3 := hi
      -- many, long
      refine Evl.q_cut (M := fun σ' G => ∃ (p : Nat × Nat) (lvs : List V), σ' = [some (.ref fe), some (.ref ba), some o, none, none, some (.ref L), some (.int (0 + (i : Int))), some (.int (p.1 : Nat)), some (.int (p.2 : Nat)), y9, y10, y11] ∧ p ∈ sevenG ∧ Feed G fe c (B + i + 1) ∧ TabG G Po ∧ Bk G (.ref ba) gBook ∧ Bk G o (gBook.map ng) ∧ G L = some (.lst lvs) ∧ lvs.length + (i + 1) = 7 ∧ ∀ v ∈ lvs, PairAt G v) ?_ ?_
      · refine ⟨_, rfl, .inl ⟨rfl, _, .of hL⟩, _, rfl, _, rfl, L, _, rfl, .inl (.of hL), fe, c, _, _, rfl, by omega, by omega, F1, by omega, fun d H2 d0 d1 F2 b2 => ?_⟩
        have k2 : Ke (· = fe) H1 H2 := .but F1 b2
        have hL2 : H2 L = some (.lst lvs) := (b2 L nLf).trans hL
        have dl : d.toNat < lvs.length := by omega
        have hy := List.getElem?_eq_getElem dl
        obtain ⟨p, hp, a, e, ha⟩ := al _ (List.mem_of_getElem? hy)
        have ha2 := k2.tups _ _ ha
        refine ⟨L, lvs, d, d.toNat, _, rfl, rfl, hL2, by omega, by omega, Cl.ix_seq d0 (by omega), hy, ?_⟩
        rw [e]
        have nla : a ≠ L := fun z => by rw [z, hL2] at ha2; cases ha2
        have kw : Ke (· = L) H2 (upd H2 L (.lst (lvs.eraseIdx d.toNat))) := Tr_keL hL2
        refine ⟨a, _, rfl, .of ((upd_ne nla).trans ha2), rfl, _, _, rfl, _, _, rfl, rfl, p, lvs.eraseIdx d.toNat, rfl, hp, (F2.upd nLf nLc).mono (by omega), kw.tabs _ (k2.tabs _ tg), (hb.ke k2).ke kw, (ho.ke k2).ke kw, upd_same, by rw [List.length_eraseIdx_of_lt dl]; omega, fun v hv => ((al v (List.mem_of_mem_eraseIdx hv)).ke k2).ke kw⟩
      clear al hL lL lvs F1 tg hb ho H1
      rintro σ' H1 ⟨p, lvs, rfl, hp, F1, tg, hb, ho, hL, lL, al⟩
      obtain ⟨gd1, gd2, gd3⟩ := great_due p hp
      have p60 : p.1 ≤ 60 ∧ p.2 ≤ 60 := by
        have : ∀ p ∈ sevenG, p.1 ≤ 60 ∧ p.2 ≤ 60 := by decide
        exact this p hp
      -- tree
      refine Evl.q_cut (M := fun σ' G => ∃ t : V, σ' = [some (.ref fe), some (.ref ba), some o, none, none, some (.ref L), some (.int (0 + (i : Int))), some (.int (p.1 : Nat)), some (.int (p.2 : Nat)), some t, y10, y11] ∧ Same H1 G ∧ At G (great p.1 p.2 p.1) t) ?_ ?_
      · exact ⟨_, rfl, _, rfl, p.1, p.2, rfl, p60.1, p60.2, fun u G s2 hu => ⟨u, rfl, s2, hu⟩⟩
      rintro σ' H2 ⟨t, rfl, s2, ht⟩
      -- due
      refine Evl.q_cut (M := fun σ' G => ∃ due : Bool, σ' = [some (.ref fe), some (.ref ba), some o, none, none, some (.ref L), some (.int (0 + (i : Int))), some (.int (p.1 : Nat)), some (.int (p.2 : Nat)), some t, some (.bl due), y11] ∧ H2 = G ∧ (due = true ↔ p.1 < 40 ∧ p.1 + 5 * p.2 < 180)) ?_ ?_
      · by_cases g : p.1 < 40
        · refine ⟨_, rfl, _, _, rfl, rfl, true, bl_t' (decide_eq_true (show ((p.1 : Nat) : Int) < 40 by omega)), ?_⟩
          refine ⟨_, rfl, _, rfl, _, _, rfl, rfl, .inl ⟨by decide, by decide⟩, _, _, rfl, rfl, _, _, rfl, rfl, _, rfl, rfl, ?_⟩
          rw [decide_eq_true_iff]
          omega
        · refine ⟨_, rfl, _, _, rfl, rfl, false, bl_f' (decide_eq_false (show ¬ ((p.1 : Nat) : Int) < 40 by omega)), ?_⟩
          exact ⟨false, rfl, rfl, (fun z => nomatch z), fun z => absurd z.1 g⟩
      rintro σ' G ⟨due, rfl, rfl, hdue⟩
      rw [← gd1] at hdue
      have sh : SeqAt.shaped (datT (great p.1 p.2 p.1)) = true := shaped_dat (by omega)
      have sh2 : SeqAt.shaped (datT (turn (great p.1 p.2 p.1))) = true := shaped_dat (by rw [turn_depth]; omega)
      have k2 : Ke Nof H1 H2 := .same s2
      -- found
      refine Evl.q_cut (M := fun σ' G => ∃ q : Addr, σ' = [some (.ref fe), some (.ref ba), some o, none, none, some (.ref L), some (.int (0 + (i : Int))), some (.int (p.1 : Nat)), some (.int (p.2 : Nat)), some t, some (.bl due), some (.ref q)] ∧ Ke Nof H1 G ∧ At G (great p.1 p.2 p.1) t ∧ G q = some (.lst [.bl due, .bl due])) ?_ ?_
      · refine ⟨_, rfl, _, rfl, Nof, .ref ba, t, gBook, datT (great p.1 p.2 p.1), rfl, hb.ke k2, gb_cl, od_of_at ht, sh, k2.tabs _ tg, fun x H3 k3 hx => ?_⟩
        have k13 := k2.trans k3
        refine ⟨_, rfl, _, rfl, t, great p.1 p.2 p.1, rfl, At.ke k3 ht, by omega, fun u H4 s4 hu => ?_⟩
        have k14 : Ke Nof H1 H4 := k13.trans (.same s4)
        refine ⟨Nof, o, u, gBook.map ng, datT (turn (great p.1 p.2 p.1)), rfl, ho.ke k14, go_cl, od_of_at hu, sh2, k14.tabs _ tg, fun y H5 k5 hy => ?_⟩
        rw [turn_is] at hy
        have e1 : x = due := Bool.eq_iff_iff.mpr (hx.trans hdue.symm)
        have e2 : y = due := Bool.eq_iff_iff.mpr (hy.trans hdue.symm)
        subst e1
        subst e2
        exact ⟨by show 2 ≤ sizeLine; decide, fun q H6 nq s6 hq _ => ⟨q, rfl, k14.trans (k5.trans (.same s6)), At.ke (Ke.trans (.same s4) (k5.trans (.same s6))) (At.ke k3 ht), hq⟩⟩
      rintro σ' H3 ⟨qa, rfl, k3, ht3, hq⟩
      refine ⟨_, rfl, _, rfl, Nof, .ref ba, t, gBook, datT (great p.1 p.2 p.1), rfl, hb.ke k3, gb_cl, od_of_at ht3, sh, fun tt e => by rw [← dat_inj e]; exact gd3, fun x H4 s4 hx => ?_⟩
      have e1 : x = due := Bool.eq_iff_iff.mpr (hx.trans hdue.symm)
      subst e1
      have hq4 := s4 _ _ hq
      refine ⟨_, rfl, rfl, false, by simp, ?_⟩
      refine ⟨_, rfl, _, .list [.bool x, .bool x], rfl, .lst (.of hq4) (.cons (.bl _) (.cons (.bl _) .nil)), rfl, rfl, by show 1 ≤ 64; decide, show_two x, ?_⟩
      refine ⟨_, rfl, _, rfl, by show 2 ≤ sizeLine; decide, fun q2 H5 nq2 s5 hq2 _ => ?_⟩
      refine ⟨_, .list [.bool x, .bool x], rfl, .lst (.of hq2) (.cons (.bl _) (.cons (.bl _) .nil)), rfl, rfl, by show 1 ≤ 64; decide, show_two x, rfl, false, by simp, ?_⟩
      have k5 : Ke Nof H1 H5 := k3.trans ((Ke.same s4).trans (.same s5))
      exact ⟨_, _, _, _, _, _, lvs, rfl, (k5.feed F1).mono (by omega), k5.tabs _ tg, hb.ke k5, ho.ke k5, k5.lst hL fun z => z, lL, fun v hv => (al v hv).ke k5⟩
    · rintro σ G ⟨y6, y7, y8, y9, y10, y11, lvs, rfl, _⟩
      exact q G
end
end Tj
namespace Gd
open PySem PySem.Spec PyProof.Rows L2
/-! ### a law that shows lists (repr): run where nothing is being shown -/
/-- a promise for calls made while nothing is being shown -/
structure FnG (P : Program) (w : World) (K : PySem.W.Frag) (mg : Str → Option Value) (base : Heap) (k : Nat) (f : Addr) (fd : FuncData) (ps : List Str) (sp : Sp) : Prop where
  len : ∀ us H Q E, sp us H Q E → us.length = ps.length
  run : ∀ (A : Around) (outer : List Env) (s : Shared) (H : Hp) (args : Args) (us : List Value) (vs : List V) (Q : VK) (E : XK), A.guards = some [] → Room k A → Env0 P w K mg base A outer s H → BindsTo s fd args (ps.zip us) → Vals vs us → sp vs H Q E → codeAny (model P w) A (.call (.ref f) args) (CR CX0 outer P w H s Q E) s
section
variable {P : Program} {w : World} {K : PySem.W.Frag} {mg : Str → Option Value} {base : Heap}
theorem okG {x qual : Str} {st : Stmt} {f : Addr} {fd : FuncData} {N ps : List Str} {k : Nat} {sp : Sp} (F : Fun K x qual st f fd) (S : FnScope N ps (defScope st)) (ln : ∀ us H Q E, sp us H Q E → us.length = ps.length)
    (body : ∀ (cdv : Value) (A : Around) (outer : List Env) (s : Shared) (H : Hp) (vs : List V) (Q : VK) (E : XK), A.guards = some [] → Room k (A.deeper (envOfC qual (defScope st) s.heap.objs.size f cdv)) → sp vs H Q E →
      ∃ t, PSs (cxOf CX0 P w K mg base N qual (defScope st) f cdv A outer s H E).nox (defBody st) t ∧ t { nx := fun _ H' => Q .non H', rt := Q } (start N vs) H) : FnG P w K mg base (k + 1) f fd ps sp := by
  obtain ⟨oc, od, kV, doc, pm, an, cdv, ct, osl, rfl, lk, hcd⟩ := F.ex
  refine ⟨ln, fun A outer s H args us vs Q E gd room env bind rel ask => ?_⟩
  have inS : K.In s.heap := env.mod.kin.keeps fun b o e => (env.bs b o e).1
  have noL : s.heap.NoLimit := env.mod.nolimit.keeps fun b o e => (env.bs b o e).1
  refine codeAny_call_function room.depth (inS _ _ lk) rfl S.co S.gen rfl (PySem.W.codeRec_of inS hcd) (bind _ _ _ _ (wpAny_newFunctionEnv_cells S.kind (fun y hy => ?_) fun env' he s1 z => ?_))
  · rcases S.par y.1 (List.of_mem_zip (a := y.1) (b := y.2) hy).1 with q | q
    · exact Or.inl q
    · exact Or.inr ⟨q, PySem.W.cellsFrom_some _ _ _ (Or.inl q)⟩
  · subst he
    obtain ⟨t, h1, h2⟩ := body cdv A outer s H vs Q E gd (room.deeper _) ask
    have J := inv_start (CX := CX0) (E := E) S room.hd env (ln _ _ _ _ ask) rel z
    refine ⟨noL.keeps z.toInCall.keep, codeAny_func (wpAny_mono (h1.nox.run [] s1 _ H _ J h2) (fun fl s' r => ?_) fun _ _ r => r)⟩
    match fl, r with
    | .ret u, r =>
      obtain ⟨v, σ', H', I, rv, q⟩ := r
      exact ⟨v, H', I.os, I.bare, I.base, I.hok, rv, q⟩
    | .next, r =>
      obtain ⟨σ', H', I, q⟩ := r
      exact ⟨.non, H', I.os, I.bare, I.base, I.hok, rfl, q⟩
    | .brk, r =>
      obtain ⟨_, _, _, q⟩ := r
      exact q.elim
    | .cont, r =>
      obtain ⟨_, _, _, q⟩ := r
      exact q.elim
/-- what the abstract heap knows at the law's call: the tables T, the script at a unless K holds it -/
def at0 (K : PySem.W.Frag) (T : List Addr) (a : Addr) (o : HO) : Hp := fun b => if b ∈ T then some (.tbl #[]) else if b = a ∧ (K.lookup a).isNone = true then some o else none
theorem at0_cases {T : List Addr} {a b : Addr} {o u : HO} (h : at0 K T a o b = some u) : (b ∈ T ∧ u = .tbl #[]) ∨ (b ∉ T ∧ b = a ∧ K.lookup a = none ∧ u = o) := by
  unfold at0 at h
  by_cases h1 : b ∈ T
  · rw [if_pos h1] at h
    exact .inl ⟨h1, (Option.some.inj h).symm⟩
  · rw [if_neg h1] at h
    by_cases h2 : b = a ∧ (K.lookup a).isNone = true
    · rw [if_pos h2] at h
      exact .inr ⟨h1, h2.1, Option.isNone_iff_eq_none.mp h2.2, (Option.some.inj h).symm⟩
    · rw [if_neg h2] at h
      cases h
theorem law_at {mb : Str → Option Value} {k : Nat} {fa a : Addr} {cs : List (Addr × Addr)} {fd : FuncData} {x : Str} {sp : Sp} {s1 : Shared} {us : List Value} {ns : List Int} (inK : K.In s1.heap) (ng : s1.heap.Ns mainGlobals mg) (nb : s1.heap.Ns builtinsNs mb)
    (bb : ∀ y : Str, y ≠ "__name__" → mb y = bootBuiltins y) (lim : s1.heap.NoLimit) (gens : s1.gens = #[]) (te : ∀ p ∈ cs, s1.heap.get? p.2 = some (PySem.W.tabObj #[])) (tk : ∀ p ∈ cs, K.lookup p.2 = none) (tc : ∀ p ∈ cs, PySem.W.CodeHd s1.heap p.1 p.2)
    (bm : ∃ (bm : Addr) (ob : Obj), mg "__builtins__" = some (.ref bm) ∧ bm ≠ builtinsNs ∧ s1.heap.get? bm = some ob ∧ ob.cls = .type "module" ∧ ob.dict = some builtinsNs ∧ ob.data = .plain) (la : s1.heap.get? a = some { cls := .type "list", data := .seq us.toArray }) (iu : IntsAre us ns) (lu : ns.length ≤ sizeLine) (room : Room k callerA)
    (F : ∀ base : Heap, K.In base → base.Ns mainGlobals mg → (∀ p ∈ cs, LamX.TabB base mg p.1 p.2) → FnG P w K mg base k fa fd [x] sp) (bind : ∀ (s : Shared) (u : Value), BindsTo s fd ⟨[u], []⟩ [(x, u)])
    (ask : ∀ H : Hp, (∀ p ∈ cs, H p.2 = some (.tbl #[])) → SqL K H a (ns.map V.int) → sp [.ref a] H (fun v _ => v = .bl true) fun _ _ _ => False) :
    codeAny (model P w) callerA (.call (.ref fa) ⟨[.ref a], []⟩) (fun r s' => r = .ok (.ret (.bool true)) ∧ OldK s1.heap s'.heap ∧ s'.os = s1.os ∧ AllBare s'.gens) s1 := by
  have lv := iu.length
  let T := cs.map (·.2)
  let O : HO := .frz { cls := .type "list", data := .seq us.toArray } (.lst (ns.map V.int))
  have tT : ∀ b ∈ T, s1.heap.get? b = some (PySem.W.tabObj #[]) := fun b hb => by
    obtain ⟨p, hp, rfl⟩ := List.mem_map.mp hb
    exact te p hp
  have inT : ∀ p ∈ cs, p.2 ∈ T := fun p hp => List.mem_map.mpr ⟨p, hp, rfl⟩
  have naT : a ∉ T := fun z => by
    have q := tT a z
    rw [la] at q
    cases congrArg Obj.data (Option.some.inj q)
  -- an object that is neither a list nor an empty table is not tracked
  have un0 : ∀ {b : Addr} {o : Obj}, s1.heap.get? b = some o → (∀ v n, o.data ≠ .seq v n) → o.data ≠ .fields #[] → at0 K T a O b = none := fun {b o} e d1 d2 => by
    cases q : at0 K T a O b with
    | none => rfl
    | some u =>
      rcases at0_cases q with ⟨h1, _⟩ | ⟨_, h1, _⟩
      · rw [tT b h1] at e
        cases e
        exact absurd rfl d2
      · rw [h1, la] at e
        cases e
        exact absurd rfl (d1 _ _)
  have ns0 : ∀ {b : Addr} {m : Str → Option Value}, s1.heap.Ns b m → (hidT s1.heap (at0 K T a O)).Ns b m := fun ⟨o, es, ep, e, d, r⟩ =>
    ⟨o, es, ep, hidT_get e (un0 e (fun _ _ z => by rw [d] at z; cases z) fun z => by rw [d] at z; cases z), d, r⟩
  have in0 : K.In (hidT s1.heap (at0 K T a O)) := fun b o e => by
    refine hidT_get (inK b o e) ?_
    cases q : at0 K T a O b with
    | none => rfl
    | some u =>
      rcases at0_cases q with ⟨h1, _⟩ | ⟨_, h1, h2, _⟩
      · obtain ⟨p, hp, rfl⟩ := List.mem_map.mp h1
        rw [tk p hp] at e
        cases e
      · rw [h1, h2] at e
        cases e
  have mod0 : L2.Mod K mg (hidT s1.heap (at0 K T a O)) := ⟨in0, ns0 ng, ⟨mb, ns0 nb, bb⟩, let ⟨mc, h1, h2⟩ := lim; ⟨mc, ns0 h1, h2⟩⟩
  have tab0 : ∀ p ∈ cs, LamX.TabB (hidT s1.heap (at0 K T a O)) mg p.1 p.2 := fun p hp => by
    obtain ⟨bmA, ob, b1, b2, b3, b4, b5, b6⟩ := bm
    obtain ⟨oc, oes, oep, oe, od, _⟩ := ng
    obtain ⟨c0, v0, f0, t0, g0, u0, i0, x0, y0, e1, r1, r2, r3, rest⟩ := tc p hp
    refine ⟨⟨c0, v0, f0, t0, g0, u0, i0, x0, y0, hidT_get e1 (un0 e1 (fun _ _ z => by rw [r2] at z; cases z) fun z => ?_), r1, r2, r3, rest⟩, ⟨bmA, ob, b1, b2, fun z => ?_, fun z => ?_, hidT_get b3 (un0 b3 (fun _ _ z => by rw [b6] at z; cases z) fun z => by rw [b6] at z; cases z), b4, b5, b6⟩, fun z => ?_⟩
    · rw [r2] at z
      cases z
      simp at r3
    · rw [z, oe] at b3
      cases b3
      rw [od] at b6
      cases b6
    · rw [z, te p hp] at b3
      cases b3
      cases b6
    · rw [z, te p hp] at oe
      cases oe
      cases od
  have hok0 : HOk P w (at0 K T a O) s1.heap := fun b u q => by
    rcases at0_cases q with ⟨h1, rfl⟩ | ⟨_, rfl, _, rfl⟩
    · exact tT b h1
    · exact ⟨la, by rw [List.length_map]; exact lu, us, _, vals_ints iu, la⟩
  have sq0 : SqL K (at0 K T a O) a (ns.map V.int) := by
    cases q : K.lookup a with
    | some o =>
      have e := inK a o q
      rw [la] at e
      cases e
      exact .inr ⟨_, us.toArray, _, q, rfl, rfl, rfl, by rw [List.size_toArray, lv]; exact lu, by simpa using vals_ints iu⟩
    | none => exact .inl (.inr ⟨_, (if_neg naT).trans (if_pos ⟨rfl, by rw [q]; rfl⟩)⟩)
  have env0 : Env0 P w K mg (hidT s1.heap (at0 K T a O)) callerA [] s1 (at0 K T a O) := ⟨rfl, mod0, fun b o e => of_hidT e, Nat.le_of_eq (hidT_size _ _), trivial, fun b z => absurd (show b ∈ ([] : List Addr) from z) (by simp), hok0, .of_eq gens⟩
  refine codeAny_mono ((F _ in0 (ns0 ng) tab0).run callerA [] s1 (at0 K T a O) ⟨[.ref a], []⟩ [.ref a] [.ref a] _ _ rfl room env0 (bind s1 (.ref a)) (.cons rfl .nil) (ask _ (fun p hp => if_pos (inT p hp)) sq0)) fun r s' h => ?_
  match r, h with
  | .error e, h => exact False.elim h
  | .ok .next, h => exact False.elim h
  | .ok .brk, h => exact False.elim h
  | .ok .cont, h => exact False.elim h
  | .ok (.ret u), h =>
    obtain ⟨v, H', os, bare, un, hok', rv, q⟩ := h
    obtain rfl : v = .bl true := q
    obtain rfl : u = Value.bool true := rv
    have kept : ∀ b o, b ∉ T → s1.heap.get? b = some o → s'.heap.get? b = some o := fun b o nt e => by
      cases z : at0 K T a O b with
      | none => exact un.keep b o e z (fun y => absurd (show b ∈ ([] : List Addr) from y) (by simp)) (by simp)
      | some u =>
        rcases at0_cases z with ⟨h1, _⟩ | ⟨_, rfl, _, rfl⟩
        · exact absurd h1 nt
        · obtain ⟨e2, _⟩ := hok' b _ (un.frzs b _ _ z)
          rw [la] at e
          cases e
          exact e2
    have tabs : ∀ b ∈ T, ∃ more : Array Value, s'.heap.get? b = some (PySem.W.tabObj more) := fun b hb => by
      obtain ⟨more, z⟩ := un.tbls b #[] (if_pos hb)
      exact ⟨_, hok' b _ z⟩
    refine ⟨rfl, ⟨fun b o e => ?_, fun b o e => ?_⟩, os, bare⟩
    · by_cases hb : b ∈ T
      · obtain ⟨more, z⟩ := tabs b hb
        obtain ⟨p, hp, rfl⟩ := List.mem_map.mp hb
        have e3 := te p hp
        rw [e] at e3
        cases e3
        exact .inr (.inl ⟨((tc p hp).tab (te p hp)).isCodeTable, rfl, #[], more, rfl, by rw [Array.empty_append]; exact z⟩)
      · exact .inl (kept b o hb e)
    · by_cases hb : b ∈ T
      · obtain ⟨more, z⟩ := tabs b hb
        exact ⟨_, z⟩
      · exact ⟨o, kept b o hb e⟩
end
end Gd
namespace Tl
open PySem PySem.Spec PyProof.Rows L2 GxR Nw Dr Kp Se Cl Ct Lr Lp Tr
section
variable {P : Program} {w : World} {K : PySem.W.Frag} {mg : Str → Option Value} {base : Heap}
/-- a book and a tree by it, of six within one another at most -/
def spTr : Sp := fun vs H Q _ => ∃ (f c : Addr) (B : Nat), vs = [.ref f] ∧ Feed H f c B ∧ B ≤ 2 ^ 40 ∧
  ∀ (p : Addr) (b x : V) (css : List (List Int)) (t : Tr.T) (ct : List Int) (H' : Hp), Feed H' f c (B + 20000) → Ke (· = f) H H' → H' p = some (.tup [b, x]) → Bk H' b css → (∀ c ∈ css, IsCl c) → At H' t x → Tr.Cl css t ct → t.depth ≤ 6 → css.length ≤ 16 → Q (.ref p) H'
abbrev sSts : Stmt := topS 27
abbrev nSts : List Str := ["feed", "book"]
theorem scSts : FnScope nSts ["feed"] (defScope sSts) := ⟨rfl, rfl, rfl, by decide +kernel, rfl, by decide +kernel, by decide +kernel⟩
theorem ok_sts {f fD fT fB fS : Addr} {fd fdD fdT fdB fdS : FuncData} {k : Nat} (F : Fun K "_law_stree_case" "_law_stree_case" sSts f fd) (FD : Fun K "_law_sdraw" "_law_sdraw" sDrw fD fdD) (bD : Binds K fdD ["feed", "many"] []) (gD : mg "_law_sdraw" = some (.ref fD)) (GD : FnOk P w K mg base CX0 2 fD fdD ["feed", "many"] spDrw)
    (FT : Fun K "_law_sthings" "_law_sthings" sThg fT fdT) (bT : Binds K fdT ["feed", "least", "most"] []) (gT : mg "_law_sthings" = some (.ref fT)) (GT : FnOk P w K mg base CX0 3 fT fdT ["feed", "least", "most"] spThg)
    (FB : Fun K "_law_sbook" "_law_sbook" sBok fB fdB) (bB : Binds K fdB ["feed", "things", "most"] []) (gB : mg "_law_sbook" = some (.ref fB)) (GB : FnOk P w K mg base CX0 4 fB fdB ["feed", "things", "most"] spBok)
    (FS : Fun K "_law_stree" "_law_stree" sStt fS fdS) (bS : Binds K fdS ["feed", "book", "deep"] []) (gS : mg "_law_stree" = some (.ref fS)) (GS : FnOk P w K mg base CX0 13 fS fdS ["feed", "book", "deep"] (spStt 10)) :
    FnOk P w K mg base CX0 (k + 14) f fd ["feed"] (spTr) := by
  refine F.ok scSts (fun vs H Q E h => ?_) (fun cdv A outer s H vs Q E hr h => ?_)
  · obtain ⟨f, c, B, rfl, _⟩ := h
    rfl
  · obtain ⟨f, c, B, rfl, hF, hB, q⟩ := h
    have hr2 : Room 2 _ := hr.mono (by omega)
    have hr3 : Room 3 _ := hr.mono (by omega)
    have hr4 : Room 4 _ := hr.mono (by omega)
    have hr13 : Room 13 _ := hr.mono (by omega)
    refine ⟨_, (Evl.pss_cut (ps_set (i := 1) scSts.nd rfl (.inl rfl) (pe_call GB hr4 (by rfl) gB FB.kp bB .nil pass0 (pa_cons (pv 0) (pa_cons (pe_call GT hr3 (by rfl) gT FT.kp bT .nil pass0 (pa_cons (pv 0) (pa_cons pe_int (pa_cons pe_int pa_nil)))) (pa_cons pe_int pa_nil)))))
      (pss_one (ps_ret (pe_tupN (pa_cons (pv 1) (pa_cons (pe_ix ix_tup (pe_call GS hr13 (by rfl) gS FS.kp bS .nil pass0 (pa_cons (pv 0) (pa_cons (pv 1) (pa_cons (pe_op op_add pe_int (pe_call GD hr2 (by rfl) gD FD.kp bD .nil pass0 (pa_cons (pv 0) (pa_cons pe_int pa_nil)))) pa_nil)))) pe_int (fun _ _ => rfl)) pa_nil)))))), ?_⟩
    refine Evl.q_cut (M := fun σ' H' => ∃ (b : V) (css : List (List Int)), σ' = [some (.ref f), some b] ∧ Feed H' f c (B + 600) ∧ Ke (· = f) H H' ∧ Bk H' b css ∧ (∀ c ∈ css, IsCl c) ∧ 1 ≤ css.length ∧ css.length ≤ 16) ?_ ?_
    · refine ⟨_, rfl, _, rfl, f, c, 2, 5, B, rfl, by decide, by decide, by decide, hF, by omega, fun ks t H1 F1 k1 fr ht Tk l1 l2 => ?_⟩
      have ntf := (not_f fr hF).1
      refine ⟨f, c, t, 7, _, ks, rfl, by decide, by decide, ht, Tk, (fun z => by rw [z] at l1; exact absurd l1 (by decide)), ntf, F1, by omega, fun css p H2 F2 k2 _ hb hc m1 m2 => ?_⟩
      exact ⟨_, css, rfl, F2.mono (by omega), k1.trans k2, hb, fun c hc' => (hc c hc').1, m1, by omega⟩
    rintro σ' H1 ⟨b, css, rfl, F1, k1, hb, ib, m1, m2⟩
    refine ⟨_, rfl, _, rfl, _, rfl, _, rfl, f, c, 4, _, rfl, by decide, by decide, F1, by omega, fun d H2 d0 d1 F2 b2 => ?_⟩
    have k2 : Ke (· = f) H1 H2 := .but F1 b2
    have g4 : 4 ^ ((2 + d).toNat + 1) ≤ 4096 := Nat.le_trans (pow_le (show (2 + d).toNat + 1 ≤ 6 by omega)).1 (by decide)
    have g2 : 2 ^ ((2 + d).toNat + 1) ≤ 64 := Nat.le_trans (pow_le (show (2 + d).toNat + 1 ≤ 6 by omega)).2 (by decide)
    refine ⟨_, _, rfl, rfl, f, c, b, (2 + d).toNat, _, css, ?_, by omega, by omega, hb.ke k2, ib, m1, by omega, F2, by omega, fun v t ct H3 F3 k3 tc cl dp pc => ?_⟩
    · show [V.ref f, b, V.int (2 + d)] = _
      rw [show (((2 + d).toNat : Nat) : Int) = 2 + d by omega]
    obtain ⟨p, x, y, rfl, hp, hx, hy⟩ := tc
    refine ⟨p, _, 0, x, rfl, rfl, .of hp, rfl, ?_⟩
    refine ⟨by show 2 ≤ sizeLine; decide, fun pp H4 np s4 hpp _ => ?_⟩
    have k34 : Ke (· = f) H3 H4 := .same s4
    have k14 : Ke (· = f) H1 H4 := (k2.trans k3).trans k34
    exact q pp b x css t ct H4 ((F3.same s4).mono (by omega)) (k1.trans k14) hpp (hb.ke k14) ib (At.ke k34 hx) cl (by omega) m2

end
end Tl
namespace K20
open PySem PySem.Spec PyProof.Rows L2 GxR Nw Dr Kp Se Cl Ct Lr Lp Od Og Ta Tj
open Tr (T At)
abbrev sLaw : Stmt := topS 37
abbrev nLaw : List Str := ["script", "feed", "turn", "book", "tree", "way", "piece", "things", "odd", "thing", "seen", "found", "due", "k", "i"]
theorem scL : FnScope nLaw ["script"] (defScope sLaw) := ⟨rfl, rfl, rfl, by decide +kernel, rfl, by decide +kernel, by decide +kernel⟩
structure Zk (mg : Str → Option Value) : Prop where
  z_range : mg "range" = none
  z_repr : mg "repr" = none
  z_isinstance : mg "isinstance" = none
  z_tuple : mg "tuple" = none
  z_bool : mg "bool" = none
def mR (R : Addr) (m : Nat) : Hp → Nat := fun H => match H R with
  | some (.lst xs) => m - xs.length
  | _ => 0
theorem mR_lst {R : Addr} {m : Nat} {H : Hp} {xs : List V} (h : H R = some (.lst xs)) : mR R m H = m - xs.length := by
  unfold mR
  rw [h]
def cBook : List (List Int) := [[1, 2], [-2, -1], [-1, 3]]
theorem cb_cl : ∀ c ∈ cBook, IsCl c := by
  intro c hc
  have key : ∀ c ∈ cBook, c.Pairwise (· < ·) ∧ (∀ k ∈ c, k ≠ 0 ∧ -8 ≤ k ∧ k ≤ 8) ∧ (∀ k ∈ c, -k ∉ c) ∧ c.length ≤ 8 := by decide
  obtain ⟨a, b, d, e⟩ := key c hc
  exact ⟨a, b, d, e⟩
theorem isTree_tup {css : List (List Int)} {d : PyData} (h : IsTree css d) : tuD d = true := by
  obtain ⟨t, rfl, _⟩ := isTree_iff.mp h
  cases t <;> rfl
def spLaw (Po : Addr) (K : PySem.W.Frag) : Sp := fun vs H Q _ => ∃ (a : Addr) (ns : List Int), vs = [.ref a] ∧ SqL K H a (ns.map V.int) ∧ TabG H Po ∧ ∀ H', Q (.bl true) H'
section
variable {P : Program} {w : World} {K : PySem.W.Frag} {mg : Str → Option Value} {base : Heap}
theorem ok_law {f fO fD fS fZ fP fI fU fR Po : Addr} {fd fdO fdD fdS fdZ fdP fdI fdU fdR : FuncData} (FL : Fun K "law" "law" sLaw f fd) (T : Zk mg)
    (FO : Fun K "_law_sopen" "_law_sopen" sOpn fO fdO) (bO : Binds K fdO ["script"] []) (gO : mg "_law_sopen" = some (.ref fO)) (GO : FnOk P w K mg base CX0 1 fO fdO ["script"] (spOpn K))
    (FD : Fun K "_law_sdraw" "_law_sdraw" sDrw fD fdD) (bD : Binds K fdD ["feed", "many"] []) (gD : mg "_law_sdraw" = some (.ref fD)) (GD : FnOk P w K mg base CX0 2 fD fdD ["feed", "many"] spDrw)
    (FS : Fun K "_law_stree_case" "_law_stree_case" Tl.sSts fS fdS) (bS : Binds K fdS ["feed"] []) (gS : mg "_law_stree_case" = some (.ref fS)) (GS : FnOk P w K mg base CX0 14 fS fdS ["feed"] Tl.spTr)
    (FZ : Fun K "_law_s_odd" "_law_s_odd" sOdd fZ fdZ) (bZ : Binds K fdZ ["book", "piece"] []) (gZ : mg "_law_s_odd" = some (.ref fZ)) (GZ : FnOk P w K mg base CX0 1 fZ fdZ ["book", "piece"] spOdd)
    (FP : Fun K "_law_s_put" "_law_s_put" sPtt fP fdP) (bP : Binds K fdP ["tree", "way", "thing"] []) (gP : mg "_law_s_put" = some (.ref fP)) (GP : FnOk P w K mg base CX0 8 fP fdP ["tree", "way", "thing"] (spPtt 6))
    (FI : Fun K "is_tree" "is_tree" sIst fI fdI) (bI : Binds K fdI ["book", "thing"] []) (gI : mg "is_tree" = some (.ref fI)) (GI : FnOk P w K mg base CX0 46 fI fdI ["book", "thing"] (spItG Po))
    (FU : Fun K "_law_s_due" "_law_s_due" sDue fU fdU) (bU : Binds K fdU ["book", "thing"] []) (gU : mg "_law_s_due" = some (.ref fU)) (GU : FnOk P w K mg base CX0 43 fU fdU ["book", "thing"] spDue)
    (FR : Fun K "_law_s_great_right" "_law_s_great_right" sGrr fR fdR) (bR : Binds K fdR ["feed"] []) (gR : mg "_law_s_great_right" = some (.ref fR)) (GR : Gx2.FnX P w K mg base CX0 48 fR fdR ["feed"] (spGrr Po)) :
    Gd.FnG P w K mg base 49 f fd ["script"] (spLaw Po K) := by
  refine Gd.okG FL scL (fun vs H Q E h => ?_) (fun cdv A outer s H vs Q E gd0 hr h => ?_)
  · obtain ⟨a, ns, rfl, _⟩ := h
    rfl
  · obtain ⟨a, ns, rfl, hS, tg, q⟩ := h
    have hr1 : Room 1 _ := hr.mono (by decide)
    have hr2 : Room 2 _ := hr.mono (by decide)
    have hr8 : Room 8 _ := hr.mono (by decide)
    have hr14 : Room 14 _ := hr.mono (by decide)
    have hr43 : Room 43 _ := hr.mono (by decide)
    have hr46 : Room 46 _ := hr.mono (by decide)
    have hr48 : Room 48 _ := hr
    have gd : (A.deeper (envOfC "law" (defScope sLaw) s.heap.objs.size f cdv)).guards = some [] := gd0
    have hu : (A.deeper (envOfC "law" (defScope sLaw) s.heap.objs.size f cdv)).units + 70 < cLine := by
      have := hr.un
      omega
    refine ⟨_, (Evl.pss_cut (ps_set (i := 1) scL.nd rfl (.inl rfl) (pe_call GO hr1 (by rfl) gO FO.kp bO .nil pass0 (pa_cons (pv 0) pa_nil)))
      (Evl.pss_cut (ps_for PassesOwn.never rfl (pi_range1 (by rfl) T.z_range (pa_cons pe_int pa_nil)) (pg_name (i := 2) scL.nd rfl (.inl rfl)) (Evl.pss_cut (ps_asg (pe_call GS hr14 (by rfl) gS FS.kp bS .nil pass0 (pa_cons (pv 1) pa_nil)) (pg_tup rfl (pgs_cons (pg_name (i := 3) scL.nd rfl (.inl rfl)) (pgs_cons (pg_name (i := 4) scL.nd rfl (.inl rfl)) pgs_nil))))
      (Evl.pss_cut (ps_par (i := 5) (j := 6) (by rfl) scL.nd rfl rfl (by decide) rfl rfl (pa_cons (pe_lstN pa_nil) (pa_cons (pv 4) pa_nil)) (by rfl))
      (Evl.pss_cut (ps_while PassesOwn.never (PW.pt (pw_and (pt_cmpR op_eq (pe_ix ix_tup (pv 6) pe_int (fun _ _ => rfl)) pe_str (nomark _)) (pw_and1 (pt_cmpR op_gt (pe_call GD hr2 (by rfl) gD FD.kp bD .nil pass0 (pa_cons (pv 1) (pa_cons pe_int pa_nil))) pe_int (nomark _))))) (Evl.pss_cut (ps_expr (pe_bm PySem.F.plainAttrs_list PySem.F.slot_list_append PySem.F.type_list_append mt_append (pv 5) (pa_cons (pe_op op_add pe_int (pe_call GD hr2 (by rfl) gD FD.kp bD .nil pass0 (pa_cons (pv 1) (pa_cons pe_int pa_nil)))) pa_nil)))
      (pss_one (ps_set (i := 6) scL.nd rfl (.inl rfl) (pe_ix ix_tup (pv 6) (pe_ix ix_list (pv 5) (pe_un un_neg pe_int) (fun _ _ => rfl)) (fun _ _ => rfl))))))
      (Evl.pss_cut (ps_set (i := 7) scL.nd rfl (.inl rfl) (pe_lstN (pa_cons (pv 4) (pa_cons pe_non (pa_cons pe_int (pa_cons pe_bl (pa_cons (pe_lstN pa_nil) (pa_cons (pe_tupN pa_nil) (pa_cons pe_str (pa_cons (pe_lstN (pa_cons (pv 4) pa_nil)) (pa_cons (pe_tupN (pa_cons (pv 4) pa_nil)) pa_nil)))))))))))
      (Evl.pss_cut (ps_for PassesOwn.never rfl (pi_list (pe_call GZ hr1 (by rfl) gZ FZ.kp bZ .nil pass0 (pa_cons (pv 3) (pa_cons (pv 6) pa_nil)))) (pg_name (i := 8) scL.nd rfl (.inl rfl)) (pss_one (ps_expr (pe_bm PySem.F.plainAttrs_list PySem.F.slot_list_append PySem.F.type_list_append mt_append (pv 7) (pa_cons (pe_call GP hr8 (by rfl) gP FP.kp bP .nil pass0 (pa_cons (pv 4) (pa_cons (pv 5) (pa_cons (pv 8) pa_nil)))) pa_nil)))))
      (pss_one (ps_for PassesOwn.never rfl (pi_list (pv 7)) (pg_name (i := 9) scL.nd rfl (.inl rfl)) (Evl.pss_cut (ps_set (i := 10) scL.nd rfl (.inl rfl) (pe_callB (Rpa.cr_reprA gd hu) (by rfl) T.z_repr (by decide +kernel) (pa_cons (pv 9) pa_nil)))
      (Evl.pss_cut (ps_set (i := 11) scL.nd rfl (.inl rfl) (pe_call GI hr46 (by rfl) gI FI.kp bI .nil pass0 (pa_cons (pv 3) (pa_cons (pv 9) pa_nil))))
      (Evl.pss_cut (ps_set (i := 12) scL.nd rfl (.inl rfl) (pe_and (pe_callB call_isi (by rfl) T.z_isinstance (by decide +kernel) (pa_cons (pv 9) (pa_cons (pe_bltn (v := .ty "tuple") (u := .type "tuple") (by rfl) T.z_tuple (by decide +kernel) rfl) pa_nil))) (pe_one (pe_call GU hr43 (by rfl) gU FU.kp bU .nil pass0 (pa_cons (pv 3) (pa_cons (pv 9) pa_nil))))))
      (Evl.pss_cut (ps_if (PW.pt (pw_or (pt_not (pt_val (pe_callB call_isi (by rfl) T.z_isinstance (by decide +kernel) (pa_cons (pv 11) (pa_cons (pe_bltn (v := .ty "bool") (u := .type "bool") (by rfl) T.z_bool (by decide +kernel) rfl) pa_nil))))) (pw_or1 (pt_cmpR op_ne (pv 11) (pv 12) (nomark _))))) pss_never pss_nil)
      (pss_one (ps_if (pt_cmpR op_ne (pe_callB (Rpa.cr_reprA gd hu) (by rfl) T.z_repr (by decide +kernel) (pa_cons (pv 9) pa_nil)) (pv 10) (nomark _)) pss_never pss_nil))))))))))))))
      (Evl.pss_cut (ps_set (i := 3) scL.nd rfl (.inl rfl) (pe_tupN (pa_cons (pe_tupN (pa_cons pe_int (pa_cons pe_int pa_nil))) (pa_cons (pe_tupN (pa_cons (pe_un un_neg pe_int) (pa_cons (pe_un un_neg pe_int) pa_nil))) (pa_cons (pe_tupN (pa_cons (pe_un un_neg pe_int) (pa_cons pe_int pa_nil))) pa_nil)))))
      (Evl.pss_cut (ps_for PassesOwn.never rfl (pi_range2 (by rfl) T.z_range (pa_cons (pe_un un_neg pe_int) (pa_cons pe_int pa_nil))) (pg_name (i := 13) scL.nd rfl (.inl rfl)) (pss_one (ps_for PassesOwn.never rfl (pi_range1 (by rfl) T.z_range (pa_cons pe_int pa_nil)) (pg_name (i := 14) scL.nd rfl (.inl rfl)) (Evl.pss_cut (ps_set (i := 9) scL.nd rfl (.inl rfl) (pe_tupN (pa_cons pe_str (pa_cons (pe_tupN (pa_cons pe_str (pa_cons (pe_op op_fdiv (pv 14) pe_int) pa_nil))) (pa_cons (pe_tupN (pa_cons pe_str (pa_cons (pe_op op_mod (pv 14) pe_int) pa_nil))) (pa_cons (pv 13) pa_nil))))))
      (pss_one (ps_if (pt_cmpR op_ne (pe_call GI hr46 (by rfl) gI FI.kp bI .nil pass0 (pa_cons (pv 3) (pa_cons (pv 9) pa_nil))) (pe_call GU hr43 (by rfl) gU FU.kp bU .nil pass0 (pa_cons (pv 3) (pa_cons (pv 9) pa_nil))) (nomark _)) pss_never pss_nil))))))
      (pss_one (ps_ret (Gx2.pe_callX GR gd hr48 (by rfl) gR FR.kp bR .nil pass0 (pa_cons (pv 1) pa_nil)))))))), ?_⟩
    refine Evl.q_cut (M := fun σ' H' => ∃ fe c : Addr, σ' = some (.ref a) :: some (.ref fe) :: List.replicate 13 none ∧ Feed H' fe c 0 ∧ TabG H' Po) ?_ ?_
    · exact ⟨.ref a, rfl, a, ns, rfl, hS, fun fe c H1 nf nc s1 F1 => ⟨fe, c, rfl, F1, (Ke.same (F := Nof) s1).tabs _ tg⟩⟩
    rintro σ' H1 ⟨fe, c, rfl, F1, t1⟩
    -- two turns
    refine Evl.q_cut (M := fun σ' H' => ∃ y2 y3 y4 y5 y6 y7 y8 y9 y10 y11 y12 : Option V, σ' = [some (.ref a), some (.ref fe), y2, y3, y4, y5, y6, y7, y8, y9, y10, y11, y12, none, none] ∧ Feed H' fe c 60000 ∧ TabG H' Po) ?_ ?_
    · refine ⟨2, rfl, by decide, by decide, for_range (Pv := fun i σ H' => ∃ y2 y3 y4 y5 y6 y7 y8 y9 y10 y11 y12 : Option V, σ = [some (.ref a), some (.ref fe), y2, y3, y4, y5, y6, y7, y8, y9, y10, y11, y12, none, none] ∧ Feed H' fe c (30000 * i) ∧ TabG H' Po) ?_ ?_ ?_⟩
      · exact ⟨none, none, none, none, none, none, none, none, none, none, none, rfl, F1, t1⟩
      · clear F1 t1 H1
        rintro i σ H1 hi ⟨y2, y3, y4, y5, y6, y7, y8, y9, y10, y11, y12, rfl, F1, t1⟩
        have hi : i < 2 := hi
        -- book, tree
        refine Evl.q_cut (M := fun σ' H' => ∃ (b x : V) (css : List (List Int)) (t : Tr.T) (ct : List Int), σ' = [some (.ref a), some (.ref fe), some (.int (0 + (i : Int))), some b, some x, y5, y6, y7, y8, y9, y10, y11, y12, none, none] ∧ Feed H' fe c (30000 * i + 20000) ∧ TabG H' Po ∧ Bk H' b css ∧ (∀ c ∈ css, IsCl c) ∧ At H' t x ∧ Tr.Cl css t ct ∧ t.depth ≤ 6 ∧ css.length ≤ 16) ?_ ?_
        · refine ⟨_, rfl, fe, c, _, rfl, F1, by omega, fun p b x css t ct H3 F3 k3 hp hb ib ht cl dp lc => ?_⟩
          exact ⟨p, _, rfl, .of hp, rfl, _, _, rfl, _, _, rfl, rfl, b, x, css, t, ct, rfl, F3, k3.tabs _ t1, hb, ib, ht, cl, dp, lc⟩
        clear F1 t1 H1
        rintro σ' H1 ⟨b, x, css, t, ct, rfl, F1, t1, hb, ib, ht, cl, dp, lc⟩
        have nb : Nb t := nb_cl ib (by omega) cl
        -- way, piece
        refine Evl.q_cut (M := fun σ' H' => ∃ W : Addr, σ' = [some (.ref a), some (.ref fe), some (.int (0 + (i : Int))), some b, some x, some (.ref W), some x, y7, y8, y9, y10, y11, y12, none, none] ∧ Same H1 H' ∧ H1 W = none ∧ H' W = some (.lst [])) ?_ ?_
        · exact ⟨Nat.zero_le _, fun p G np s2 hp _ => ⟨_, rfl, _, _, rfl, p, rfl, s2, np, hp⟩⟩
        rintro σ' H2 ⟨W, rfl, s2, nW, hW⟩
        have nWf : W ≠ fe := F1.nf nW
        have nWc : W ≠ c := F1.nc nW
        -- down
        refine Evl.q_cut (M := fun σ' H' => ∃ (y : V) (wy : List Bool) (u : Tr.T), σ' = [some (.ref a), some (.ref fe), some (.int (0 + (i : Int))), some b, some x, some (.ref W), some y, y7, y8, y9, y10, y11, y12, none, none] ∧ Feed H' fe c (30000 * i + 20100) ∧ TabG H' Po ∧ Bk H' b css ∧ At H' t x ∧ At H' u y ∧ Way t wy u ∧ H' W = some (.lst (wy.map fun b => V.int (wi b)))) ?_ ?_
        · refine while_by (fun σ H' => ∃ (y : V) (wy : List Bool) (u : Tr.T), σ = [some (.ref a), some (.ref fe), some (.int (0 + (i : Int))), some b, some x, some (.ref W), some y, y7, y8, y9, y10, y11, y12, none, none] ∧ Feed H' fe c (30000 * i + 20000 + 2 * wy.length) ∧ TabG H' Po ∧ Bk H' b css ∧ At H' t x ∧ At H' u y ∧ Way t wy u ∧ H' W = some (.lst (wy.map fun b => V.int (wi b)))) (fun _ H' => mR W 8 H') ?_ ?_ ?_
          · exact ⟨x, [], t, rfl, F1.same s2, (Ke.same (F := Nof) s2).tabs _ t1, hb.ke (.same s2) (F := Nof), atS s2 ht, atS s2 ht, rfl, hW⟩
          · rintro σ G ⟨y, wy, u, rfl, F3, t3, hb3, ht3, hu3, way, hW3⟩
            obtain ⟨nbu, dpu⟩ := way_sub way nb
            cases u with
            | leaf n =>
              obtain ⟨p, rfl, hp⟩ := id hu3
              refine ⟨_, rfl, p, _, 0, .str "book", rfl, rfl, .of hp, rfl, rfl, false, by simp; decide, ?_⟩
              exact ⟨.ref p, wy, .leaf n, rfl, F3.mono (by omega), t3, hb3, ht3, hu3, way, hW3⟩
            | cut u1 u2 k =>
              obtain ⟨p, v1, v2, rfl, hp, h1, h2⟩ := id hu3
              have dpu : (1 + max u1.depth u2.depth) + wy.length ≤ t.depth := dpu
              have pu1 := u1.pos
              refine ⟨_, rfl, p, _, 0, .str "cut", rfl, rfl, .of hp, rfl, rfl, true, by simp, ?_⟩
              refine ⟨_, rfl, fe, c, 4, _, rfl, by decide, by decide, F3, by omega, fun d G1 d0 d1 F4 b4 => ?_⟩
              have k4 : Ke (· = fe) G G1 := .but F3 b4
              have hW4 : G1 W = some (.lst (wy.map fun b => V.int (wi b))) := (b4 W nWf).trans hW3
              refine ⟨_, _, rfl, rfl, _, rfl, ite2 (fun e => ?_) (fun e => ?_)⟩
              · -- one way
                refine Evl.q_cut (M := fun σ' G' => ∃ b1 : Bool, σ' = [some (.ref a), some (.ref fe), some (.int (0 + (i : Int))), some b, some x, some (.ref W), some (.ref p), y7, y8, y9, y10, y11, y12, none, none] ∧ Feed G' fe c (30000 * i + 20000 + 2 * wy.length + 2) ∧ TabG G' Po ∧ Bk G' b css ∧ At G' t x ∧ At G' (.cut u1 u2 k) (.ref p) ∧ G' W = some (.lst ((wy ++ [b1]).map fun b => V.int (wi b)))) ?_ ?_
                · refine ⟨_, rfl, .inl ⟨rfl, _, .of hW4⟩, _, rfl, fe, c, 2, _, rfl, by decide, by decide, F4, by omega, fun e G2 e0 e1 F5 b5 => ?_⟩
                  have k5 : Ke (· = fe) G1 G2 := .but F4 b5
                  have k45 := k4.trans k5
                  have hW5 : G2 W = some (.lst (wy.map fun b => V.int (wi b))) := (b5 W nWf).trans hW4
                  have kw : Ke (· = W) G2 (upd G2 W (.lst (wy.map (fun b => V.int (wi b)) ++ [V.int (1 + e)]))) := ke_wrG rfl hW5
                  have lw : (wy.map fun b => V.int (wi b)).length ≤ 1000 := by rw [List.length_map]; omega
                  refine ⟨_, _, rfl, rfl, W, _, _, rfl, rfl, hW5, small1000 (by omega), decide (e = 1), rfl, (F5.upd nWf nWc).mono (by omega), kw.tabs _ (k45.tabs _ t3), (hb3.ke k45).ke kw, At.ke kw (At.ke k45 ht3), At.ke kw (At.ke k45 hu3), ?_⟩
                  rw [upd_same, List.map_append]
                  rcases (show e = 0 ∨ e = 1 by omega) with rfl | rfl <;> rfl
                rintro σ' G2 ⟨b1, rfl, F5, t5, hb5, ht5, hu5, hW5⟩
                obtain ⟨p', w1, w2, ep, hp5, g1, g2⟩ := id hu5
                cases ep
                have ll : ((wy ++ [b1]).map fun b => V.int (wi b)).length = wy.length + 1 := by rw [List.length_map, List.length_append]; rfl
                have lst : ((wy ++ [b1]).map fun b => V.int (wi b))[((wy ++ [b1]).map fun b => V.int (wi b)).length - 1]? = some (.int (wi b1)) := by
                  rw [ll, List.map_append, List.getElem?_append_right (by rw [List.length_map]; omega), List.length_map]
                  rw [show wy.length + 1 - 1 - wy.length = 0 by omega]
                  rfl
                have way2 := way_snoc b1 way
                refine ⟨_, rfl, _, rfl, _, rfl, W, _, -1, _, rfl, rfl, .of hW5, at_last lst, p, _, wi b1, (if b1 then w2 else w1), rfl, rfl, .of hp5, ?_, ?_⟩
                · cases b1 <;> rfl
                · refine ⟨⟨_, wy ++ [b1], _, rfl, F5.mono (by rw [List.length_append]; show _ ≤ 30000 * i + 20000 + 2 * (wy.length + 1); omega), t5, hb5, ht5, ?_, way2, hW5⟩, ?_⟩
                  · cases b1
                    · exact g1
                    · exact g2
                  · rw [mR_lst hW5, mR_lst hW3, ll, List.length_map]
                    omega
              · exact ⟨.ref p, wy, .cut u1 u2 k, rfl, F4.mono (by omega), k4.tabs _ t3, hb3.ke k4, At.ke k4 ht3, At.ke k4 hu3, way, hW4⟩
          · rintro σ G Q1 Q2 hq ⟨v, e, a', xs, j, y, e1, e2, e3, e4, e5, bt, e6, z⟩
            refine ⟨v, e, a', xs, j, y, e1, e2, e3, e4, e5, bt, e6, ?_⟩
            cases bt with
            | false => exact hq _ _ z
            | true =>
              obtain ⟨v1, g1, f1, c1, m1, B1, g2, g3, g4, g5, g6, zz⟩ := z
              refine ⟨v1, g1, f1, c1, m1, B1, g2, g3, g4, g5, g6, fun d H2 d0 d1 F4 b4 => ?_⟩
              obtain ⟨i1, i2, r1, r2, bb, r3, z3⟩ := zz d H2 d0 d1 F4 b4
              exact ⟨i1, i2, r1, r2, bb, r3, hq _ _ z3⟩
        clear F1 t1 hb ht s2 nW hW
        clear H1 H2
        rintro σ' H1 ⟨y, wy, u, rfl, F1, t1, hb, ht, hu, way, hW⟩
        obtain ⟨nbu, dpu⟩ := way_sub way nb
        have lwy : wy.length ≤ 6 := by omega
        obtain ⟨ba, bvs, rfl, hbt, lb, aB⟩ := id hb
        have p63 : t.pieces ≤ 63 := by
          have p := pieces_depth (t := t)
          have g : 2 ^ t.depth ≤ 2 ^ 6 := Nat.pow_le_pow_right (by decide) dp
          omega
        have ott : Ot 1890 6 (datT t) := (ot_tree nb).mono (by omega) dp
        -- things
        refine Evl.q_cut (M := fun σ' H' => ∃ (S : Addr) (tvs : List V) (tds : List PyData), σ' = [some (.ref a), some (.ref fe), some (.int (0 + (i : Int))), some (.ref ba), some x, some (.ref W), some y, some (.ref S), y8, y9, y10, y11, y12, none, none] ∧ Same H1 H' ∧ H1 S = none ∧ H' S = some (.lst tvs) ∧ OdAll (· = S) H' tvs tds ∧ (∀ d ∈ tds, Ot 8000 14 d) ∧ tvs.length = 9) ?_ ?_
        · refine ⟨_, rfl, Nat.zero_le _, fun p1 G1 n1 u1 q1 _ => ?_⟩
          refine ⟨Nat.zero_le _, fun p2 G2 n2 u2 q2 _ => ?_⟩
          refine ⟨_, rfl, by show 1 ≤ sizeLine; decide, fun p3 G3 n3 u3 q3 _ => ?_⟩
          refine ⟨_, rfl, by show 1 ≤ sizeLine; decide, fun p4 G4 n4 u4 q4 _ => ?_⟩
          refine ⟨by show 9 ≤ sizeLine; decide, fun S G5 nS u5 q5 _ => ?_⟩
          have w4 := u1.trans (u2.trans (u3.trans u4))
          have w5 := w4.trans u5
          have od : ∀ {G : Hp}, Same H1 G → OdV (· = S) G x (datT t) := fun s => od_of_at (atS s ht)
          refine ⟨S, _, [datT t, .none, .int 0, .bool true, .list [], .tuple [], .str "book", .list [datT t], .tuple [datT t]], rfl, w5, w4.free nS, q5, ?_, ?_, rfl⟩
          · refine .cons (od w5) (.cons .non (.cons (.int _) (.cons (.bl _) (.cons (.lst ((u2.trans (u3.trans (u4.trans u5))) _ _ q1) (fun z => ne_of_none ((u2.trans (u3.trans u4)) _ _ q1) nS z) .nil) (.cons (.tup ((u3.trans (u4.trans u5)) _ _ q2) .nil) (.cons (.str _) (.cons (.lst ((u4.trans u5) _ _ q3) (fun z => ne_of_none (u4 _ _ q3) nS z) (.cons (od w5) .nil)) (.cons (.tup (u5 _ _ q4) (.cons (od w5) .nil)) .nil))))))))
          · intro d hd
            simp only [List.mem_cons, List.not_mem_nil, or_false] at hd
            rcases hd with rfl | rfl | rfl | rfl | rfl | rfl | rfl | rfl | rfl
            · exact ott.mono (by decide) (by decide)
            · exact ot_of (by decide +kernel)
            · exact ot_of (by decide +kernel)
            · exact ot_of (by decide +kernel)
            · exact ot_of (by decide +kernel)
            · exact ot_of (by decide +kernel)
            · exact ot_of (by decide +kernel)
            · exact OtAll.lst (.cons ott .nil) (by show 1890 + 0 + 2 * 1 + 13 ≤ 8000; decide) (by decide)
            · exact OtAll.tup (.cons ott .nil) (by show 1890 + 0 + 2 * 1 + 13 ≤ 8000; decide) (by decide)
        rintro σ' H2 ⟨S, tvs, tds, rfl, s2, nS, hS2, oS, tS, lS⟩
        have nSf : S ≠ fe := F1.nf nS
        have nSc : S ≠ c := F1.nc nS
        have nSW : W ≠ S := ne_of_none hW nS
        -- odd ones put in
        refine Evl.q_cut (M := fun σ' H' => ∃ (y8 : Option V) (tvs : List V) (tds : List PyData), σ' = [some (.ref a), some (.ref fe), some (.int (0 + (i : Int))), some (.ref ba), some x, some (.ref W), some y, some (.ref S), y8, y9, y10, y11, y12, none, none] ∧ Ke (· = S) H2 H' ∧ H' S = some (.lst tvs) ∧ OdAll (· = S) H' tvs tds ∧ (∀ d ∈ tds, Ot 8000 14 d)) ?_ ?_
        · refine ⟨_, rfl, _, rfl, ba, bvs, y, u, rfl, s2 _ _ hbt, by omega, atS s2 hu, nbu, by omega, fun D us N H3 ob n80 => ?_⟩
          obtain ⟨ods, od, al⟩ := ob.od
          have nDS : D ≠ S := fun z => by
            have := ob.n
            rw [z, hS2] at this
            cases this
          have od' : OdAll (· = S) H3 us ods := od.un fun b z => by
            rw [z]
            exact ⟨_, hS2⟩
          have lus := ob.l
          refine ⟨D, rfl, ⟨_, .of ob.h⟩, for_list (K := K) (a := D) (xs := us) (Pv := fun j σ G => ∃ (y8 : Option V) (tvs : List V) (tds : List PyData), σ = [some (.ref a), some (.ref fe), some (.int (0 + (i : Int))), some (.ref ba), some x, some (.ref W), some y, some (.ref S), y8, y9, y10, y11, y12, none, none] ∧ Ke (· = S) H3 G ∧ G S = some (.lst tvs) ∧ OdAll (· = S) G tvs tds ∧ (∀ d ∈ tds, Ot 8000 14 d) ∧ tvs.length = 9 + j) ?_ (fun j σ G _ z => ?_) ?_ ?_⟩
          · exact ⟨y8, tvs, tds, rfl, .refl _ _, ob.s _ _ hS2, oS.ke (.same ob.s), tS, lS⟩
          · obtain ⟨_, _, _, _, kk, _⟩ := z
            exact .of (kk.lst ob.h nDS)
          · rintro j v σ G hv ⟨z8, tvs, tds, rfl, k3, hS3, oS3, tS3, lS3⟩
            have jl := (List.getElem?_eq_some_iff.mp hv).1
            obtain ⟨d, hd, ov⟩ := od'.at hv
            have ord := al.mem d (List.mem_of_getElem? hd)
            have k13 : Ke (· = S) H1 G := (Ke.same (s2.trans ob.s)).trans k3
            have hW3 : G W = some (.lst (wy.map fun b => V.int (wi b))) := k13.lst hW nSW
            refine ⟨_, rfl, .inl ⟨rfl, _, .of hS3⟩, _, rfl, _, rfl, _, rfl, (· = S), x, v, W, t, u, wy, d, rfl, At.ke k13 ht, hW3, lwy, by decide, way, ov.ke k3, fun nv G2 s3 onv => ?_⟩
            have hS4 := s3 _ _ hS3
            have kw : Ke (· = S) G2 (upd G2 S (.lst (tvs ++ [nv]))) := ke_wrG rfl hS4
            refine ⟨S, _, _, rfl, rfl, hS4, small1000 (by omega), _, tvs ++ [nv], tds ++ [putD t wy d], rfl, (k3.trans (.same s3)).trans kw, upd_same, ((oS3.ke (.same s3)).cat (.one onv)).ke kw, fun e he => ?_, by rw [List.length_append, lS3]; rfl⟩
            rcases List.mem_append.mp he with z | z
            · exact tS3 e z
            · rw [List.mem_singleton.mp z]
              exact (ot_put way nb ord (by omega)).mono (by omega) (by omega)
          · rintro σ G ⟨z8, tvs, tds, rfl, k3, hS3, oS3, tS3, _⟩
            exact ⟨z8, tvs, tds, rfl, (Ke.same ob.s).trans k3, hS3, oS3, tS3⟩
        clear oS tS lS hS2
        clear tvs tds y8
        rintro σ' H3 ⟨y8, tvs, tds, rfl, k3, hS3, oS, tS⟩
        have k13 : Ke (· = S) H1 H3 := (Ke.same s2).trans k3
        have hb3 := hb.ke k13
        have t3 := k13.tabs _ t1
        have F3 : Feed H3 fe c (30000 * i + 20100) := by
          obtain ⟨ns, n, r, h1, h2, h3, h4⟩ := F1
          exact ⟨ns, n, r, k13.lst h1 (Ne.symm nSf), k13.lst h2 (Ne.symm nSc), h3, h4⟩
        -- each thing
        refine ⟨_, rfl, S, rfl, ⟨_, .of hS3⟩, for_list (K := K) (a := S) (xs := tvs) (Pv := fun j σ G => ∃ (y9 y10 y11 y12 : Option V), σ = [some (.ref a), some (.ref fe), some (.int (0 + (i : Int))), some (.ref ba), some x, some (.ref W), some y, some (.ref S), y8, y9, y10, y11, y12, none, none] ∧ Ke Nof H3 G) ?_ (fun j σ G _ z => ?_) ?_ ?_⟩
        · exact ⟨y9, y10, y11, y12, rfl, .refl _ _⟩
        · obtain ⟨_, _, _, _, _, kk⟩ := z
          exact .of (kk.lst hS3 fun z => z)
        · rintro j v σ G hv ⟨z9, z10, z11, z12, rfl, k4⟩
          obtain ⟨d, hd, ov⟩ := oS.at hv
          have o := tS d (List.mem_of_getElem? hd)
          have sh := o.shaped (by decide)
          have ovG := ov.ke (k4.mono fun _ z => z.elim)
          refine Evl.q_cut (M := fun σ' G' => σ' = [some (.ref a), some (.ref fe), some (.int (0 + (i : Int))), some (.ref ba), some x, some (.ref W), some y, some (.ref S), y8, some v, some (.str d.shown), z11, z12, none, none] ∧ G = G') ?_ ?_
          · exact ⟨_, rfl, v, d, rfl, ovG.dp, o.sh, o.nd, Nat.le_trans o.dp (by decide), Nat.le_trans o.sz (by decide), rfl, rfl⟩
          rintro σ' G' ⟨rfl, rfl⟩
          refine Evl.q_cut (M := fun σ' G' => ∃ found : Bool, σ' = [some (.ref a), some (.ref fe), some (.int (0 + (i : Int))), some (.ref ba), some x, some (.ref W), some y, some (.ref S), y8, some v, some (.str d.shown), some (.bl found), z12, none, none] ∧ Ke Nof H3 G' ∧ (found = true ↔ IsTree css d)) ?_ ?_
          · exact ⟨_, rfl, _, rfl, (· = S), .ref ba, v, css, d, rfl, hb3.ke k4, ib, ovG, sh, k4.tabs _ t3, fun xx G' k5 hx => ⟨xx, rfl, k4.trans k5, hx⟩⟩
          clear k4 ovG
          rintro σ' G' ⟨found, rfl, k4, hfd⟩
          have ovG := ov.ke (k4.mono fun _ z => z.elim)
          refine Evl.q_cut (M := fun σ' G' => σ' = [some (.ref a), some (.ref fe), some (.int (0 + (i : Int))), some (.ref ba), some x, some (.ref W), some y, some (.ref S), y8, some v, some (.str d.shown), some (.bl found), some (.bl found), none, none] ∧ Ke Nof H3 G') ?_ ?_
          · have ty := ovG.ty (K := K)
            cases hd' : tuD d with
            | false =>
              have nf : found = false := by
                cases found with
                | false => rfl
                | true =>
                  have := isTree_tup (hfd.mp rfl)
                  rw [hd'] at this
                  cases this
              subst nf
              refine ⟨_, rfl, v, .ty "tuple", .type (tyD d), .type "tuple", false, rfl, .ty _, ty, ?_, false, rfl, rfl, k4⟩
              cases d with
              | none => exact kit_ty (a := "NoneType") (b := "tuple") (by decide +kernel)
              | bool b => exact kit_ty (a := "bool") (b := "tuple") (by decide +kernel)
              | int b => exact kit_ty (a := "int") (b := "tuple") (by decide +kernel)
              | str b => exact kit_ty (a := "str") (b := "tuple") (by decide +kernel)
              | list b => exact kit_ty (a := "list") (b := "tuple") (by decide +kernel)
              | tuple b => cases hd'
              | dict b => cases ovG
            | true =>
              obtain ⟨ds, rfl⟩ : ∃ ds, d = .tuple ds := by
                cases d with
                | tuple ds => exact ⟨ds, rfl⟩
                | _ => cases hd'
              refine ⟨_, rfl, v, .ty "tuple", .type "tuple", .type "tuple", true, rfl, .ty _, ty, kit_ty (by decide +kernel), true, rfl, ?_⟩
              refine ⟨_, rfl, _, rfl, (· = S), .ref ba, v, css, _, rfl, hb3.ke k4, ib, ovG, sh, fun tt e => ?_, fun xx G2 s5 hx => ?_⟩
              · have := o.pc
                rw [e, pc_dat] at this
                omega
              · have e1 : xx = found := Bool.eq_iff_iff.mpr (hx.trans hfd.symm)
                subst e1
                exact ⟨rfl, k4.trans (.same s5)⟩
          clear k4 ovG
          rintro σ' G' ⟨rfl, k4⟩
          have ovG := ov.ke (k4.mono fun _ z => z.elim)
          refine Evl.q_cut (M := fun σ' G'' => σ' = [some (.ref a), some (.ref fe), some (.int (0 + (i : Int))), some (.ref ba), some x, some (.ref W), some y, some (.ref S), y8, some v, some (.str d.shown), some (.bl found), some (.bl found), none, none] ∧ G' = G'') ?_ ?_
          · refine ⟨_, rfl, .bl found, .ty "bool", .type "bool", .type "bool", true, rfl, .ty _, .base (.bl found), kit_ty (by decide +kernel), true, rfl, ?_⟩
            exact ⟨_, rfl, _, rfl, rfl, false, by simp, rfl, rfl⟩
          rintro σ' G'' ⟨rfl, rfl⟩
          refine ⟨_, rfl, v, d, rfl, ovG.dp, o.sh, o.nd, Nat.le_trans o.dp (by decide), Nat.le_trans o.sz (by decide), ?_⟩
          exact ⟨_, rfl, rfl, false, by simp, _, _, _, _, rfl, k4⟩
        · rintro σ G ⟨z9, z10, z11, z12, rfl, k4⟩
          exact ⟨_, _, _, _, _, _, _, _, _, _, _, rfl, (k4.feed F3).mono (by omega), k4.tabs _ t3⟩
      · rintro σ G ⟨y2, y3, y4, y5, y6, y7, y8, y9, y10, y11, y12, rfl, F2, t2⟩
        exact ⟨y2, y3, y4, y5, y6, y7, y8, y9, y10, y11, y12, rfl, F2.mono (by omega), t2⟩
    clear F1 t1 H1
    rintro σ' H1 ⟨y2, y3, y4, y5, y6, y7, y8, y9, y10, y11, y12, rfl, F1, t1⟩
    -- the last book
    refine Evl.q_cut (M := fun σ' G => ∃ b : V, σ' = [some (.ref a), some (.ref fe), y2, some b, y4, y5, y6, y7, y8, y9, y10, y11, y12, none, none] ∧ Same H1 G ∧ Bk G b cBook) ?_ ?_
    · skip
      have xw0 : Same H1 H1 := Same.refl _
      refine ⟨by show 2 ≤ sizeLine; decide, fun xp1 xG1 xn1 xt1 xh1 _ => ?_⟩
      have xw1 := xw0.trans xt1
      refine ⟨_, rfl, _, rfl, by show 2 ≤ sizeLine; decide, fun xp2 xG2 xn2 xt2 xh2 _ => ?_⟩
      have xw2 := xw1.trans xt2
      refine ⟨_, rfl, by show 2 ≤ sizeLine; decide, fun xp3 xG3 xn3 xt3 xh3 _ => ?_⟩
      have xw3 := xw2.trans xt3
      refine ⟨by show 3 ≤ sizeLine; decide, fun xp4 xG4 xn4 xt4 xh4 _ => ?_⟩
      have xw4 := xw3.trans xt4
      have xu4 := (Same.refl xG4)
      have xu3 := xt4.trans xu4
      have xu2 := xt3.trans xu3
      have xu1 := xt2.trans xu2
      have xu0 := xt1.trans xu1
      exact ⟨_, rfl, xw4, bk_of_od (f := Nof) (css := cBook) (.tup (xu4 _ _ xh4) (.cons (.tup (xu1 _ _ xh1) (.cons (.int _) (.cons (.int _) .nil))) (.cons (.tup (xu2 _ _ xh2) (.cons (.int _) (.cons (.int _) .nil))) (.cons (.tup (xu3 _ _ xh3) (.cons (.int _) (.cons (.int _) .nil))) .nil))))⟩
    rintro σ' H2 ⟨b, rfl, s2, hb⟩
    have F2 := F1.same s2
    have t2 := (Ke.same (F := Nof) s2).tabs _ t1
    refine Evl.q_cut (M := fun σ' G => ∃ y9 y13 y14 : Option V, σ' = [some (.ref a), some (.ref fe), y2, some b, y4, y5, y6, y7, y8, y9, y10, y11, y12, y13, y14] ∧ Ke Nof H2 G) ?_ ?_
    · refine ⟨_, rfl, -3, 4, rfl, ⟨by decide, by decide, by decide, by decide⟩, for_range (Pv := fun k σ G => ∃ y9 y13 y14 : Option V, σ = [some (.ref a), some (.ref fe), y2, some b, y4, y5, y6, y7, y8, y9, y10, y11, y12, y13, y14] ∧ Ke Nof H2 G) ?_ ?_ ?_⟩
      · exact ⟨y9, none, none, rfl, .refl _ _⟩
      · rintro k σ G hk ⟨z9, z13, z14, rfl, k3⟩
        have hk : k < 7 := hk
        refine ⟨9, rfl, by decide, by decide, for_range (Pv := fun j σ G => ∃ y9 y14 : Option V, σ = [some (.ref a), some (.ref fe), y2, some b, y4, y5, y6, y7, y8, y9, y10, y11, y12, some (.int (-3 + (k : Int))), y14] ∧ Ke Nof H2 G) ?_ ?_ ?_⟩
        · exact ⟨z9, z14, rfl, k3⟩
        · clear k3 G
          rintro j σ G hj ⟨z9, z14, rfl, k3⟩
          have hj : j < 9 := hj
          rw [show (0 : Int) + (j : Int) = (j : Int) from Int.zero_add _]
          refine Evl.q_cut (M := fun σ' G' => ∃ v : V, σ' = [some (.ref a), some (.ref fe), y2, some b, y4, y5, y6, y7, y8, some v, y10, y11, y12, some (.int (-3 + (k : Int))), some (.int (j : Nat))] ∧ Ke Nof H2 G' ∧ At G' (.cut (.leaf (j / 3)) (.leaf (j % 3)) (-3 + (k : Int))) v) ?_ ?_
          · refine ⟨_, rfl, _, _, rfl, rfl, ⟨by decide, by decide⟩, by show 2 ≤ sizeLine; decide, fun p1 G1 n1 u1 q1 _ => ?_⟩
            refine ⟨_, rfl, _, _, rfl, rfl, (by show (0 : Int) < 3; decide), by show 2 ≤ sizeLine; decide, fun p2 G2 n2 u2 q2 _ => ?_⟩
            refine ⟨_, rfl, by show 4 ≤ sizeLine; decide, fun p3 G3 n3 u3 q3 _ => ?_⟩
            exact ⟨_, rfl, k3.trans (.same (u1.trans (u2.trans u3))), p3, _, _, rfl, q3, ⟨p1, rfl, (u2.trans u3) _ _ q1⟩, ⟨p2, rfl, u3 _ _ q2⟩⟩
          clear k3
          rintro σ' G1 ⟨v, rfl, k3, hv⟩
          have sh : SeqAt.shaped (datT (.cut (.leaf (j / 3)) (.leaf (j % 3)) (-3 + (k : Int)))) = true := shaped_dat (by show 2 ≤ 64; decide)
          refine ⟨_, rfl, _, rfl, Nof, b, v, cBook, _, rfl, hb.ke k3, cb_cl, od_of_at hv, sh, k3.tabs _ t2, fun x1 G2 k4 hx1 => ?_⟩
          have k24 := k3.trans k4
          refine ⟨_, rfl, _, rfl, Nof, b, v, cBook, _, rfl, hb.ke k24, cb_cl, od_of_at (At.ke k4 hv), sh, fun tt e => by rw [← dat_inj e]; show 3 ≤ 1000; decide, fun x2 G3 s5 hx2 => ?_⟩
          have e1 : x1 = x2 := Bool.eq_iff_iff.mpr (hx1.trans hx2.symm)
          subst e1
          exact ⟨rfl, false, by simp, _, _, rfl, k24.trans (.same s5)⟩
        · rintro σ G ⟨z9, z14, rfl, k3⟩
          exact ⟨_, _, _, rfl, k3⟩
      · rintro σ G ⟨z9, z13, z14, rfl, k3⟩
        exact ⟨_, _, _, rfl, k3⟩
    rintro σ' H3 ⟨z9, z13, z14, rfl, k3⟩
    exact ⟨_, rfl, fe, c, _, rfl, k3.feed F2, by decide, k3.tabs _ t2, fun H4 => q H4⟩
end
end K20
namespace Eg
open PySem PySem.Spec PyProof.Rows L2 GxR Nw Dr Kp
/-! ### the end of a law that shows lists: defs whose code objects have tables -/
/-- what stands where a def's code object has its table -/
abbrev Own (K : PySem.W.Frag) (h : Heap) (mg : Str → Option Value) (ys : List Str) : Prop := ∀ y ∈ ys, ∀ f, mg y = some (.ref f) → LamX.OwnTab K f h
/-- what is to be known of a law at the heap h -/
def LawG (l : PySem.W.OpenLaw) (w : World) (K : PySem.W.Frag) (k m : Nat) (x : Str) (mg : Str → Option Value) (g : Addr) (h : Heap) : Prop :=
  ∃ (fd : FuncData) (cs : List (Addr × Addr)) (sp : Sp), (∀ p ∈ cs, h.get? p.2 = some (PySem.W.tabObj #[])) ∧ (∀ p ∈ cs, K.lookup p.2 = none) ∧ (∀ p ∈ cs, PySem.W.CodeHd h p.1 p.2) ∧ (∀ (s : Shared) (u : Value), BindsTo s fd ⟨[u], []⟩ [(x, u)]) ∧
    (∀ (H : Hp) (a : Addr) (ns : List Int), ns.length ≤ m → (∀ p ∈ cs, H p.2 = some (.tbl #[])) → SqL K H a (ns.map V.int) → sp [.ref a] H (fun v _ => v = .bl true) fun _ _ _ => False) ∧
    ∀ base : Heap, K.In base → base.Ns mainGlobals mg → (∀ p ∈ cs, LamX.TabB base mg p.1 p.2) → Gd.FnG l.prog w K mg base k g fd [x] sp
theorem walk_own {l : PySem.W.OpenLaw} {m k : Nat} {pr : Program} {ls : List Str} {XP : (Str → Option Value) → Heap → Prop} {YP : World → Heap → Prop} {d : DefRec} {K : Params → PySem.W.Frag} {x : Str} (ys : List Str)
    (e1 : l.most = some m) (e2 : m ≤ sizeLine) (e3 : d.params.defaults = []) (room : Room k callerA) (named : ∀ y ∈ ys, ((recsOf pr).any fun e => e.name == y) = true) (inK : ∀ (w : World) (h : Heap), YP w h → (K w.params).In h)
    (go : ∀ (w : World) (mg : Str → Option Value) (g : Addr) (h : Heap), YP w h → (K w.params).In h → h.Ns mainGlobals mg → mg d.name = some (.ref g) → Own (K w.params) h mg ys → LawG l w (K w.params) k m x mg g h) :
    PySem.W.WalkO pr ls XP YP l.row.toRowW d [] (fun f vs => PySem.call f vs) := by
  refine Att.attach_callB e1 e3 fun w s0 s1 mg mb fa o pm cd doc a us ns G Y ho hd hcd hmg hobj hints hlen hbits hg => ?_
  have inH := inK w _ Y
  have tabs : Own (K w.params) s1.heap mg ys := fun y hy f hf c P ob fd e dd vs sl q1 q2 q3 q4 q5 => by
    obtain ⟨r, hr1, hr2⟩ := List.any_eq_true.mp (named y hy)
    obtain ⟨f', ob', fd', c', P', t1, t2, t3, t4, t5, ⟨⟨oc, vc, u1, _, u3, u4⟩, u5⟩⟩ := G.T.tab r hr1
    rw [show r.name = y from beq_iff_eq.mp hr2, hf] at t1
    cases t1
    rw [inH _ _ q1] at t2
    cases t2
    rw [q2] at t3
    cases t3
    rw [q3] at t4
    cases t4
    rw [inH _ _ q4] at u1
    cases u1
    cases u3
    rw [q5] at u4
    cases u4
    exact u5
  obtain ⟨fd, cs, sp, h1, h2, h3, h4, h5, h6⟩ := go w mg fa _ Y inH G.T.g hmg tabs
  exact Gd.law_at inH G.T.g G.T.b G.T.builtins G.T.nolimit hg h1 h2 h3 G.T.bmain hobj hints (Nat.le_trans hlen e2) room h6 h4 fun H z1 z2 => h5 H a ns hlen z1 z2
end Eg
namespace K20
open PySem PySem.Spec PyProof.Rows L2 GxR Nw Dr Kp Se Cl Ct Lr Lp Od Og Eg
theorem all_mk {l : PySem.W.OpenLaw} {w : World} {K : PySem.W.Frag} {h : Heap} {mg : Str → Option Value} {top : Addr} (X : K.In h) (G : h.Ns mainGlobals mg) (htop : mg "law" = some (.ref top)) (ow : Own K h mg ["has_opposites"]) {fM fD fO fT fC fB fS fs ft fc fp fd fi fo fu fx fg fr fG fW fE fN fn fF fA fZ fQ fI fL gH cH PH : Addr}
    {od_fM an_fM : Option Addr} {sl_fM : Array (Option Value)} {oc_fM kV_fM dc_fM pm_fM ct_fM : Value} {cd_fM : Value} {od_fD an_fD : Option Addr} {sl_fD : Array (Option Value)} {oc_fD kV_fD dc_fD pm_fD ct_fD : Value} {cd_fD : Value} {od_fO an_fO : Option Addr} {sl_fO : Array (Option Value)} {oc_fO kV_fO dc_fO pm_fO ct_fO : Value} {cd_fO : Value} {od_fT an_fT : Option Addr} {sl_fT : Array (Option Value)} {oc_fT kV_fT dc_fT pm_fT ct_fT : Value} {cd_fT : Value} {od_fC an_fC : Option Addr} {sl_fC : Array (Option Value)} {oc_fC kV_fC dc_fC pm_fC ct_fC : Value} {cd_fC : Value} {od_fB an_fB : Option Addr} {sl_fB : Array (Option Value)} {oc_fB kV_fB dc_fB pm_fB ct_fB : Value} {cd_fB : Value} {od_fS an_fS : Option Addr} {sl_fS : Array (Option Value)} {oc_fS kV_fS dc_fS pm_fS ct_fS : Value} {cd_fS : Value} {od_fs an_fs : Option Addr} {sl_fs : Array (Option Value)} {oc_fs kV_fs dc_fs pm_fs ct_fs : Value} {cd_fs : Value} {od_ft an_ft : Option Addr} {sl_ft : Array (Option Value)} {oc_ft kV_ft dc_ft pm_ft ct_ft : Value} {cd_ft : Value} {od_fc an_fc : Option Addr} {sl_fc : Array (Option Value)} {oc_fc kV_fc dc_fc pm_fc ct_fc : Value} {cd_fc : Value} {od_fp an_fp : Option Addr} {sl_fp : Array (Option Value)} {oc_fp kV_fp dc_fp pm_fp ct_fp : Value} {cd_fp : Value} {od_fd an_fd : Option Addr} {sl_fd : Array (Option Value)} {oc_fd kV_fd dc_fd pm_fd ct_fd : Value} {cd_fd : Value} {od_fi an_fi : Option Addr} {sl_fi : Array (Option Value)} {oc_fi kV_fi dc_fi pm_fi ct_fi : Value} {cd_fi : Value} {od_fo an_fo : Option Addr} {sl_fo : Array (Option Value)} {oc_fo kV_fo dc_fo pm_fo ct_fo : Value} {cd_fo : Value} {od_fu an_fu : Option Addr} {sl_fu : Array (Option Value)} {oc_fu kV_fu dc_fu pm_fu ct_fu : Value} {cd_fu : Value} {od_fx an_fx : Option Addr} {sl_fx : Array (Option Value)} {oc_fx kV_fx dc_fx pm_fx ct_fx : Value} {cd_fx : Value} {od_fg an_fg : Option Addr} {sl_fg : Array (Option Value)} {oc_fg kV_fg dc_fg pm_fg ct_fg : Value} {cd_fg : Value} {od_fr an_fr : Option Addr} {sl_fr : Array (Option Value)} {oc_fr kV_fr dc_fr pm_fr ct_fr : Value} {cd_fr : Value} {od_fG an_fG : Option Addr} {sl_fG : Array (Option Value)} {oc_fG kV_fG dc_fG pm_fG ct_fG : Value} {cd_fG : Value} {od_fW an_fW : Option Addr} {sl_fW : Array (Option Value)} {oc_fW kV_fW dc_fW pm_fW ct_fW : Value} {cd_fW : Value} {od_fE an_fE : Option Addr} {sl_fE : Array (Option Value)} {oc_fE kV_fE dc_fE pm_fE ct_fE : Value} {cd_fE : Value} {od_fN an_fN : Option Addr} {sl_fN : Array (Option Value)} {oc_fN kV_fN dc_fN pm_fN ct_fN : Value} {cd_fN : Value} {od_fn an_fn : Option Addr} {sl_fn : Array (Option Value)} {oc_fn kV_fn dc_fn pm_fn ct_fn : Value} {cd_fn : Value} {od_fF an_fF : Option Addr} {sl_fF : Array (Option Value)} {oc_fF kV_fF dc_fF pm_fF ct_fF : Value} {cd_fF : Value} {od_fA an_fA : Option Addr} {sl_fA : Array (Option Value)} {oc_fA kV_fA dc_fA pm_fA ct_fA : Value} {cd_fA : Value} {od_fZ an_fZ : Option Addr} {sl_fZ : Array (Option Value)} {oc_fZ kV_fZ dc_fZ pm_fZ ct_fZ : Value} {cd_fZ : Value} {od_fQ an_fQ : Option Addr} {sl_fQ : Array (Option Value)} {oc_fQ kV_fQ dc_fQ pm_fQ ct_fQ : Value} {cd_fQ : Value} {od_fI an_fI : Option Addr} {sl_fI : Array (Option Value)} {oc_fI kV_fI dc_fI pm_fI ct_fI : Value} {cd_fI : Value} {od_fL an_fL : Option Addr} {sl_fL : Array (Option Value)} {oc_fL kV_fL dc_fL pm_fL ct_fL : Value} {cd_fL : Value} {od_gH an_gH : Option Addr} {sl_gH : Array (Option Value)} {oc_gH kV_gH dc_gH pm_gH ct_gH : Value} {e_H : Value} {dd_H : Option Addr} {vs_H : Array Value} {sf_H : Array (Option Value)} {tk_MOST_THINGS : Tok} {tk_MOST_PIECES : Tok} {tk_MOST_WITHIN : Tok}
    (b_fM : PySem.W.nsIn K mainGlobals "_law_smixed" = some (some (.ref fM)))
    (l_fM : K.lookup fM = some ⟨oc_fM, od_fM, .func (PySem.W.fnOf "_law_smixed" "_law_smixed" (defArgs sMix) (defBody sMix) (defScope sMix) .none kV_fM dc_fM pm_fM an_fM cd_fM ct_fM), sl_fM⟩)
    (c_fM : PySem.W.codeIn K cd_fM "_law_smixed" = true)
    (k_fM : PySem.W.keepIn K (.ref fM) = true)
    (b_fD : PySem.W.nsIn K mainGlobals "_law_sdraw" = some (some (.ref fD)))
    (l_fD : K.lookup fD = some ⟨oc_fD, od_fD, .func (PySem.W.fnOf "_law_sdraw" "_law_sdraw" (defArgs sDrw) (defBody sDrw) (defScope sDrw) .none kV_fD dc_fD pm_fD an_fD cd_fD ct_fD), sl_fD⟩)
    (c_fD : PySem.W.codeIn K cd_fD "_law_sdraw" = true)
    (k_fD : PySem.W.keepIn K (.ref fD) = true)
    (b_fO : PySem.W.nsIn K mainGlobals "_law_sopen" = some (some (.ref fO)))
    (l_fO : K.lookup fO = some ⟨oc_fO, od_fO, .func (PySem.W.fnOf "_law_sopen" "_law_sopen" (defArgs sOpn) (defBody sOpn) (defScope sOpn) .none kV_fO dc_fO pm_fO an_fO cd_fO ct_fO), sl_fO⟩)
    (c_fO : PySem.W.codeIn K cd_fO "_law_sopen" = true)
    (k_fO : PySem.W.keepIn K (.ref fO) = true)
    (b_fT : PySem.W.nsIn K mainGlobals "_law_sthings" = some (some (.ref fT)))
    (l_fT : K.lookup fT = some ⟨oc_fT, od_fT, .func (PySem.W.fnOf "_law_sthings" "_law_sthings" (defArgs sThg) (defBody sThg) (defScope sThg) .none kV_fT dc_fT pm_fT an_fT cd_fT ct_fT), sl_fT⟩)
    (c_fT : PySem.W.codeIn K cd_fT "_law_sthings" = true)
    (k_fT : PySem.W.keepIn K (.ref fT) = true)
    (b_fC : PySem.W.nsIn K mainGlobals "_law_sclaim" = some (some (.ref fC)))
    (l_fC : K.lookup fC = some ⟨oc_fC, od_fC, .func (PySem.W.fnOf "_law_sclaim" "_law_sclaim" (defArgs sClm) (defBody sClm) (defScope sClm) .none kV_fC dc_fC pm_fC an_fC cd_fC ct_fC), sl_fC⟩)
    (c_fC : PySem.W.codeIn K cd_fC "_law_sclaim" = true)
    (k_fC : PySem.W.keepIn K (.ref fC) = true)
    (b_fB : PySem.W.nsIn K mainGlobals "_law_sbook" = some (some (.ref fB)))
    (l_fB : K.lookup fB = some ⟨oc_fB, od_fB, .func (PySem.W.fnOf "_law_sbook" "_law_sbook" (defArgs sBok) (defBody sBok) (defScope sBok) .none kV_fB dc_fB pm_fB an_fB cd_fB ct_fB), sl_fB⟩)
    (c_fB : PySem.W.codeIn K cd_fB "_law_sbook" = true)
    (k_fB : PySem.W.keepIn K (.ref fB) = true)
    (b_fS : PySem.W.nsIn K mainGlobals "_law_scut" = some (some (.ref fS)))
    (l_fS : K.lookup fS = some ⟨oc_fS, od_fS, .func (PySem.W.fnOf "_law_scut" "_law_scut" (defArgs sSct) (defBody sSct) (defScope sSct) .none kV_fS dc_fS pm_fS an_fS cd_fS ct_fS), sl_fS⟩)
    (c_fS : PySem.W.codeIn K cd_fS "_law_scut" = true)
    (k_fS : PySem.W.keepIn K (.ref fS) = true)
    (b_fs : PySem.W.nsIn K mainGlobals "_law_swhole" = some (some (.ref fs)))
    (l_fs : K.lookup fs = some ⟨oc_fs, od_fs, .func (PySem.W.fnOf "_law_swhole" "_law_swhole" (defArgs Ta.sSwh) (defBody Ta.sSwh) (defScope Ta.sSwh) .none kV_fs dc_fs pm_fs an_fs cd_fs ct_fs), sl_fs⟩)
    (c_fs : PySem.W.codeIn K cd_fs "_law_swhole" = true)
    (k_fs : PySem.W.keepIn K (.ref fs) = true)
    (b_ft : PySem.W.nsIn K mainGlobals "_law_stree" = some (some (.ref ft)))
    (l_ft : K.lookup ft = some ⟨oc_ft, od_ft, .func (PySem.W.fnOf "_law_stree" "_law_stree" (defArgs Tl.sStt) (defBody Tl.sStt) (defScope Tl.sStt) .none kV_ft dc_ft pm_ft an_ft cd_ft ct_ft), sl_ft⟩)
    (c_ft : PySem.W.codeIn K cd_ft "_law_stree" = true)
    (k_ft : PySem.W.keepIn K (.ref ft) = true)
    (b_fc : PySem.W.nsIn K mainGlobals "_law_stree_case" = some (some (.ref fc)))
    (l_fc : K.lookup fc = some ⟨oc_fc, od_fc, .func (PySem.W.fnOf "_law_stree_case" "_law_stree_case" (defArgs Tl.sSts) (defBody Tl.sSts) (defScope Tl.sSts) .none kV_fc dc_fc pm_fc an_fc cd_fc ct_fc), sl_fc⟩)
    (c_fc : PySem.W.codeIn K cd_fc "_law_stree_case" = true)
    (k_fc : PySem.W.keepIn K (.ref fc) = true)
    (b_fp : PySem.W.nsIn K mainGlobals "_law_spieces" = some (some (.ref fp)))
    (l_fp : K.lookup fp = some ⟨oc_fp, od_fp, .func (PySem.W.fnOf "_law_spieces" "_law_spieces" (defArgs Tl.sSpc) (defBody Tl.sSpc) (defScope Tl.sSpc) .none kV_fp dc_fp pm_fp an_fp cd_fp ct_fp), sl_fp⟩)
    (c_fp : PySem.W.codeIn K cd_fp "_law_spieces" = true)
    (k_fp : PySem.W.keepIn K (.ref fp) = true)
    (b_fd : PySem.W.nsIn K mainGlobals "_law_stree_claim" = some (some (.ref fd)))
    (l_fd : K.lookup fd = some ⟨oc_fd, od_fd, .func (PySem.W.fnOf "_law_stree_claim" "_law_stree_claim" (defArgs Ta.sStc) (defBody Ta.sStc) (defScope Ta.sStc) .none kV_fd dc_fd pm_fd an_fd cd_fd ct_fd), sl_fd⟩)
    (c_fd : PySem.W.codeIn K cd_fd "_law_stree_claim" = true)
    (k_fd : PySem.W.keepIn K (.ref fd) = true)
    (b_fi : PySem.W.nsIn K mainGlobals "_law_sis_tree" = some (some (.ref fi)))
    (l_fi : K.lookup fi = some ⟨oc_fi, od_fi, .func (PySem.W.fnOf "_law_sis_tree" "_law_sis_tree" (defArgs Ta.sSit) (defBody Ta.sSit) (defScope Ta.sSit) .none kV_fi dc_fi pm_fi an_fi cd_fi ct_fi), sl_fi⟩)
    (c_fi : PySem.W.codeIn K cd_fi "_law_sis_tree" = true)
    (k_fi : PySem.W.keepIn K (.ref fi) = true)
    (b_fo : PySem.W.nsIn K mainGlobals "_law_s_odd" = some (some (.ref fo)))
    (l_fo : K.lookup fo = some ⟨oc_fo, od_fo, .func (PySem.W.fnOf "_law_s_odd" "_law_s_odd" (defArgs Tj.sOdd) (defBody Tj.sOdd) (defScope Tj.sOdd) .none kV_fo dc_fo pm_fo an_fo cd_fo ct_fo), sl_fo⟩)
    (c_fo : PySem.W.codeIn K cd_fo "_law_s_odd" = true)
    (k_fo : PySem.W.keepIn K (.ref fo) = true)
    (b_fu : PySem.W.nsIn K mainGlobals "_law_s_put" = some (some (.ref fu)))
    (l_fu : K.lookup fu = some ⟨oc_fu, od_fu, .func (PySem.W.fnOf "_law_s_put" "_law_s_put" (defArgs Tj.sPtt) (defBody Tj.sPtt) (defScope Tj.sPtt) .none kV_fu dc_fu pm_fu an_fu cd_fu ct_fu), sl_fu⟩)
    (c_fu : PySem.W.codeIn K cd_fu "_law_s_put" = true)
    (k_fu : PySem.W.keepIn K (.ref fu) = true)
    (b_fx : PySem.W.nsIn K mainGlobals "_law_s_due" = some (some (.ref fx)))
    (l_fx : K.lookup fx = some ⟨oc_fx, od_fx, .func (PySem.W.fnOf "_law_s_due" "_law_s_due" (defArgs Ta.sDue) (defBody Ta.sDue) (defScope Ta.sDue) .none kV_fx dc_fx pm_fx an_fx cd_fx ct_fx), sl_fx⟩)
    (c_fx : PySem.W.codeIn K cd_fx "_law_s_due" = true)
    (k_fx : PySem.W.keepIn K (.ref fx) = true)
    (b_fg : PySem.W.nsIn K mainGlobals "_law_s_great" = some (some (.ref fg)))
    (l_fg : K.lookup fg = some ⟨oc_fg, od_fg, .func (PySem.W.fnOf "_law_s_great" "_law_s_great" (defArgs Ta.sGrt) (defBody Ta.sGrt) (defScope Ta.sGrt) .none kV_fg dc_fg pm_fg an_fg cd_fg ct_fg), sl_fg⟩)
    (c_fg : PySem.W.codeIn K cd_fg "_law_s_great" = true)
    (k_fg : PySem.W.keepIn K (.ref fg) = true)
    (b_fr : PySem.W.nsIn K mainGlobals "_law_s_turned" = some (some (.ref fr)))
    (l_fr : K.lookup fr = some ⟨oc_fr, od_fr, .func (PySem.W.fnOf "_law_s_turned" "_law_s_turned" (defArgs Ta.sTrn) (defBody Ta.sTrn) (defScope Ta.sTrn) .none kV_fr dc_fr pm_fr an_fr cd_fr ct_fr), sl_fr⟩)
    (c_fr : PySem.W.codeIn K cd_fr "_law_s_turned" = true)
    (k_fr : PySem.W.keepIn K (.ref fr) = true)
    (b_fG : PySem.W.nsIn K mainGlobals "_law_s_great_right" = some (some (.ref fG)))
    (l_fG : K.lookup fG = some ⟨oc_fG, od_fG, .func (PySem.W.fnOf "_law_s_great_right" "_law_s_great_right" (defArgs Tj.sGrr) (defBody Tj.sGrr) (defScope Tj.sGrr) .none kV_fG dc_fG pm_fG an_fG cd_fG ct_fG), sl_fG⟩)
    (c_fG : PySem.W.codeIn K cd_fG "_law_s_great_right" = true)
    (k_fG : PySem.W.keepIn K (.ref fG) = true)
    (b_fW : PySem.W.nsIn K mainGlobals "is_whole" = some (some (.ref fW)))
    (l_fW : K.lookup fW = some ⟨oc_fW, od_fW, .func (PySem.W.fnOf "is_whole" "is_whole" (defArgs sWho) (defBody sWho) (defScope sWho) .none kV_fW dc_fW pm_fW an_fW cd_fW ct_fW), sl_fW⟩)
    (c_fW : PySem.W.codeIn K cd_fW "is_whole" = true)
    (k_fW : PySem.W.keepIn K (.ref fW) = true)
    (b_fE : PySem.W.nsIn K mainGlobals "can_meet" = some (some (.ref fE)))
    (l_fE : K.lookup fE = some ⟨oc_fE, od_fE, .func (PySem.W.fnOf "can_meet" "can_meet" (defArgs sCme) (defBody sCme) (defScope sCme) .none kV_fE dc_fE pm_fE an_fE cd_fE ct_fE), sl_fE⟩)
    (c_fE : PySem.W.codeIn K cd_fE "can_meet" = true)
    (k_fE : PySem.W.keepIn K (.ref fE) = true)
    (b_fN : PySem.W.nsIn K mainGlobals "cut_or_none" = some (some (.ref fN)))
    (l_fN : K.lookup fN = some ⟨oc_fN, od_fN, .func (PySem.W.fnOf "cut_or_none" "cut_or_none" (defArgs sCon) (defBody sCon) (defScope sCon) .none kV_fN dc_fN pm_fN an_fN cd_fN ct_fN), sl_fN⟩)
    (c_fN : PySem.W.codeIn K cd_fN "cut_or_none" = true)
    (k_fN : PySem.W.keepIn K (.ref fN) = true)
    (b_fn : PySem.W.nsIn K mainGlobals "is_number_of" = some (some (.ref fn)))
    (l_fn : K.lookup fn = some ⟨oc_fn, od_fn, .func (PySem.W.fnOf "is_number_of" "is_number_of" (defArgs sNum) (defBody sNum) (defScope sNum) .none kV_fn dc_fn pm_fn an_fn cd_fn ct_fn), sl_fn⟩)
    (c_fn : PySem.W.codeIn K cd_fn "is_number_of" = true)
    (k_fn : PySem.W.keepIn K (.ref fn) = true)
    (b_fF : PySem.W.nsIn K mainGlobals "is_fork" = some (some (.ref fF)))
    (l_fF : K.lookup fF = some ⟨oc_fF, od_fF, .func (PySem.W.fnOf "is_fork" "is_fork" (defArgs Ta.sFork) (defBody Ta.sFork) (defScope Ta.sFork) .none kV_fF dc_fF pm_fF an_fF cd_fF ct_fF), sl_fF⟩)
    (c_fF : PySem.W.codeIn K cd_fF "is_fork" = true)
    (k_fF : PySem.W.keepIn K (.ref fF) = true)
    (b_fA : PySem.W.nsIn K mainGlobals "is_leaf" = some (some (.ref fA)))
    (l_fA : K.lookup fA = some ⟨oc_fA, od_fA, .func (PySem.W.fnOf "is_leaf" "is_leaf" (defArgs Ta.sLeaf) (defBody Ta.sLeaf) (defScope Ta.sLeaf) .none kV_fA dc_fA pm_fA an_fA cd_fA ct_fA), sl_fA⟩)
    (c_fA : PySem.W.codeIn K cd_fA "is_leaf" = true)
    (k_fA : PySem.W.keepIn K (.ref fA) = true)
    (b_fZ : PySem.W.nsIn K mainGlobals "has_size_of_tree" = some (some (.ref fZ)))
    (l_fZ : K.lookup fZ = some ⟨oc_fZ, od_fZ, .func (PySem.W.fnOf "has_size_of_tree" "has_size_of_tree" (defArgs Ta.sSize) (defBody Ta.sSize) (defScope Ta.sSize) .none kV_fZ dc_fZ pm_fZ an_fZ cd_fZ ct_fZ), sl_fZ⟩)
    (c_fZ : PySem.W.codeIn K cd_fZ "has_size_of_tree" = true)
    (k_fZ : PySem.W.keepIn K (.ref fZ) = true)
    (b_fQ : PySem.W.nsIn K mainGlobals "claim_or_none" = some (some (.ref fQ)))
    (l_fQ : K.lookup fQ = some ⟨oc_fQ, od_fQ, .func (PySem.W.fnOf "claim_or_none" "claim_or_none" (defArgs Ta.sCn) (defBody Ta.sCn) (defScope Ta.sCn) .none kV_fQ dc_fQ pm_fQ an_fQ cd_fQ ct_fQ), sl_fQ⟩)
    (c_fQ : PySem.W.codeIn K cd_fQ "claim_or_none" = true)
    (k_fQ : PySem.W.keepIn K (.ref fQ) = true)
    (b_fI : PySem.W.nsIn K mainGlobals "is_tree" = some (some (.ref fI)))
    (l_fI : K.lookup fI = some ⟨oc_fI, od_fI, .func (PySem.W.fnOf "is_tree" "is_tree" (defArgs Ta.sIst) (defBody Ta.sIst) (defScope Ta.sIst) .none kV_fI dc_fI pm_fI an_fI cd_fI ct_fI), sl_fI⟩)
    (c_fI : PySem.W.codeIn K cd_fI "is_tree" = true)
    (k_fI : PySem.W.keepIn K (.ref fI) = true)
    (b_fL : PySem.W.nsIn K mainGlobals "law" = some (some (.ref fL)))
    (l_fL : K.lookup fL = some ⟨oc_fL, od_fL, .func (PySem.W.fnOf "law" "law" (defArgs sLaw) (defBody sLaw) (defScope sLaw) .none kV_fL dc_fL pm_fL an_fL cd_fL ct_fL), sl_fL⟩)
    (c_fL : PySem.W.codeIn K cd_fL "law" = true)
    (k_fL : PySem.W.keepIn K (.ref fL) = true)
    (b_gH : PySem.W.nsIn K mainGlobals "has_opposites" = some (some (.ref gH)))
    (l_gH : K.lookup gH = some ⟨oc_gH, od_gH, .func (PySem.W.fnOf "has_opposites" "has_opposites" (defArgs sHop) (defBody sHop) (defScope sHop) .none kV_gH dc_gH pm_gH an_gH (.ref cH) ct_gH), sl_gH⟩)
    (c_gH : PySem.W.codeIn K (.ref cH) "has_opposites" = true)
    (k_gH : PySem.W.keepIn K (.ref gH) = true)
    (lc_H : K.lookup cH = some ⟨e_H, dd_H, .fields vs_H, sf_H⟩)
    (v_H : vs_H[11]? = some (Value.ref PH))
    (hd_H : PySem.W.codeHdIn K cH PH = true)
    (np_H : K.lookup PH = none)
    (b_MOST_THINGS : PySem.W.nsIn K mainGlobals "MOST_THINGS" = some (some (.int 8 tk_MOST_THINGS)))
    (b_MOST_PIECES : PySem.W.nsIn K mainGlobals "MOST_PIECES" = some (some (.int 360 tk_MOST_PIECES)))
    (b_MOST_WITHIN : PySem.W.nsIn K mainGlobals "MOST_WITHIN" = some (some (.int 40 tk_MOST_WITHIN)))
    (z_range : PySem.W.nsIn K mainGlobals "range" = some none)
    (z_isinstance : PySem.W.nsIn K mainGlobals "isinstance" = some none)
    (z_len : PySem.W.nsIn K mainGlobals "len" = some none)
    (z_list : PySem.W.nsIn K mainGlobals "list" = some none)
    (z_min : PySem.W.nsIn K mainGlobals "min" = some none)
    (z_tuple : PySem.W.nsIn K mainGlobals "tuple" = some none)
    (z_sorted : PySem.W.nsIn K mainGlobals "sorted" = some none)
    (z_set : PySem.W.nsIn K mainGlobals "set" = some none)
    (z_abs : PySem.W.nsIn K mainGlobals "abs" = some none)
    (z_any : PySem.W.nsIn K mainGlobals "any" = some none)
    (z_all : PySem.W.nsIn K mainGlobals "all" = some none)
    (z_bool : PySem.W.nsIn K mainGlobals "bool" = some none)
    (z_int : PySem.W.nsIn K mainGlobals "int" = some none)
    (z_zip : PySem.W.nsIn K mainGlobals "zip" = some none)
    (z_repr : PySem.W.nsIn K mainGlobals "repr" = some none)
    (z_str : PySem.W.nsIn K mainGlobals "str" = some none) :
    LawG l w K 49 63 "script" mg top h := by
  have e := htop.symm.trans (PySem.W.mg_of X G b_fL)
  cases e
  have F_fM := fun_mk (st := sMix) l_fM c_fM k_fM
  have B_fM := F_fM.binds (ps := ["cell", "at"]) fun _ _ _ _ _ _ us hl => match us, hl with | [_, _], _ => rfl
  have g_fM := PySem.W.mg_of X G b_fM
  have F_fD := fun_mk (st := sDrw) l_fD c_fD k_fD
  have B_fD := F_fD.binds (ps := ["feed", "many"]) fun _ _ _ _ _ _ us hl => match us, hl with | [_, _], _ => rfl
  have g_fD := PySem.W.mg_of X G b_fD
  have F_fO := fun_mk (st := sOpn) l_fO c_fO k_fO
  have B_fO := F_fO.binds (ps := ["script"]) fun _ _ _ _ _ _ us hl => match us, hl with | [_], _ => rfl
  have g_fO := PySem.W.mg_of X G b_fO
  have F_fT := fun_mk (st := sThg) l_fT c_fT k_fT
  have B_fT := F_fT.binds (ps := ["feed", "least", "most"]) fun _ _ _ _ _ _ us hl => match us, hl with | [_, _, _], _ => rfl
  have g_fT := PySem.W.mg_of X G b_fT
  have F_fC := fun_mk (st := sClm) l_fC c_fC k_fC
  have B_fC := F_fC.binds (ps := ["feed", "things", "most"]) fun _ _ _ _ _ _ us hl => match us, hl with | [_, _, _], _ => rfl
  have g_fC := PySem.W.mg_of X G b_fC
  have F_fB := fun_mk (st := sBok) l_fB c_fB k_fB
  have B_fB := F_fB.binds (ps := ["feed", "things", "most"]) fun _ _ _ _ _ _ us hl => match us, hl with | [_, _, _], _ => rfl
  have g_fB := PySem.W.mg_of X G b_fB
  have F_fS := fun_mk (st := sSct) l_fS c_fS k_fS
  have B_fS := F_fS.binds (ps := ["one", "other", "k"]) fun _ _ _ _ _ _ us hl => match us, hl with | [_, _, _], _ => rfl
  have g_fS := PySem.W.mg_of X G b_fS
  have F_fs := fun_mk (st := Ta.sSwh) l_fs c_fs k_fs
  have B_fs := F_fs.binds (ps := ["thing"]) fun _ _ _ _ _ _ us hl => match us, hl with | [_], _ => rfl
  have g_fs := PySem.W.mg_of X G b_fs
  have F_ft := fun_mk (st := Tl.sStt) l_ft c_ft k_ft
  have B_ft := F_ft.binds (ps := ["feed", "book", "deep"]) fun _ _ _ _ _ _ us hl => match us, hl with | [_, _, _], _ => rfl
  have g_ft := PySem.W.mg_of X G b_ft
  have F_fc := fun_mk (st := Tl.sSts) l_fc c_fc k_fc
  have B_fc := F_fc.binds (ps := ["feed"]) fun _ _ _ _ _ _ us hl => match us, hl with | [_], _ => rfl
  have g_fc := PySem.W.mg_of X G b_fc
  have F_fp := fun_mk (st := Tl.sSpc) l_fp c_fp k_fp
  have B_fp := F_fp.binds (ps := ["tree"]) fun _ _ _ _ _ _ us hl => match us, hl with | [_], _ => rfl
  have g_fp := PySem.W.mg_of X G b_fp
  have F_fd := fun_mk (st := Ta.sStc) l_fd c_fd k_fd
  have B_fd := F_fd.binds (ps := ["book", "tree"]) fun _ _ _ _ _ _ us hl => match us, hl with | [_, _], _ => rfl
  have g_fd := PySem.W.mg_of X G b_fd
  have F_fi := fun_mk (st := Ta.sSit) l_fi c_fi k_fi
  have B_fi := F_fi.binds (ps := ["book", "thing", "left"]) fun _ _ _ _ _ _ us hl => match us, hl with | [_, _, _], _ => rfl
  have g_fi := PySem.W.mg_of X G b_fi
  have F_fo := fun_mk (st := Tj.sOdd) l_fo c_fo k_fo
  have B_fo := F_fo.binds (ps := ["book", "piece"]) fun _ _ _ _ _ _ us hl => match us, hl with | [_, _], _ => rfl
  have g_fo := PySem.W.mg_of X G b_fo
  have F_fu := fun_mk (st := Tj.sPtt) l_fu c_fu k_fu
  have B_fu := F_fu.binds (ps := ["tree", "way", "thing"]) fun _ _ _ _ _ _ us hl => match us, hl with | [_, _, _], _ => rfl
  have g_fu := PySem.W.mg_of X G b_fu
  have F_fx := fun_mk (st := Ta.sDue) l_fx c_fx k_fx
  have B_fx := F_fx.binds (ps := ["book", "thing"]) fun _ _ _ _ _ _ us hl => match us, hl with | [_, _], _ => rfl
  have g_fx := PySem.W.mg_of X G b_fx
  have F_fg := fun_mk (st := Ta.sGrt) l_fg c_fg k_fg
  have B_fg := F_fg.binds (ps := ["many", "long"]) fun _ _ _ _ _ _ us hl => match us, hl with | [_, _], _ => rfl
  have g_fg := PySem.W.mg_of X G b_fg
  have F_fr := fun_mk (st := Ta.sTrn) l_fr c_fr k_fr
  have B_fr := F_fr.binds (ps := ["tree"]) fun _ _ _ _ _ _ us hl => match us, hl with | [_], _ => rfl
  have g_fr := PySem.W.mg_of X G b_fr
  have F_fG := fun_mk (st := Tj.sGrr) l_fG c_fG k_fG
  have B_fG := F_fG.binds (ps := ["feed"]) fun _ _ _ _ _ _ us hl => match us, hl with | [_], _ => rfl
  have g_fG := PySem.W.mg_of X G b_fG
  have F_fW := fun_mk (st := sWho) l_fW c_fW k_fW
  have B_fW := F_fW.binds (ps := ["thing"]) fun _ _ _ _ _ _ us hl => match us, hl with | [_], _ => rfl
  have g_fW := PySem.W.mg_of X G b_fW
  have F_fE := fun_mk (st := sCme) l_fE c_fE k_fE
  have B_fE := F_fE.binds (ps := ["one", "other", "k"]) fun _ _ _ _ _ _ us hl => match us, hl with | [_, _, _], _ => rfl
  have g_fE := PySem.W.mg_of X G b_fE
  have F_fN := fun_mk (st := sCon) l_fN c_fN k_fN
  have B_fN := F_fN.binds (ps := ["one", "other", "k"]) fun _ _ _ _ _ _ us hl => match us, hl with | [_, _, _], _ => rfl
  have g_fN := PySem.W.mg_of X G b_fN
  have F_fn := fun_mk (st := sNum) l_fn c_fn k_fn
  have B_fn := F_fn.binds (ps := ["thing", "many"]) fun _ _ _ _ _ _ us hl => match us, hl with | [_, _], _ => rfl
  have g_fn := PySem.W.mg_of X G b_fn
  have F_fF := fun_mk (st := Ta.sFork) l_fF c_fF k_fF
  have B_fF := F_fF.binds (ps := ["thing"]) fun _ _ _ _ _ _ us hl => match us, hl with | [_], _ => rfl
  have g_fF := PySem.W.mg_of X G b_fF
  have F_fA := fun_mk (st := Ta.sLeaf) l_fA c_fA k_fA
  have B_fA := F_fA.binds (ps := ["thing"]) fun _ _ _ _ _ _ us hl => match us, hl with | [_], _ => rfl
  have g_fA := PySem.W.mg_of X G b_fA
  have F_fZ := fun_mk (st := Ta.sSize) l_fZ c_fZ k_fZ
  have B_fZ := F_fZ.binds (ps := ["thing"]) fun _ _ _ _ _ _ us hl => match us, hl with | [_], _ => rfl
  have g_fZ := PySem.W.mg_of X G b_fZ
  have F_fQ := fun_mk (st := Ta.sCn) l_fQ c_fQ k_fQ
  have B_fQ := F_fQ.binds (ps := ["book", "thing"]) fun _ _ _ _ _ _ us hl => match us, hl with | [_, _], _ => rfl
  have g_fQ := PySem.W.mg_of X G b_fQ
  have F_fI := fun_mk (st := Ta.sIst) l_fI c_fI k_fI
  have B_fI := F_fI.binds (ps := ["book", "thing"]) fun _ _ _ _ _ _ us hl => match us, hl with | [_, _], _ => rfl
  have g_fI := PySem.W.mg_of X G b_fI
  have F_fL := fun_mk (st := sLaw) l_fL c_fL k_fL
  have B_fL := F_fL.binds (ps := ["script"]) fun _ _ _ _ _ _ us hl => match us, hl with | [_], _ => rfl
  have g_fL := PySem.W.mg_of X G b_fL
  have F_gH := fun_mk (st := sHop) l_gH c_gH k_gH
  have B_gH := F_gH.binds (ps := ["says"]) fun _ _ _ _ _ _ us hl => match us, hl with | [_], _ => rfl
  have g_gH := PySem.W.mg_of X G b_gH
  have C_gH : Se.FunC K "has_opposites" "has_opposites" sHop gH cH _ := ⟨⟨_, _, _, _, _, _, _, _, rfl, l_gH, c_gH⟩, k_gH⟩
  have M_MOST_THINGS := PySem.W.mg_of X G b_MOST_THINGS
  have M_MOST_PIECES := PySem.W.mg_of X G b_MOST_PIECES
  have M_MOST_WITHIN := PySem.W.mg_of X G b_MOST_WITHIN
  have Z_range := PySem.W.mg_none_of X G z_range
  have Z_isinstance := PySem.W.mg_none_of X G z_isinstance
  have Z_len := PySem.W.mg_none_of X G z_len
  have Z_list := PySem.W.mg_none_of X G z_list
  have Z_min := PySem.W.mg_none_of X G z_min
  have Z_tuple := PySem.W.mg_none_of X G z_tuple
  have Z_sorted := PySem.W.mg_none_of X G z_sorted
  have Z_set := PySem.W.mg_none_of X G z_set
  have Z_abs := PySem.W.mg_none_of X G z_abs
  have Z_any := PySem.W.mg_none_of X G z_any
  have Z_all := PySem.W.mg_none_of X G z_all
  have Z_bool := PySem.W.mg_none_of X G z_bool
  have Z_int := PySem.W.mg_none_of X G z_int
  have Z_zip := PySem.W.mg_none_of X G z_zip
  have Z_repr := PySem.W.mg_none_of X G z_repr
  have Z_str := PySem.W.mg_none_of X G z_str
  refine ⟨PySem.W.fnOf "law" "law" (defArgs sLaw) (defBody sLaw) (defScope sLaw) .none kV_fL dc_fL pm_fL an_fL cd_fL ct_fL, [(cH, PH)], spLaw PH K, ?_, ?_, ?_, fun s u => .of_eq rfl, fun H a ns _ hT hS => ?_, fun base hb hn hT => ?_⟩
  · intro p hp
    simp only [List.mem_cons, List.not_mem_nil, or_false] at hp
    rcases hp with rfl
    · exact ow "has_opposites" (by simp) _ g_gH cH PH _ _ _ _ _ _ l_gH rfl rfl lc_H v_H
  · intro p hp
    simp only [List.mem_cons, List.not_mem_nil, or_false] at hp
    rcases hp with rfl
    · exact np_H
  · intro p hp
    simp only [List.mem_cons, List.not_mem_nil, or_false] at hp
    rcases hp with rfl
    · exact PySem.W.codeHd_of_K X hd_H
  · exact ⟨a, ns, rfl, hS, ⟨#[], hT (cH, PH) (by simp), trivial⟩, fun _ => rfl⟩
  · have t_H := hT (cH, PH) (by simp)
    have T_H : TabB base mg cH PH := ⟨t_H.code, t_H.bm, t_H.gP⟩
    have Ts : Cl.Zs mg := by constructor <;> assumption
    have Tc : Zc mg := by constructor <;> assumption
    have Td : Zd mg := by constructor <;> assumption
    have Tv : Tl.Zv mg := by constructor <;> assumption
    have Tt : Ta.Zt mg := by constructor <;> assumption
    have Ta2 : Ta.Zs mg := by constructor <;> assumption
    have Tgg : Ta.Zg mg := by constructor <;> assumption
    have To : Tj.Zo mg := by constructor <;> assumption
    have Tp : Tj.Zp mg := by constructor <;> assumption
    have Tq : Tj.Zq mg := by constructor <;> assumption
    have Tk : Zk mg := by constructor <;> assumption
    have GD : FnOk l.prog w K mg base CX0 2 fD _ ["feed", "many"] spDrw := ok_drw F_fD F_fM B_fM g_fM Z_len
    have GO : FnOk l.prog w K mg base CX0 1 fO _ ["script"] (spOpn K) := ok_opn F_fO Z_list
    have GT : FnOk l.prog w K mg base CX0 3 fT _ ["feed", "least", "most"] spThg := ok_thg F_fT Ts F_fD B_fD g_fD GD
    have GC : FnOk l.prog w K mg base CX0 3 fC _ ["feed", "things", "most"] spClm := ok_clm F_fC Ts F_fD B_fD g_fD GD
    have GB : FnOk l.prog w K mg base CX0 4 fB _ ["feed", "things", "most"] spBok := ok_bok F_fB Ts F_fD B_fD g_fD GD F_fC B_fC g_fC GC
    have GS : FnOk l.prog w K mg base CX0 1 fS _ ["one", "other", "k"] spSct := ok_sct F_fS Td
    have Gt : FnOk l.prog w K mg base CX0 13 ft _ ["feed", "book", "deep"] (Tl.spStt 10) := Tl.ok_stt F_ft Tv B_ft g_ft F_fD B_fD g_fD GD F_fS B_fS g_fS GS 10
    have Gc : FnOk l.prog w K mg base CX0 14 fc _ ["feed"] Tl.spTr := Tl.ok_sts F_fc F_fD B_fD g_fD GD F_fT B_fT g_fT GT F_fB B_fB g_fB GB F_ft B_ft g_ft Gt
    have Gp : FnOk l.prog w K mg base CX0 41 fp _ ["tree"] (Tl.spSpc 40) := Tl.ok_spc F_fp B_fp g_fp 40
    have Gd' : FnOk l.prog w K mg base CX0 42 fd _ ["book", "tree"] (Ta.spStG 40) := Ta.ok_stG F_fd B_fd g_fd F_fS B_fS g_fS GS 40
    have Gs : FnOk l.prog w K mg base CX0 1 fs _ ["thing"] Og.spWhG := Ta.ok_swh F_fs Ta2
    have Gi : FnOk l.prog w K mg base CX0 42 fi _ ["book", "thing", "left"] (Ta.spSit 40) := Ta.ok_sit F_fi Ta2 B_fi g_fi F_fs B_fs g_fs Gs 40
    have Gx : FnOk l.prog w K mg base CX0 43 fx _ ["book", "thing"] Ta.spDue := Ta.ok_due F_fx Ta2 F_fi B_fi g_fi Gi F_fp B_fp g_fp Gp F_fd B_fd g_fd Gd'
    have Go : FnOk l.prog w K mg base CX0 1 fo _ ["book", "piece"] Tj.spOdd := Tj.ok_odd F_fo To
    have Gu : FnOk l.prog w K mg base CX0 8 fu _ ["tree", "way", "thing"] (Tj.spPtt 6) := Tj.ok_ptt F_fu Tp B_fu g_fu 6
    have Gg : FnOk l.prog w K mg base CX0 1 fg _ ["many", "long"] Ta.spGrt := Ta.ok_grt F_fg Tgg
    have Gr : FnOk l.prog w K mg base CX0 47 fr _ ["tree"] (Ta.spTrn 46) := Ta.ok_trn F_fr B_fr g_fr 46
    have GW : FnOk l.prog w K mg base CX0 1 fW _ ["thing"] Og.spWhG := Og.ok_whp F_fW Tc
    have GE : FnOk l.prog w K mg base CX0 2 fE _ ["one", "other", "k"] spCme := ok_cme F_fE Tc M_MOST_THINGS F_fW B_fW g_fW (Og.wh_weak GW)
    have GE2 : FnOk l.prog w K mg base CX0 2 fE _ ["one", "other", "k"] Og.spCmN := Og.ok_cmN F_fE Tc M_MOST_THINGS F_fW B_fW g_fW GW
    have GH : FnOk l.prog w K mg base CX0 3 gH _ ["says"] (spHop PH) := ok_hop C_gH Tc T_H
    have GN1 : FnOk l.prog w K mg base CX0 4 fN _ ["one", "other", "k"] (spCon PH) := ok_con F_fN Tc F_fE B_fE g_fE GE k_gH B_gH g_gH GH
    have GN2 : FnOk l.prog w K mg base CX0 4 fN _ ["one", "other", "k"] Og.spCoN := Og.ok_coN F_fN Tc F_fE B_fE g_fE GE2 k_gH B_gH g_gH GH
    have Gn : FnOk l.prog w K mg base CX0 2 fn _ ["thing", "many"] Og.spNmG := Og.ok_numG F_fn F_fW B_fW g_fW GW
    have GF : FnOk l.prog w K mg base CX0 1 fF _ ["thing"] Ta.spFkG := Ta.ok_fkG F_fF Tt
    have GA : FnOk l.prog w K mg base CX0 1 fA _ ["thing"] Ta.spLfG := Ta.ok_lfG F_fA Tt
    have GZ : FnOk l.prog w K mg base CX0 2 fZ _ ["thing"] Ta.spSzG := Ta.ok_szG F_fZ M_MOST_PIECES M_MOST_WITHIN F_fF B_fF g_fF GF
    have GQ : FnOk l.prog w K mg base CX0 45 fQ _ ["book", "thing"] (Ta.spCnG PH 40) := Ta.ok_cnG F_fQ Tt B_fQ g_fQ F_fF B_fF g_fF GF F_fA B_fA g_fA GA F_fn B_fn g_fn Gn F_fN B_fN g_fN (Og.ok_or GN1 GN2) 40
    have GI : FnOk l.prog w K mg base CX0 46 fI _ ["book", "thing"] (Ta.spItG PH) := Ta.ok_itG F_fI F_fZ B_fZ g_fZ GZ F_fQ B_fQ g_fQ GQ
    have GG : Gx2.FnX l.prog w K mg base CX0 48 fG _ ["feed"] (Tj.spGrr PH) := Tj.ok_grr F_fG Tq F_fD B_fD g_fD GD F_fg B_fg g_fg Gg F_fI B_fI g_fI GI F_fr B_fr g_fr Gr F_fx B_fx g_fx Gx
    exact ok_law F_fL Tk F_fO B_fO g_fO GO F_fD B_fD g_fD GD F_fc B_fc g_fc Gc F_fo B_fo g_fo Go F_fu B_fu g_fu Gu F_fI B_fI g_fI GI F_fx B_fx g_fx Gx F_fG B_fG g_fG GG
end K20
open PySem PySem.W PyProof.Rows
set_option maxHeartbeats 0 in
theorem PySem.Challenge.cw_sparecut_k20_trees_known_holds : PySem.Challenge.rw_sparecut_k20_trees_known.Holds := by
  w_on; o_law; k_head; (case hw => w_witness2)
  k_fill
  refine Eg.walk_own (l := PySem.Challenge.rw_sparecut_k20_trees_known) (m := 63) (k := 49) (x := "script") ["has_opposites"] rfl (by decide) rfl ⟨rfl, by decide, by decide⟩ (by decide +kernel) (fun w h Y => PySem.W.kIn_of Y) ?F
  case F =>
    intro w mg fa h Y KX G hmg ow
    refine' K20.all_mk KX G hmg ow ?b_fM ?l_fM ?c_fM ?k_fM ?b_fD ?l_fD ?c_fD ?k_fD ?b_fO ?l_fO ?c_fO ?k_fO ?b_fT ?l_fT ?c_fT ?k_fT ?b_fC ?l_fC ?c_fC ?k_fC ?b_fB ?l_fB ?c_fB ?k_fB ?b_fS ?l_fS ?c_fS ?k_fS ?b_fs ?l_fs ?c_fs ?k_fs ?b_ft ?l_ft ?c_ft ?k_ft ?b_fc ?l_fc ?c_fc ?k_fc ?b_fp ?l_fp ?c_fp ?k_fp ?b_fd ?l_fd ?c_fd ?k_fd ?b_fi ?l_fi ?c_fi ?k_fi ?b_fo ?l_fo ?c_fo ?k_fo ?b_fu ?l_fu ?c_fu ?k_fu ?b_fx ?l_fx ?c_fx ?k_fx ?b_fg ?l_fg ?c_fg ?k_fg ?b_fr ?l_fr ?c_fr ?k_fr ?b_fG ?l_fG ?c_fG ?k_fG ?b_fW ?l_fW ?c_fW ?k_fW ?b_fE ?l_fE ?c_fE ?k_fE ?b_fN ?l_fN ?c_fN ?k_fN ?b_fn ?l_fn ?c_fn ?k_fn ?b_fF ?l_fF ?c_fF ?k_fF ?b_fA ?l_fA ?c_fA ?k_fA ?b_fZ ?l_fZ ?c_fZ ?k_fZ ?b_fQ ?l_fQ ?c_fQ ?k_fQ ?b_fI ?l_fI ?c_fI ?k_fI ?b_fL ?l_fL ?c_fL ?k_fL ?b_gH ?l_gH ?c_gH ?k_gH ?lc_H ?v_H ?hd_H ?np_H ?b_MOST_THINGS ?b_MOST_PIECES ?b_MOST_WITHIN ?z_range ?z_isinstance ?z_len ?z_list ?z_min ?z_tuple ?z_sorted ?z_set ?z_abs ?z_any ?z_all ?z_bool ?z_int ?z_zip ?z_repr ?z_str
    (case b_fM => k_is)
    (case l_fM => k_is)
    (case c_fM => k_is)
    (case k_fM => k_is)
    (case b_fD => k_is)
    (case l_fD => k_is)
    (case c_fD => k_is)
    (case k_fD => k_is)
    (case b_fO => k_is)
    (case l_fO => k_is)
    (case c_fO => k_is)
    (case k_fO => k_is)
    (case b_fT => k_is)
    (case l_fT => k_is)
    (case c_fT => k_is)
    (case k_fT => k_is)
    (case b_fC => k_is)
    (case l_fC => k_is)
    (case c_fC => k_is)
    (case k_fC => k_is)
    (case b_fB => k_is)
    (case l_fB => k_is)
    (case c_fB => k_is)
    (case k_fB => k_is)
    (case b_fS => k_is)
    (case l_fS => k_is)
    (case c_fS => k_is)
    (case k_fS => k_is)
    (case b_fs => k_is)
    (case l_fs => k_is)
    (case c_fs => k_is)
    (case k_fs => k_is)
    (case b_ft => k_is)
    (case l_ft => k_is)
    (case c_ft => k_is)
    (case k_ft => k_is)
    (case b_fc => k_is)
    (case l_fc => k_is)
    (case c_fc => k_is)
    (case k_fc => k_is)
    (case b_fp => k_is)
    (case l_fp => k_is)
    (case c_fp => k_is)
    (case k_fp => k_is)
    (case b_fd => k_is)
    (case l_fd => k_is)
    (case c_fd => k_is)
    (case k_fd => k_is)
    (case b_fi => k_is)
    (case l_fi => k_is)
    (case c_fi => k_is)
    (case k_fi => k_is)
    (case b_fo => k_is)
    (case l_fo => k_is)
    (case c_fo => k_is)
    (case k_fo => k_is)
    (case b_fu => k_is)
    (case l_fu => k_is)
    (case c_fu => k_is)
    (case k_fu => k_is)
    (case b_fx => k_is)
    (case l_fx => k_is)
    (case c_fx => k_is)
    (case k_fx => k_is)
    (case b_fg => k_is)
    (case l_fg => k_is)
    (case c_fg => k_is)
    (case k_fg => k_is)
    (case b_fr => k_is)
    (case l_fr => k_is)
    (case c_fr => k_is)
    (case k_fr => k_is)
    (case b_fG => k_is)
    (case l_fG => k_is)
    (case c_fG => k_is)
    (case k_fG => k_is)
    (case b_fW => k_is)
    (case l_fW => k_is)
    (case c_fW => k_is)
    (case k_fW => k_is)
    (case b_fE => k_is)
    (case l_fE => k_is)
    (case c_fE => k_is)
    (case k_fE => k_is)
    (case b_fN => k_is)
    (case l_fN => k_is)
    (case c_fN => k_is)
    (case k_fN => k_is)
    (case b_fn => k_is)
    (case l_fn => k_is)
    (case c_fn => k_is)
    (case k_fn => k_is)
    (case b_fF => k_is)
    (case l_fF => k_is)
    (case c_fF => k_is)
    (case k_fF => k_is)
    (case b_fA => k_is)
    (case l_fA => k_is)
    (case c_fA => k_is)
    (case k_fA => k_is)
    (case b_fZ => k_is)
    (case l_fZ => k_is)
    (case c_fZ => k_is)
    (case k_fZ => k_is)
    (case b_fQ => k_is)
    (case l_fQ => k_is)
    (case c_fQ => k_is)
    (case k_fQ => k_is)
    (case b_fI => k_is)
    (case l_fI => k_is)
    (case c_fI => k_is)
    (case k_fI => k_is)
    (case b_fL => k_is)
    (case l_fL => k_is)
    (case c_fL => k_is)
    (case k_fL => k_is)
    (case b_gH => k_is)
    (case l_gH => k_is)
    (case c_gH => k_is)
    (case k_gH => k_is)
    (case lc_H => k_is)
    (case v_H => exact rfl)
    (case hd_H => kernel_rfl)
    (case np_H => kernel_rfl)
    (case b_MOST_THINGS => k_is)
    (case b_MOST_PIECES => k_is)
    (case b_MOST_WITHIN => k_is)
    (case z_range => k_is)
    (case z_isinstance => k_is)
    (case z_len => k_is)
    (case z_list => k_is)
    (case z_min => k_is)
    (case z_tuple => k_is)
    (case z_sorted => k_is)
    (case z_set => k_is)
    (case z_abs => k_is)
    (case z_any => k_is)
    (case z_all => k_is)
    (case z_bool => k_is)
    (case z_int => k_is)
    (case z_zip => k_is)
    (case z_repr => k_is)
    (case z_str => k_is)
