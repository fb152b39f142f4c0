import PyProof.Rows.All
import Wide.All
import OpenK.AllK
import Wide.FinOn
import PyProof.EqAt
import PyProof.EqKinds
import PyProof.TupleCall
import PySem.Challenge.RW_sparecut_k53_tellings_made_whole
import HandS.ForMost
import HandS.Evl
import HandS.Conv
import HandS.Exc
import HandS.ExcOwn
import HandS.ExcInit
import HandS.ExcValue
import HandS.ExcIs
import KE.KExcIs
import KE.KxText
import HandS.AnyAll
import HandS.GenOver
import HandS.SortInts
import HandS.TupAny
import HandS.TupMul
import HandS.Strs
import HandS.IsInst
import HandS.EndTab
import HandS.EndOwn
import HandS.SetFor
import KE.KNestM
import KE.GoesEnum
import HandS.FStr
import HandS.RaiseMore
import KE.DatumOrd
import HandS.Zip
import HandS.Style
import HandS.RevRange
import HandS.TryOnly
import HandS.WordsExc
import KE.LtData
import HandS.TupLe
import HandS.ExcField
import HandS.Dict
import HandS.More
import HandS.WordsDict
import HandS.DictComp
import HandS.Deep
import HandS.Rev
import HandS.Text
import HandS.StrMore
import KE.IntTextLaws
set_option Elab.async false
set_option linter.all false
set_option maxRecDepth 100000
set_option maxHeartbeats 2000000
namespace Nw
open PySem PySem.Spec PyProof.Rows L2
/-! ### readings that hide the heap: what is new is told by its facts alone -/
theorem same_new {H : Hp} {p : Addr} {o : HO} (h : H p = none) : Same H (upd H p o) := fun b x e => by
  rw [upd_ne (ne_of_none e h)]
  exact e
theorem sqt {K : PySem.W.Frag} {H H' : Hp} {a : Addr} {xs : List V} (e : Same H H') (h : SqT K H a xs) : SqT K H' a xs := by
  rcases h with (h | ⟨o, h⟩) | h
  · exact .inl (.inl (e _ _ h))
  · exact .inl (.inr ⟨o, e _ _ h⟩)
  · exact .inr h
/-- a new object o at a place of its own -/
def New (H : Hp) (o : HO) (Q : VK) : Prop := ∀ p H2, H p = none → Same H H2 → H2 p = some o → (∀ b, b ≠ p → H2 b = H b) → Q (.ref p) H2
theorem New.to {H : Hp} {o : HO} {Q : VK} (h : New H o Q) : ∀ p, H p = none → Q (.ref p) (upd H p o) := fun p n => h p _ n (same_new n) upd_same fun b nb => upd_ne nb
section
variable {X : Cx} {e : Expr} {es : List Expr} {t t' : TE} {ta : TA} {pos : Pos}
theorem pe_weak (h : PE X e t) (i : ∀ σ H Q, t' σ H Q → t σ H Q) : PE X e t' := ⟨fun pins s σ H Q I q => h.run pins s σ H Q I (i σ H Q q)⟩
theorem op_weak {f : Value → Value → Sem Value} {r r' : R2} (h : OpR X f r) (i : ∀ x y H Q, r' x y H Q → r x y H Q) : OpR X f r' := fun pins s σ H x y v u Q I rx ry q => h pins s σ H x y v u Q I rx ry (i x y H Q q)
theorem call_weak {f : Value} {r r' : List V → Hp → VK → Prop} (h : CallR X f r) (i : ∀ xs H Q, r' xs H Q → r xs H Q) : CallR X f r' := fun pins s σ H xs us Q I rx q => h pins s σ H xs us Q I rx (i xs H Q q)
theorem mt_weak {id : String} {r r' : V → List V → Hp → VK → Prop} (h : MtR X id r) (i : ∀ x xs H Q, r' x xs H Q → r x xs H Q) : MtR X id r' := fun pins s σ H x xs v us Q I rx rs q => h pins s σ H x xs v us Q I rx rs (i x xs H Q q)
theorem sl_weak {r r' : V → Option Int → Option Int → Hp → VK → Prop} (h : SlR X r) (i : ∀ x lo hi H Q, r' x lo hi H Q → r x lo hi H Q) : SlR X r' := fun pins s σ H x v vl vu lo hi sl Q I rx a b c q => h pins s σ H x v vl vu lo hi sl Q I rx a b c (i x lo hi H Q q)
/-- what follows may be asked for less -/
def clA (t : TA) : TA := fun σ H R => ∃ R' : List V → Hp → Prop, (∀ xs H1, R' xs H1 → R xs H1) ∧ t σ H R'
theorem pa_cl (h : PA X es ta) : PA X es (clA ta) := ⟨fun ps pins s σ H Q I ⟨R', i, q⟩ => thn (h.run ps pins s σ H R' I q) fun us s1 ⟨vs, H1, I1, r1, q1⟩ => ⟨vs, H1, I1, r1, i vs H1 q1⟩⟩
def clE (t : TE) : TE := fun σ H R => ∃ R' : VK, (∀ v H1, R' v H1 → R v H1) ∧ t σ H R'
theorem pe_cl (h : PE X e t) : PE X e (clE t) := ⟨fun pins s σ H Q I ⟨R', i, q⟩ => thn (h.run pins s σ H R' I q) fun u s1 ⟨v, H1, I1, r1, q1⟩ => ⟨v, H1, I1, r1, i v H1 q1⟩⟩
def nLst (t : TA) : TE := fun σ H Q => t σ H fun xs H1 => xs.length ≤ sizeLine ∧ New H1 (.lst xs) Q
def nTup (t : TA) : TE := fun σ H Q => t σ H fun xs H1 => xs.length ≤ sizeLine ∧ New H1 (.tup xs) Q
theorem pe_lstN (h : PA X es ta) : PE X (.List es pos) (nLst ta) := pe_weak (pe_lst (pa_cl h)) fun _ _ _ q => ⟨_, fun _ _ z => ⟨z.1, z.2.to⟩, q⟩
theorem pe_tupN {x1} (h : PA X es ta) : PE X (.Tuple es x1 pos) (nTup ta) := pe_weak (pe_tup (pa_cl h)) fun _ _ _ q => ⟨_, fun _ _ z => ⟨z.1, z.2.to⟩, q⟩
/-- xs + ys (lists) -/
def rCatN : R2 := fun x y H Q => ∃ p q xs ys, x = .ref p ∧ y = .ref q ∧ H p = some (.lst xs) ∧ H q = some (.lst ys) ∧ xs.length + ys.length ≤ sizeLine ∧ New H (.lst (xs ++ ys)) Q
theorem op_catN : OpR X (binaryOp .Add) rCatN := op_weak op_cat fun x y H Q ⟨p, q, xs, ys, h1, h2, h3, h4, h5, h6⟩ => ⟨p, q, xs, ys, h1, h2, h3, h4, h5, h6.to⟩
/-- a tuple of xs, new or not -/
def ResT (H : Hp) (xs : List V) (Q : VK) : Prop := ∀ p H2, Same H H2 → H2 p = some (.tup xs) → Q (.ref p) H2
theorem call_list_ofN : CallR X (.type "list") (fun xs H Q => ∃ p ys, xs = [.ref p] ∧ (SqL X.K H p ys ∨ SqT X.K H p ys) ∧ New H (.lst ys) Q) := call_weak call_list_of fun _ _ _ ⟨p, ys, h1, h2, h3⟩ => ⟨p, ys, h1, h2, h3.to⟩
theorem call_tuple_ofN : CallR X (.type "tuple") (fun xs H Q => ∃ p ys, xs = [.ref p] ∧ SqL X.K H p ys ∧ New H (.tup ys) Q) := call_weak call_tuple_of fun _ _ _ ⟨p, ys, h1, h2, h3⟩ => ⟨p, ys, h1, .inl ⟨h2, h3.to⟩⟩
theorem sl_listN : SlR X (fun x lo hi H Q => ∃ a xs, x = .ref a ∧ SqL X.K H a xs ∧ New H (.lst (cutV xs lo hi)) Q) := sl_weak sl_list fun _ _ _ _ _ ⟨a, xs, h1, h2, h3⟩ => ⟨a, xs, h1, h2, h3.to⟩
end
/-! ### data by its values -/
theorem dp_bls {K : PySem.W.Frag} {H : Hp} : ∀ bs : List Bool, DpAll K H (bs.map V.bl) (bs.map PyData.bool)
  | [] => .nil
  | b :: r => .cons (.bl b) (dp_bls r)
theorem dp_ints {K : PySem.W.Frag} {H : Hp} : ∀ ns : List Int, DpAll K H (ns.map V.int) (ns.map PyData.int)
  | [] => .nil
  | b :: r => .cons (.int b) (dp_ints r)
/-- flat data: numbers, truths, None -/
def flatD : PyData → Bool
  | .none | .bool _ | .int _ => true
  | _ => false
theorem flat_lay : ∀ ds : List PyData, ds.all flatD = true → PyData.canLayAll0 ds = true
  | [], _ => rfl
  | d :: r, h => by
    rw [List.all_cons, Bool.and_eq_true] at h
    show (PyData.canLay0 d && PyData.canLayAll0 r) = true
    rw [flat_lay r h.2, Bool.and_true]
    cases d <;> first | rfl | exact Bool.noConfusion h.1
theorem flat_depth : ∀ ds : List PyData, ds.all flatD = true → PyData.depthAll ds ≤ 1
  | [], _ => by decide
  | d :: r, h => by
    rw [List.all_cons, Bool.and_eq_true] at h
    have ih := flat_depth r h.2
    have hd : PyData.depth d ≤ 1 := by
      cases d <;> first | decide | exact Bool.noConfusion h.1 | exact Nat.zero_le _ | exact Nat.le_refl _
    show Nat.max (PyData.depth d) (PyData.depthAll r) ≤ 1
    exact Nat.max_le.mpr ⟨hd, ih⟩
theorem shaped_list {ds : List PyData} (h : ds.all flatD = true) : SeqAt.shaped (.list ds) = true := by
  have e := flat_depth ds h
  have e2 : PyData.depth (.list ds) ≤ 64 := by
    show PyData.depthAll ds + 1 ≤ 64
    omega
  show (PyData.canLayAll0 ds && decide (PyData.depth (.list ds) ≤ 64)) = true
  rw [flat_lay ds h, decide_eq_true e2]
  rfl
theorem shaped_tuple {ds : List PyData} (h : ds.all flatD = true) : SeqAt.shaped (.tuple ds) = true := by
  have e := flat_depth ds h
  have e2 : PyData.depth (.tuple ds) ≤ 64 := by
    show PyData.depthAll ds + 1 ≤ 64
    omega
  show (PyData.canLayAll0 ds && decide (PyData.depth (.tuple ds) ≤ 64)) = true
  rw [flat_lay ds h, decide_eq_true e2]
  rfl
theorem flat_bls (bs : List Bool) : (bs.map PyData.bool).all flatD = true := by
  rw [List.all_map, List.all_eq_true]
  exact fun _ _ => rfl
theorem flat_ints (ns : List Int) : (ns.map PyData.int).all flatD = true := by
  rw [List.all_map, List.all_eq_true]
  exact fun _ _ => rfl
theorem eqv_self {d : PyData} (h : SeqAt.shaped d = true) : PyData.eqv d d = true := SeqAt.eqv_refl d (SeqAt.canLay_of_shaped h)
end Nw
namespace Nw
open PySem PySem.Spec PyProof.Rows L2
section
variable {X : Cx}
theorem cr_sortedN : CallR X (.builtin "sorted") (fun vs H Q => ∃ (a : Addr) (ns : List Int), vs = [V.ref a] ∧ SqL X.K H a (ns.map V.int) ∧ ∀ ns' : List Int, ns'.Perm ns → ns'.Pairwise (· ≤ ·) → New H (.lst (ns'.map V.int)) Q) :=
  call_weak cr_sortedI fun _ _ _ ⟨a, ns, h1, h2, h3⟩ => ⟨a, ns, h1, h2, fun ns' p hp hs np => (h3 ns' hp hs).to p np⟩
theorem cutV_all {xs : List V} {lo hi : Option Int} (h : HT.sIx xs.length 0 lo = 0 ∧ HT.sIx xs.length xs.length hi = xs.length) : cutV xs lo hi = xs := by
  unfold cutV
  rw [h.1, h.2]
  exact List.take_length
theorem sl_tupN : SlR X (fun x lo hi H Q => ∃ a xs, x = .ref a ∧ H a = some (.tup xs) ∧ ResT H (cutV xs lo hi) Q) := sl_weak sl_tupA fun _ lo hi H Q ⟨a, xs, h1, h2, h3⟩ =>
  ⟨a, xs, h1, .of h2, fun z => h3 a H (Same.refl H) (by rw [cutV_all z]; exact h2), fun _ p np => h3 p _ (same_new np) upd_same⟩
theorem op_catTN : OpR X (binaryOp .Add) (fun x y H Q => ∃ a b xs ys, x = .ref a ∧ y = .ref b ∧ H a = some (.tup xs) ∧ H b = some (.tup ys) ∧ xs.length + ys.length ≤ sizeLine ∧ ResT H (xs ++ ys) Q) :=
  op_weak op_catA fun _ _ H Q ⟨a, b, xs, ys, h1, h2, h3, h4, h5, h6⟩ => ⟨a, b, xs, ys, h1, h2, .of h3, .of h4, h5, fun z => h6 b H (Same.refl H) (by rw [z]; exact h4), fun _ z => h6 a H (Same.refl H) (by rw [z, List.append_nil]; exact h3), fun _ _ p np => h6 p _ (same_new np) upd_same⟩
theorem op_repTN : OpR X (binaryOp .Mult) (fun x y H Q => ∃ l k xs, x = .ref l ∧ y = .int k ∧ H l = some (.tup xs) ∧ xs ≠ [] ∧ 2 ≤ k ∧ k ≤ 1000 ∧ xs.length ≤ 1000 ∧ ResT H (List.replicate k.toNat xs).flatten Q) :=
  op_weak op_repT fun _ _ H Q ⟨l, k, xs, h1, h2, h3, h4, h5, h6, h7, h8⟩ => ⟨l, k, xs, h1, h2, .of h3, h4, h5, h6, h7, fun p np => h8 p _ (same_new np) upd_same⟩
/-! the same rules with the written part by its name (for comprehensions' blocks) -/
variable {K : PySem.W.Frag}
theorem ix_tupB (h : X.K = K) : IxR X (rIxT K) := by subst h; exact ix_tup
theorem ix_listB (h : X.K = K) : IxR X (rIxL K) := by subst h; exact ix_list
theorem op_in_seqB (h : X.K = K) : OpR X (compareOp .In) (rIn K false) := by subst h; exact op_in_seq
theorem op_notIn_seqB (h : X.K = K) : OpR X (compareOp .NotIn) (rIn K true) := by subst h; exact op_notIn_seq
theorem call_len_seqB (h : X.K = K) : CallR X (.builtin "len") (fun xs H Q => ∃ p ys, xs = [.ref p] ∧ (SqL K H p ys ∨ SqT K H p ys) ∧ Q (.int ys.length) H) := by subst h; exact call_len_seq
theorem call_isiB (h : X.K = K) : CallR X (.builtin "isinstance") (rIsi K) := by subst h; exact call_isi
theorem op_eqDB (h : X.K = K) (hu : X.A.units + 64 < cLine) : OpR X (compareOp .Eq) (rEqD K) := by subst h; exact op_eqD hu
theorem op_neDB (h : X.K = K) (hu : X.A.units + 64 < cLine) : OpR X (compareOp .NotEq) (rNeD K) := by subst h; exact op_neD hu
end
end Nw
namespace Ev1
open PySem PySem.Spec PyProof.Rows L2 Nw
/-! ### exceptions as values -/
/-- at a an exception of the class cls, its dict d -/
def ExV (cls : Value) (d : Option Addr) (a : Addr) : HO := .ext fun h => ∃ (oe : Obj) (vs : Array Value), h.get? a = some oe ∧ Zc cls d oe ∧ oe.data = .fields vs
/-- an exception that was made of the class cls, its dict d: it stands at a place of its own -/
def Made (H1 : Hp) (cls : Value) (d : Option Addr) (Q : VK) : Prop := ∀ a H3, H1 a = none → Same H1 H3 → H3 a = some (ExV cls d a) → Q (.ref a) H3
theorem pe_made {X : Cx} {e : Expr} {t : L2.St → Hp → XK → Prop} (m : PMk X e t) : PE X e (fun σ H Q => t σ H fun cls d H1 => Made H1 cls d Q) := by
  refine ⟨fun pins s σ H Q I h => thn (m pins s σ H _ I h) fun u s1 z => ?_⟩
  obtain ⟨a, oe, vs, sI, H1, cls, d, rfl, J, k, na, ha, hz, hd, _, ha1, os, ag, _, q⟩ := z
  have new : ObjOk X.prog X.w (upd H1 a (ExV cls d a)) s1.heap a (ExV cls d a) := ⟨⟨oe, vs, ha, hz, hd⟩, ⟨oe, ha⟩, fun h1 h2 ⟨o, v, y, r⟩ i => ⟨o, v, i o y, r⟩⟩
  exact ⟨.ref a, upd H1 a (ExV cls d a), J.call' (ch := []) os (Un.laidN k na ha1) (J.hok.laidN k ha1 new) ag (fun b y => absurd y (by simp)), rfl, q a _ ha1 (same_new ha1) upd_same⟩
/-- at a an exception of the class D, with the field at = y -/
def ExF (H : Hp) (a D : Addr) (y : V) : Prop := ∃ dx, H a = some (ExV (.ref D) (some dx) a) ∧ H dx = some (.xd [(("at" : Str), y)])
/-- at a an exception of the class D -/
def ExAt (H : Hp) (a D : Addr) : Prop := H a = some (ExO (.ref D) a) ∨ ∃ y, ExF H a D y
theorem ExF.same {H H' : Hp} {a D : Addr} {y : V} (h : ExF H a D y) (s : Same H H') : ExF H' a D y := by
  obtain ⟨dx, h1, h2⟩ := h
  exact ⟨dx, s _ _ h1, s _ _ h2⟩
theorem ExAt.same {H H' : Hp} {a D : Addr} (h : ExAt H a D) (s : Same H H') : ExAt H' a D := by
  rcases h with h | ⟨y, h⟩
  · exact .inl (s _ _ h)
  · exact .inr ⟨y, h.same s⟩
theorem notCls_of {o : Obj} {vs : Array Value} (hd : o.data = .fields vs) : PySem.W.notCls o = true := by
  unfold PySem.W.notCls
  rw [hd]
section
variable {X : Cx} {pins : List (Addr × Obj)} {σ : L2.St} {H : Hp} {s : Shared} {a D : Addr} {y : V}
theorem ExF.inst (I : Inv X pins σ H s) (h : ExF H a D y) : ∃ ox od u, PySem.W.InstAt s.heap a ox D (some od) ∧ PySem.W.lookIn "at" od = some (some u) ∧ RelV y u := by
  obtain ⟨dx, h1, h2⟩ := h
  have z1 : ObjOk X.prog X.w H s.heap a (.ext fun h => ∃ (oe : Obj) (vs : Array Value), h.get? a = some oe ∧ Zc (.ref D) (some dx) oe ∧ oe.data = .fields vs) := I.hok a _ h1
  obtain ⟨⟨oe, vs, ha, ⟨hc, hd⟩, hv⟩, _⟩ := z1
  have z2 : ObjOk X.prog X.w H s.heap dx (.xd [(("at" : Str), y)]) := I.hok dx _ h2
  obtain ⟨mA, hn, hr⟩ := z2
  obtain ⟨od, ho, hl⟩ := lookIn_ns hn
  have l : List.lookup ("at" : Str) [(("at" : Str), y)] = some y := by simp [List.lookup]
  obtain ⟨u, hu, ru⟩ := RelO.some_of (v := y) (o := mA "at") (by rw [← l]; exact hr "at")
  exact ⟨oe, od, u, ⟨ha, hc, notCls_of hv, by rw [hd]; exact ho⟩, by rw [hl, hu], ru⟩
theorem ExAt.inst (I : Inv X pins σ H s) (h : ExAt H a D) : ∃ ox od, PySem.W.InstAt s.heap a ox D od := by
  rcases h with h | ⟨y, h⟩
  · obtain ⟨⟨oe, vs, ha, ⟨hc, hd⟩, hv, _⟩, _⟩ := I.hok a _ h
    exact ⟨oe, none, ⟨ha, hc, notCls_of hv, by rw [hd]; exact trivial⟩⟩
  · obtain ⟨ox, od, _, J, _⟩ := h.inst I
    exact ⟨ox, some od, J⟩
end
/-- X(e), X an own class without own __init__ -/
def tExN (C : Addr) (te : TE) : TE := fun σ H Q => te σ H fun _ H1 => ∀ a H2, H1 a = none → Same H1 H2 → H2 a = some (ExO (.ref C) a) → Q (.ref a) H2
theorem pe_excN {X : Cx} {C : Addr} {bmB : List Value} {B newId initId : String} {x : Str} {e : Expr} {te : TE} {p pos : Pos} (F : ExcBaseFacts B newId initId bmB) (q : PySem.W.excIn X.K C bmB newId = true) (gC : X.mg x = some (.ref C)) (kC : PySem.W.keepIn X.K (.ref C) = true) (hg : Gl X x)
    (he : PE X e te) (hs : starEach [e] X.env = (false, eval e X.env) :: starEach [] X.env := by rfl) (hdb : (x == ("__debug__" : Str)) = false := by decide) : PE X (.Call (.Name x p) [e] [] pos) (tExN C te) :=
  pe_weak (pe_exc1 F q gC kC hg (pe_cl he) hs hdb) fun _ _ _ h => ⟨_, fun _ _ z a na => z a _ na (same_new na) upd_same, h⟩
/-- isinstance(e, c) of an exception -/
def rIsX (K : PySem.W.Frag) : List V → Hp → VK → Prop := fun xs H Q => ∃ (a D : Addr) (c : V) (cv : Value) (b : Bool), xs = [.ref a, c] ∧ ExAt H a D ∧ ExcC K D ∧ (∀ u, RelV c u → u = cv) ∧ PySem.W.kitOne K (.ref D) cv = some b ∧ Q (.bl b) H
theorem call_isX {X : Cx} : CallR X (.builtin "isinstance") (rIsX X.K) := by
  intro pins s σ H xs us Q I r h
  obtain ⟨a, D, c, cv, b, rfl, hE, C, hcv, e, q⟩ := h
  cases r with
  | cons rx rr =>
    cases rr with
    | cons rt rr =>
      cases rr
      cases rx
      have ec := hcv _ rt
      subst ec
      obtain ⟨ox, od, J⟩ := hE.inst I
      have cl : (PySem.W.clsIn X.K D).isSome = true := by
        obtain ⟨cd, hc, _⟩ := PySem.W.any_some C.hd
        rw [hc]
        rfl
      exact PySem.W.kia_one (PySem.W.kitx_exc cl C.hg C.hk C.hs C.ha C.hn C.ht C.hm) I.kIn J e (fun z => nomatch z) fun tk => ⟨.bl b, H, I.kept (t' := tk) fun _ _ z => z, rfl, q⟩
/-- e.at of an exception -/
def tAtX (K : PySem.W.Frag) (te : TE) : TE := fun σ H Q => te σ H fun x H1 => ∃ (a D : Addr) (y : V), x = .ref a ∧ ExF H1 a D y ∧ ExcC K D ∧ PySem.W.findIn K (.ref D) "at" = some none ∧ Q y H1
theorem pe_atX {X : Cx} {e : Expr} {te : TE} {pos : Pos} (he : PE X e te) (hb : attributeBase e "at" X.env (eval e X.env) = eval e X.env := by rfl) : PE X (.Attribute e "at" pos) (tAtX X.K te) := by
  refine ⟨fun pins s σ H Q I h => attr_of hb (thn (he.run pins s σ H _ I h) fun u s1 hh => ?_)⟩
  obtain ⟨x, H1, I1, rx, a, D, y, rfl, hE, C, nf, q⟩ := hh
  cases rx
  obtain ⟨ox, od, u, J, l, ru⟩ := hE.inst I1
  exact HandSPX.exc_get I1.kIn J C.hg C.hk C.hs (PySem.W.findObj_own C.hd nf rfl l) (handed_of ru) ⟨y, H1, I1.tok _, ru, q⟩
/-- the promise of «def __init__(self, at): self.at = at» -/
def spInit (K : PySem.W.Frag) : Sp := fun vs H Q _ => ∃ (a C : Addr) (y : V), vs = [.ref a, y] ∧ OexC K C ∧ PySem.W.findIn K (.ref C) "at" = some none ∧ H a = some (exo a C none) ∧
  ∀ dx, H dx = none → dx ≠ a → Q .non (upd (upd H dx (exd dx [(("at" : Str), y)])) a (exo a C (some dx)))
theorem del_new {H1 : Hp} {a dx : Addr} {o1 o2 o3 : HO} (na : H1 a = none) (ne : dx ≠ a) : del (upd (upd (upd H1 a o1) dx o2) a o3) a = upd H1 dx o2 := by
  funext b
  by_cases hb : b = a
  · subst hb
    rw [del_same, upd_ne (Ne.symm ne), na]
  · rw [del_ne hb, upd_ne hb]
    by_cases hd : b = dx
    · subst hd
      rw [upd_same, upd_same]
    · rw [upd_ne hd, upd_ne hd, upd_ne hb]
/-- what C(y) asks, C with that __init__: the exception and its field -/
theorem made_F {K : PySem.W.Frag} {C : Addr} {y : V} {H1 : Hp} {Q : VK} (T : OexC K C) (nf : PySem.W.findIn K (.ref C) "at" = some none) (h : ∀ a H2, H1 a = none → Same H1 H2 → ExF H2 a C y → Q (.ref a) H2) :
    [y].length ≤ 1000 ∧ ∀ a, H1 a = none → spInit K (.ref a :: ([y] ++ [])) (upd H1 a (exo a C none)) (fun v H2 => v = .non ∧ ∃ (d : Addr) (fs : List (Str × V)), H2 a = some (exo a C (some d)) ∧ H2 d = some (exd d fs) ∧ H1 d = none ∧
      Made (upd (del H2 a) d (.xd fs)) (Value.ref C) (some d) Q) (fun _ _ _ => False) := by
  refine ⟨by simp, fun a na => ⟨a, C, y, rfl, T, nf, upd_same, fun dx nd ne => ?_⟩⟩
  have nd1 : H1 dx = none := by
    rw [upd_ne ne] at nd
    exact nd
  refine ⟨rfl, dx, [(("at" : Str), y)], upd_same, by rw [upd_ne ne, upd_same], nd1, ?_⟩
  rw [del_new na ne, upd_upd]
  intro b H3 nb s3 e3
  have sd : Same H1 (upd H1 dx (.xd [(("at" : Str), y)])) := same_new nd1
  exact h b H3 (sd.free nb) (sd.trans s3) ⟨dx, e3, s3 _ _ upd_same⟩
end Ev1
namespace Gx
open PySem PySem.Spec PyProof.Rows L2 GxR
/-! ### any, all of a generator expression whose element is run by the layer's own rules -/
/-- the generator's frame running, awake under any | all -/
abbrev gCx (X : Cx) (ge : Expr) (s : Shared) (H : Hp) (cenv : Env) (it : Addr) (fp : List Addr) (pn : List (Addr × Obj)) : Cx :=
  { X with
    s_0 := s
    H_0 := H
    env := cenv
    outer := X.stack
    stack := cenv :: X.stack
    ex := fp
    fn := fun _ => false
    pn := pn
    xe := fun _ _ => False
    A := X.A.in1.in1.over (.compLoop ge 0 (.ref it) .none cenv) [] }
theorem room_gen {k : Nat} {X : Cx} {elt : Expr} {gs : List Comprehension} {scope : Scope} {pos : Pos} {s : Shared} {H : Hp} {cenv : Env} {it : Addr} {fp : List Addr} {pn : List (Addr × Obj)} (r : Room (k + 1) X.A) :
    Room k (gCx X (.GeneratorExp elt gs scope pos) s H cenv it fp pn).A := by
  refine ⟨r.hd, ?_, ?_⟩
  · have := r.dp
    show X.A.depth + 0 + 1 + 3 * k + 5 < recursionLimit
    omega
  · have := r.un
    show X.A.units + 1 + 1 + 0 + 3 + 16 * k + 200 < cLine
    omega
/-- gens, drawn and toks say nothing but that all are bare -/
theorem inv_gens {X : Cx} {pins : List (Addr × Obj)} {σ : L2.St} {H : Hp} {s s' : Shared} (I : Inv X pins σ H s) (hh : s'.heap = s.heap) (ho : s'.os = s.os) (hb : AllBare s'.gens) : Inv X pins σ H s' := by
  obtain ⟨h, g, d, t, o⟩ := s
  obtain ⟨h', g', d', t', o'⟩ := s'
  dsimp only at hh ho hb
  subst hh ho
  exact { ok := I.ok, os := I.os, bare := hb, base := I.base, loc := I.loc, cell := I.cell, free := I.free, freeC := I.freeC, pin := I.pin, hok := I.hok, len := I.len }
theorem bare_set {s : Shared} {g : Nat} {x : GenState} (h : AllBare s.gens) (hx : x.bare = true) : AllBare (s.setGen g x).gens := by
  intro y hy
  have hy' : y ∈ s.gens.setIfInBounds g x := hy
  obtain ⟨i, hi, e⟩ := Array.mem_iff_getElem.mp hy'
  by_cases hg : g = i
  · subst hg
    rw [Array.getElem_setIfInBounds_self] at e
    rw [← e]
    exact hx
  · rw [Array.getElem_setIfInBounds_ne (by simpa using hi) hg] at e
    rw [← e]
    exact h _ (Array.getElem_mem _)
section
variable {X : Cx} {pins : List (Addr × Obj)} {σ : L2.St} {H : Hp} {s : Shared}
/-- what the frame of the generator knows as it begins -/
theorem gen_start {ge : Expr} {scope : Scope} {own : List (Str × Nat)} {fp : List Addr} {it a : Addr} {code : Value} {go : Obj} {gs : Array GenState} {tk : Nat} {h5 : Heap} {m : Str → Option Value} (I : Inv X pins σ H s) (hc : X.calm = true) (ok : BlkOk X.N X.env.scope scope own) (hN : X.N.Nodup)
    (nc : ∀ y ∈ scope.names, y.2 ≠ .cell) (hfp : ∀ b ∈ fp, FpOk X pins H b ∧ b < s.heap.objs.size) (fr : (X.A.in1.in1.over (.compLoop ge 0 (.ref it) .none (genEnv scope (cloFrom X.env.cells scope.names []) s.heap.objs.size code builtinsNs X.env)) []).frames = some (genEnv scope (cloFrom X.env.cells scope.names []) s.heap.objs.size code builtinsNs X.env :: X.stack))
    (hg : AllBare gs) (kp : ∀ b o, s.heap.get? b = some o → h5.get? b = some o) (hns : h5.Ns s.heap.objs.size m) (ha : h5.get? a = some go) (ha1 : s.heap.objs.size < a) (hd : ∀ v, go.data ≠ .cell v) :
    Inv (gCx X ge s H (genEnv scope (cloFrom X.env.cells scope.names []) s.heap.objs.size code builtinsNs X.env) it fp [(a, go)]) [] (wipe σ (own.map (·.2))) H { s with gens := gs, toks := tk, heap := h5 } := by
  have cm : ∀ {y : Str} {c : Addr}, (cloFrom X.env.cells scope.names []).lookup y = some c → X.env.cells.lookup y = some c := fun {y c} e => by
    rcases cloFrom_mem (PySem.mem_of_lookup e) with z | ⟨h1, z⟩
    · cases z
    · have q : ∃ c', X.env.cells.lookup y = some c' := by
        rcases ok.free (y, .free) h1 rfl with k | k
        · exact I.ok.has y (.inl k)
        · exact I.ok.has y (.inr k)
      obtain ⟨c', q⟩ := q
      rw [q] at z
      rw [q, z]
      rfl
  have ch : ∀ {y : Str}, scope.names.lookup y = some .free → ∃ c, (cloFrom X.env.cells scope.names []).lookup y = some c := fun {y} e => mem_lookup (cloFrom_has (PySem.mem_of_lookup e))
  have noc : ∀ {y : Str}, scope.names.lookup y ≠ some .cell := fun {y} e => nc _ (PySem.mem_of_lookup e) rfl
  have stL : ∀ b ∈ frs X.stack, b < s.heap.objs.size := fun b hb => by
    obtain ⟨_, o, e, _⟩ := I.stack.mem hb
    exact Heap.lt_size e
  have okG : (gCx X ge s H (genEnv scope (cloFrom X.env.cells scope.names []) s.heap.objs.size code builtinsNs X.env) it fp [(a, go)]).Ok := {
    mod := I.ok.mod
    kind := ok.kind
    glob := I.ok.glob
    blt := rfl
    above := Nat.le_refl _
    inj := fun x y c h1 h2 => I.ok.inj x y c (cm h1) (cm h2)
    has := fun x h => h.elim (fun k => absurd k noc) fun k => ch k
    cab := fun x c h => Bool.noConfusion h
    hd := fun h => I.ok.hd h
    frames := fr
    stk := .inr ⟨rfl, rfl⟩
    exf := fun b hb => ⟨Nat.ne_of_lt (hfp b hb).2, fun x c e => (hfp b hb).1.2.2.2.2.1 x c (cm e)⟩
    bs := I.bs
    bsz := Nat.le_trans I.ok.bsz I.sz
    noex := fun b o e hb => by
      rcases (hfp b hb).1.2.2.2.1 with z | z
      · exact I.ok.noex b o e z
      · exact Nat.lt_irrefl _ (Nat.lt_of_lt_of_le (Heap.lt_size e) (Nat.le_trans I.ok.bsz z))
    exfs := fun b hb z => by
      rcases List.mem_cons.mp (I.stkSub b z) with y | y
      · exact (hfp b hb).1.2.1 y
      · exact (hfp b hb).1.2.2.1 y
    funs := I.stack
    frf := I.stkFree }
  refine { ok := okG, os := rfl, bare := hg, base := Un.kept kp, loc := ⟨m, hns, fun i x v e1 e2 e3 => ?_⟩, cell := fun x c e => ?_, free := I.hok.fresh (Nat.le_refl _), freeC := fun x c e => I.freeC x c (cm e), pin := fun p hp => ?_, hok := I.hok.kept kp, len := (wipe_length _ _).trans I.len }
  · obtain ⟨e2, hi⟩ := wipe_some e2
    have hf : scope.names.lookup x = some .free := by
      have no : ∀ k, scope.names.lookup x = some k → ¬ (k = .local ∨ k = .cell) := fun k hk hh => by
        rcases ok.own _ (PySem.mem_of_lookup hk) hh with z | z
        · obtain ⟨p, hp, hx⟩ := List.mem_map.mp z
          have q := ok.ix p hp
          have hx' : p.1 = x := hx
          rw [hx'] at q
          exact hi (List.mem_map.mpr ⟨p, hp, nodup_ix hN q e1⟩)
        · exact z (List.mem_of_getElem? e1)
      have e3 : Vis scope x := e3
      rcases e3 with k | k | k
      · exact absurd (.inl rfl) (no _ k)
      · exact absurd (.inr rfl) (no _ k)
      · exact k
    have hv := ok.free _ (PySem.mem_of_lookup hf) rfl
    obtain ⟨m0, _, hl⟩ := I.loc
    obtain ⟨u, ru, q⟩ := hl i x v e1 e2 (.inr hv)
    refine ⟨u, ru, .inr ⟨.inr hf, ?_⟩⟩
    rcases q with ⟨k, _⟩ | ⟨_, c, ec, z⟩
    · have k' : X.env.scope.names.lookup x = some .local := k
      rcases hv with y | y
      · have y' : X.env.scope.names.lookup x = some .cell := y
        rw [k'] at y'
        cases y'
      · have y' : X.env.scope.names.lookup x = some .free := y
        rw [k'] at y'
        cases y'
    · obtain ⟨c', e'⟩ := ch hf
      have e2 := cm e'
      rw [ec] at e2
      cases e2
      exact ⟨c, e', z.keeps kp⟩
  · obtain ⟨v, z⟩ := I.cell x c (cm e)
    exact ⟨v, z.keeps kp⟩
  · have hp' : p ∈ [(a, go)] ++ ([] : List (Addr × Obj)) := hp
    have e : p = (a, go) := by simpa using hp'
    subst e
    refine ⟨ha, I.hok.fresh (Nat.le_of_lt ha1), Nat.ne_of_gt ha1, fun z => ?_, hd⟩
    exact Nat.lt_irrefl _ (Nat.lt_trans (stL _ z) ha1)
end
/-- what a turn's way through the generator must reach. stopb: the truth at which any (true), all (false) stops -/
def GEndP (Y : Cx) (σw : L2.St) (stopb : Bool) (Q : VK) : Nat → Shared → Shared → Prop := fun _ _ s => ∃ H', Inv Y [] σw H' s ∧ Q (.bl (!stopb)) H'
def GProto (Y : Cx) (σw : L2.St) (fp : List Addr) (tn : Nat → Heap → Prop) (W : Nat → Nat → Hp → Prop) (stopb : Bool) (Q : VK) : Protocol := fun n _ v s kap => ∃ (k : Bool) (H' : Hp), v = .bool k ∧ Inv Y [] σw H' s ∧
  ((k = stopb ∧ Q (.bl stopb) H') ∨ (k = !stopb ∧ ∃ i m, m < n ∧ W i m H' ∧ ∀ s'' : Shared, s''.heap = s.heap → s''.os = s.os → AllBare s''.gens → kap (.send .none) s''))
section
variable {X : Cx} {elt tg iter : Expr} {ifs : List Expr} {scope : Scope} {gpos : Pos} {s4 : Shared} {H4 : Hp} {cenv : Env} {it : Addr} {fp : List Addr} {pn : List (Addr × Obj)} {J : It} {tn : Nat → Heap → Prop} {g : TG} {tt : TT} {te : TE} {own : List Nat} {σ : L2.St} {stopb : Bool} {Q : VK} {W : Nat → Nat → Hp → Prop}
/-- the turns of the generator's own loop -/
theorem gen_loop (hc : X.calm = true) (hco : cenv.scope.isCoroutine = false) (T : Turn X.prog X.w X.K tg J fp it tn) (hpn : ∀ p ∈ pn, ∀ b ∈ fp, p.1 ≠ b)
    (pg : PG (gCx X (.GeneratorExp elt [⟨tg, iter, ifs, 0⟩] scope gpos) s4 H4 cenv it fp pn) tg g) (pt : PTs (gCx X (.GeneratorExp elt [⟨tg, iter, ifs, 0⟩] scope gpos) s4 H4 cenv it fp pn) ifs tt) (pe : PE (gCx X (.GeneratorExp elt [⟨tg, iter, ifs, 0⟩] scope gpos) s4 H4 cenv it fp pn) elt te)
    (turn : ∀ i m H, W i m H → (J.stop i H ∧ Q (.bl (!stopb)) H) ∨ (J.go i H ∧ ∃ Nx : Hp → Prop, (∀ H', Nx H' → ∃ m', m' < m ∧ W (i + 1) m' H') ∧ ∀ x H', J.yld i H x H' → g x (wipe σ own) H' fun σ2 H2 => wipe σ2 own = wipe σ own ∧ tt σ2 H2 fun b H3 =>
      if b = true then te σ2 H3 fun y H4 => (y = .bl stopb ∧ Q (.bl stopb) H4) ∨ (y = .bl (!stopb) ∧ Nx H4) else Nx H3)) :
    ∀ (m n i : Nat) (s0 s : Shared) (H' : Hp), m < n → W i m H' → Inv (gCx X (.GeneratorExp elt [⟨tg, iter, ifs, 0⟩] scope gpos) s4 H4 cenv it fp pn) [] (wipe σ own) H' s → tn i s.heap → (∀ b ∈ fp, H' b = none) →
      Seg (model X.prog X.w) X.A.in1.in1 (fun n s0 r s1 => r = .ok .next ∧ GEndP (gCx X (.GeneratorExp elt [⟨tg, iter, ifs, 0⟩] scope gpos) s4 H4 cenv it fp pn) (wipe σ own) stopb Q n s0 s1)
        (GProto (gCx X (.GeneratorExp elt [⟨tg, iter, ifs, 0⟩] scope gpos) s4 H4 cenv it fp pn) (wipe σ own) fp tn W stopb Q) n s0
        (.compLoop (.GeneratorExp elt [⟨tg, iter, ifs, 0⟩] scope gpos) 0 (.ref it) .none cenv) ((model X.prog X.w).den (.compLoop (.GeneratorExp elt [⟨tg, iter, ifs, 0⟩] scope gpos) 0 (.ref it) .none cenv)) [] s := by
  intro m
  induction m using Nat.strongRecOn with
  | ind m ih =>
    intro n i s0 s H' hmn w I st nf
    have fpk : ∀ {σ' : L2.St} {H' : Hp} {s' : Shared}, Inv (gCx X (.GeneratorExp elt [⟨tg, iter, ifs, 0⟩] scope gpos) s4 H4 cenv it fp pn) [] σ' H' s' → (∀ b ∈ fp, H' b = none) → ∀ b ∈ fp, FpOk (gCx X (.GeneratorExp elt [⟨tg, iter, ifs, 0⟩] scope gpos) s4 H4 cenv it fp pn) [] H' b := fun {σ' H' s'} I' hn b hb =>
      ⟨hn b hb, (I'.ok.exf b hb).1, I'.ok.exfs b hb, .inl hb, (I'.ok.exf b hb).2, fun p hp => hpn p (by simpa using hp) b hb⟩
    show Seg _ _ _ _ n s0 _ ((compTurn (.GeneratorExp elt [⟨tg, iter, ifs, 0⟩] scope gpos) 0 (.ref it) .none cenv).onRaise (leaving cenv)) [] s
    rw [compTurn_gen, Sem.onRaise_eq_wrap]
    refine seg_bind_wrap (wpAny_standAt ?_)
    rcases turn i m H' w with ⟨stop, q⟩ | ⟨go, Nx, hNx, step⟩
    · refine seg_bind_wrap (thnF (T.done (gCx X (.GeneratorExp elt [⟨tg, iter, ifs, 0⟩] scope gpos) s4 H4 cenv it fp pn) rfl rfl rfl hc i [] s _ H' (fun _ _ => False) I (fpk I nf) st stop) fun r s1 z => ?_)
      obtain ⟨rfl, I1⟩ := z
      exact seg_end (.ok .next) ⟨rfl, H', I1, q⟩
    · refine seg_bind_wrap (thnF (T.item (gCx X (.GeneratorExp elt [⟨tg, iter, ifs, 0⟩] scope gpos) s4 H4 cenv it fp pn) rfl rfl rfl hc i [] s _ H' (fun _ _ => False) I (fpk I nf) st go) fun r s1 z => ?_)
      obtain ⟨u, rfl, z⟩ := z
      refine seg_bind_wrap (thnF z fun _ s2 z2 => ?_)
      obtain ⟨x, H2, I2, r2, y2, st2, n2⟩ := z2
      have P2 := I2.pinned (fpk I2 n2) (T.obj _ _ st2)
      refine seg_bind_wrap (thnF (pg.run _ s2 _ H2 x u _ P2 r2 (step x H2 y2)) fun _ s3 z3 => ?_)
      obtain ⟨σ3, H3, I3, hw, q3⟩ := z3
      refine seg_bind_wrap (thnF (pt.run _ s3 σ3 H3 _ I3 q3) fun b sb zb => ?_)
      obtain ⟨Hb, Ib, qb⟩ := zb
      have back : ∀ {s' : Shared} {H' : Hp}, Inv (gCx X (.GeneratorExp elt [⟨tg, iter, ifs, 0⟩] scope gpos) s4 H4 cenv it fp pn) ([] ++ pinsAt fp s2.heap) σ3 H' s' →
          Inv (gCx X (.GeneratorExp elt [⟨tg, iter, ifs, 0⟩] scope gpos) s4 H4 cenv it fp pn) [] (wipe σ own) H' s' ∧ tn (i + 1) s'.heap ∧ ∀ b ∈ fp, H' b = none := fun {s' H'} I' => by
        have pin' : ∀ b ∈ fp, ∀ o, s2.heap.get? b = some o → s'.heap.get? b = some o ∧ H' b = none := fun b hb o e =>
          have y := I'.pin (b, o) (List.mem_append_right _ (List.mem_append_right _ (mem_pinsAt hb e)))
          ⟨y.1, y.2.1⟩
        have hl : (wipe σ own).length = σ3.length := by
          rw [← hw, wipe_length]
        refine ⟨(I'.unpinned (pins := [])).weak hl (fun j v e => ?_), T.keep _ _ _ st2 (fun b hb o e => (pin' b hb o e).1), fun b hb => ?_⟩
        · rw [← hw] at e
          exact (wipe_some e).1
        · obtain ⟨o, e, _⟩ := T.obj _ _ st2 b hb
          exact (pin' b hb o e).2
      cases b with
      | false =>
        simp only [Bool.false_eq_true, if_false] at qb ⊢
        obtain ⟨m', hm, w'⟩ := hNx _ qb
        obtain ⟨I', st', n'⟩ := back Ib
        exact seg_again rfl (ih m' hm n (i + 1) s0 sb Hb (Nat.lt_trans hm hmn) w' I' st' n')
      | true =>
        simp only [if_true] at qb ⊢
        have hy : ∀ v, yieldOut cenv v = yieldValue v := fun v => by simp only [yieldOut, hco, Bool.false_eq_true, if_false]
        simp only [hy]
        rw [Sem.bind_eq_wrap', Sem.bind_eq_wrap', Sem.wrap_wrap, Sem.wrap_wrap]
        refine seg_wrap (thnF (pe.run _ sb σ3 Hb _ Ib qb) fun z sy zy => ?_)
        obtain ⟨v, Hy, Iy, ry, qy⟩ := zy
        obtain ⟨I', st', n'⟩ := back Iy
        obtain ⟨n1, rfl⟩ : ∃ n1, n = n1 + 1 := ⟨n - 1, by omega⟩
        refine seg_at (seg_yield rfl rfl rfl ?_)
        rcases qy with ⟨rfl, q⟩ | ⟨rfl, q⟩
        · cases ry
          exact ⟨stopb, Hy, rfl, I', .inl ⟨rfl, q⟩⟩
        · cases ry
          obtain ⟨m', hm, w'⟩ := hNx _ q
          refine ⟨!stopb, Hy, rfl, I', .inr ⟨rfl, i + 1, m', by omega, w', fun s'' hh ho hb => ?_⟩⟩
          exact seg_again rfl (ih m' hm n1 (i + 1) s'' s'' Hy (by omega) w' (inv_gens I' hh ho hb) (by rw [hh]; exact st') n')
/-- the start of the generator's code -/
theorem gen_begin {n : Nat} {s0 s : Shared} {R : GenEnd} {Y : Protocol} (T : Turn X.prog X.w X.K tg J fp it tn) (st : tn 0 s.heap)
    (loop : Seg (model X.prog X.w) X.A.in1.in1 R Y n s0 (.compLoop (.GeneratorExp elt [⟨tg, iter, ifs, 0⟩] scope gpos) 0 (.ref it) .none cenv) ((model X.prog X.w).den (.compLoop (.GeneratorExp elt [⟨tg, iter, ifs, 0⟩] scope gpos) 0 (.ref it) .none cenv)) [] s) :
    Seg (model X.prog X.w) X.A.in1.in1 R Y n s0 (.compStart (.GeneratorExp elt [⟨tg, iter, ifs, 0⟩] scope gpos) 0 (.ref it) .none cenv) ((model X.prog X.w).den (.compStart (.GeneratorExp elt [⟨tg, iter, ifs, 0⟩] scope gpos) 0 (.ref it) .none cenv)) [] s := by
  show Seg _ _ _ _ n s0 _ ((compStart (.GeneratorExp elt [⟨tg, iter, ifs, 0⟩] scope gpos) 0 (.ref it) .none cenv).onRaise (leaving cenv)) [] s
  unfold compStart
  rw [Sem.onRaise_eq_wrap]
  refine seg_bind_wrap (wpAny_askSetting ?_)
  split
  · exact seg_again rfl loop
  · refine seg_bind_wrap (wpAny_rule ?_)
    show Seg _ _ _ _ n s0 _ ((standAt iter.pos >>= _).wrap _ _ _ _) [] s
    refine seg_bind_wrap (wpAny_standAt (seg_bind_wrap ?_))
    exact T.self _ 0 s _ _ st (seg_again rfl loop)
end
/-- the generator at a, number gn, is asleep (or fresh), with n turns at most -/
def Asleep (X Y : Cx) (σw : L2.St) (fp : List Addr) (tn : Nat → Heap → Prop) (W : Nat → Nat → Hp → Prop) (stopb : Bool) (Q : VK) (gn n : Nat) (s : Shared) : Prop :=
  ∃ (gs : GenState) (H' : Hp), s.gens[gn]? = some gs ∧ Inv Y [] σw H' s ∧ ∀ s'' : Shared, s''.heap = s.heap → s''.os = s.os → AllBare s''.gens →
    gs.Goes (model X.prog X.w) X.A.in1.in1 (fun n s0 r s1 => r = .ok .next ∧ GEndP Y σw stopb Q n s0 s1) (GProto Y σw fp tn W stopb Q) n (.send .none) s''
section
variable {X Y : Cx} {σw : L2.St} {fp : List Addr} {tn : Nat → Heap → Prop} {W : Nat → Nat → Hp → Prop} {Q : VK} {gn : Nat} {a : Addr} {go : Obj} {R : Result → Shared → Prop}
theorem set_at {s : Shared} {x : GenState} (h : gn < s.gens.size) : (s.setGen gn x).gens[gn]? = some x := by
  show (s.gens.setIfInBounds gn x)[gn]? = some x
  rw [Array.getElem?_setIfInBounds_self_of_lt h]
/-- one waking of the generator -/
theorem wake {stopb : Bool} {n : Nat} {s : Shared} {Q' : Option Value → Shared → Prop} {E : Value → Shared → Prop} (hh : X.A.handled = none) (hroom : X.A.depth < recursionLimit) (hp : (a, go) ∈ Y.pn) (hgo : ∀ h : Heap, h.get? a = some go → h.IsGen a gn) (S : Asleep X Y σw fp tn W stopb Q gn n s)
    (stop : ∀ s' H', Inv Y [] σw H' s' → Q (.bl stopb) H' → Q' (some (.bool stopb)) s') (next : ∀ s' m, m < n → Asleep X Y σw fp tn W stopb Q gn m s' → Q' (some (.bool (!stopb))) s') (done : ∀ s' H', Inv Y [] σw H' s' → Q (.bl (!stopb)) H' → Q' none s') :
    wpAny (model X.prog X.w) X.A.in1 (pyNext (.ref a)) Q' E s := by
  obtain ⟨gs, H', hg, I, hG⟩ := S
  have hlt : gn < s.gens.size := by
    rcases Nat.lt_or_ge gn s.gens.size with z | z
    · exact z
    · rw [Array.getElem?_eq_none z] at hg
      cases hg
  have ig : s.heap.IsGen a gn := hgo _ (I.pin (a, go) (List.mem_append_left _ hp)).1
  refine GenW.wpAny_gsz (n := s.gens.size) (Nat.le_refl _) ?_
  refine wpAny_pyNext_genexpQ (A := X.A.in1) hh I.nolimit hroom ig hg (hG _ rfl rfl (bare_set I.bare rfl)) (fun v s1 gs' hb hv sz => ?_) (fun s1 hp1 h' hk sz => ?_)
  · obtain ⟨k, H1, rfl, I1, z⟩ := hv
    have sz1 : gn < s1.gens.size := by
      have e : (s1.setGen gn gs').gens.size = s1.gens.size := GenW.setGen_size _ _ _
      rw [e] at sz
      omega
    have I2 : Inv Y [] σw H1 (s1.setGen gn gs') := inv_gens I1 rfl rfl (bare_set I1.bare hb)
    rcases z with ⟨rfl, q⟩ | ⟨rfl, i, m, hm, w, kap⟩
    · exact stop _ H1 I2 q
    · cases n with
      | zero => omega
      | succ n1 =>
        refine next _ n1 (Nat.lt_succ_self _) ⟨gs', H1, set_at sz1, I2, fun s'' h1 h2 h3 => ?_⟩
        exact kap s'' h1 h2 h3
  · obtain ⟨H1, I1, q⟩ := hp1
    refine done _ H1 ?_ q
    have I2 : Inv Y [] σw H1 (s1.setGen gn .finished) := inv_gens I1 rfl rfl (bare_set I1.bare rfl)
    exact I2.kept (h' := h') (t' := s1.toks) fun b o e => hk b o e
theorem any_loop (hh : X.A.handled = none) (hroom : X.A.depth < recursionLimit) (hp : (a, go) ∈ Y.pn) (hgo : ∀ h : Heap, h.get? a = some go → h.IsGen a gn)
    (fin : ∀ s' H' b, Inv Y [] σw H' s' → Q (.bl b) H' → R (.ok (.ret (.bool b))) s') : ∀ (n : Nat) (s : Shared), Asleep X Y σw fp tn W true Q gn n s → codeAny (model X.prog X.w) X.A (.builtin "any.loop" ⟨[.ref a], []⟩) R s := by
  intro n
  induction n using Nat.strongRecOn with
  | ind n ih =>
    intro s S
    refine codeAny_builtin F.entry_any_loop ?_
    rw [Around.under_plainId F.plain_any_loop _]
    show wpAny _ X.A.in1 (pyNext (.ref a) >>= _) _ _ s
    refine wpAny_bind (wake hh hroom hp hgo S (fun s' H' I q => ?_) (fun s' m hm S' => ?_) (fun s' H' I q => ?_))
    · refine wpAny_bind (wpAny_holding (wpAny_truthy_bool (wpAny_bind (wpAny_letGo ?_))))
      simp only [if_true]
      exact wpAny_bind (wpAny_rule (wpAny_pure (fin s' H' true I q)))
    · refine wpAny_bind (wpAny_holding (wpAny_truthy_bool (wpAny_bind (wpAny_letGo ?_))))
      simp only [Bool.not_true, Bool.false_eq_true, if_false]
      exact wpAny_pure ⟨plainId_quiet F.plain_any_loop _, ih m hm s' S'⟩
    · exact wpAny_bind (wpAny_rule (wpAny_pure (fin s' H' false I q)))
theorem all_loop (hh : X.A.handled = none) (hroom : X.A.depth < recursionLimit) (hp : (a, go) ∈ Y.pn) (hgo : ∀ h : Heap, h.get? a = some go → h.IsGen a gn)
    (fin : ∀ s' H' b, Inv Y [] σw H' s' → Q (.bl b) H' → R (.ok (.ret (.bool b))) s') : ∀ (n : Nat) (s : Shared), Asleep X Y σw fp tn W false Q gn n s → codeAny (model X.prog X.w) X.A (.builtin "all.loop" ⟨[.ref a], []⟩) R s := by
  intro n
  induction n using Nat.strongRecOn with
  | ind n ih =>
    intro s S
    refine codeAny_builtin F.entry_all_loop ?_
    rw [Around.under_plainId F.plain_all_loop _]
    show wpAny _ X.A.in1 (pyNext (.ref a) >>= _) _ _ s
    refine wpAny_bind (wake hh hroom hp hgo S (fun s' H' I q => ?_) (fun s' m hm S' => ?_) (fun s' H' I q => ?_))
    · refine wpAny_bind (wpAny_holding (wpAny_truthy_bool (wpAny_bind (wpAny_letGo ?_))))
      simp only [Bool.false_eq_true, if_false]
      exact wpAny_bind (wpAny_rule (wpAny_pure (fin s' H' false I q)))
    · refine wpAny_bind (wpAny_holding (wpAny_truthy_bool (wpAny_bind (wpAny_letGo ?_))))
      simp only [Bool.not_false, if_true]
      exact wpAny_pure ⟨plainId_quiet F.plain_all_loop _, ih m hm s' S'⟩
    · exact wpAny_bind (wpAny_rule (wpAny_pure (fin s' H' true I q)))
end
/-- any(elt for target in iter if ..) (stopb true), all(..) (stopb false): W by the turn and a measure, Nx what a turn is to reach; P: the def's table of code objects -/
def tAA (P : Addr) (stopb : Bool) (wi : TI) (g : TG) (tt : TT) (te : TE) (vs : List Nat) : TE := fun σ H Q => wi σ H fun J H1 => TabG H1 P ∧ ∀ H2, Tabbed P H1 H2 → ∃ W : Nat → Nat → Hp → Prop, (∃ m, W 0 m H2) ∧
  ∀ i m H, W i m H → (J.stop i H ∧ Q (.bl (!stopb)) H) ∨ (J.go i H ∧ ∃ Nx : Hp → Prop, (∀ H', Nx H' → ∃ m', m' < m ∧ W (i + 1) m' H') ∧ ∀ x H', J.yld i H x H' → g x (wipe σ vs) H' fun σ2 H2 => wipe σ2 vs = wipe σ vs ∧ tt σ2 H2 fun b H3 =>
    if b = true then te σ2 H3 fun y H4 => (y = .bl stopb ∧ Q (.bl stopb) H4) ∨ (y = .bl (!stopb) ∧ Nx H4) else Nx H3)
/-- over a tuple that stays -/
theorem aa_tup {K : PySem.W.Frag} {a : Addr} {xs : List V} {g : TG} {tt : TT} {te : TE} {vs : List Nat} {σ : L2.St} {H1 : Hp} {stopb : Bool} {Q : VK} (Pv : Nat → Hp → Prop) (h0 : Pv 0 H1) (hl : ∀ i H, i ≤ xs.length → Pv i H → SqT K H a xs)
    (hs : ∀ i x H, xs[i]? = some x → Pv i H → g x (wipe σ vs) H fun σ2 H2 => wipe σ2 vs = wipe σ vs ∧ tt σ2 H2 fun b H3 => if b = true then te σ2 H3 fun y H4 => (y = .bl stopb ∧ Q (.bl stopb) H4) ∨ (y = .bl (!stopb) ∧ Pv (i + 1) H4) else Pv (i + 1) H3) (hd : ∀ H, Pv xs.length H → Q (.bl (!stopb)) H) :
    ∃ W : Nat → Nat → Hp → Prop, (∃ m, W 0 m H1) ∧ ∀ i m H, W i m H → ((Itt K a).stop i H ∧ Q (.bl (!stopb)) H) ∨ ((Itt K a).go i H ∧ ∃ Nx : Hp → Prop, (∀ H', Nx H' → ∃ m', m' < m ∧ W (i + 1) m' H') ∧ ∀ x H', (Itt K a).yld i H x H' → g x (wipe σ vs) H' fun σ2 H2 => wipe σ2 vs = wipe σ vs ∧ tt σ2 H2 fun b H3 =>
      if b = true then te σ2 H3 fun y H4 => (y = .bl stopb ∧ Q (.bl stopb) H4) ∨ (y = .bl (!stopb) ∧ Nx H4) else Nx H3) := by
  refine ⟨fun i m H => i + m = xs.length ∧ Pv i H, ⟨xs.length, Nat.zero_add _, h0⟩, fun i m H ⟨e, p⟩ => ?_⟩
  have sq := hl i H (by omega) p
  cases m with
  | zero =>
    have ei : i = xs.length := by omega
    subst ei
    exact .inl ⟨⟨xs, sq, Nat.le_refl _⟩, hd H p⟩
  | succ m =>
    have lt : i < xs.length := by omega
    refine .inr ⟨⟨xs, xs[i], sq, List.getElem?_eq_getElem lt⟩, Pv (i + 1), fun H' q => ⟨m, Nat.lt_succ_self m, by omega, q⟩, fun x H' y => ?_⟩
    obtain ⟨rfl, y⟩ := y
    exact hs i x _ (y xs sq) p
section
variable {X : Cx} {pins : List (Addr × Obj)} {σ : L2.St} {H : Hp} {s : Shared} {c P : Addr} {elt tg iter : Expr} {ifs : List Expr} {scope : Scope} {own : List (Str × Nat)} {gpos : Pos} {wi : TI} {g : TG} {tt : TT} {te : TE} {stopb : Bool} {k : Nat}
/-- the scope of a generator expression: no cells of its own -/
structure GSc (scope : Scope) : Prop where
  co : scope.isCoroutine = false
  nc : ∀ y ∈ scope.names, y.2 ≠ .cell
  dot : scope.names.lookup (".0" : Str) = some NameKind.local
theorem gen_make {Q : VK} {Q' : Value → Shared → Prop} (hr : Room k X.A) (hc : X.calm = true) (hN : X.N.Nodup) (TB : TabB X.base X.mg c P) (hcode : X.env.code = .ref c) (hi : PI X tg iter wi) (ok : BlkOk X.N X.env.scope scope own) (S : GSc scope)
    (hg : ∀ (s : Shared) (H : Hp) (C : Addr) (code : Value) (it : Addr) (fp : List Addr) (pn : List (Addr × Obj)), PG (gCx X (.GeneratorExp elt [⟨tg, iter, ifs, 0⟩] scope gpos) s H (genEnv scope (cloFrom X.env.cells scope.names []) C code builtinsNs X.env) it fp pn) tg g)
    (ht : ∀ (s : Shared) (H : Hp) (C : Addr) (code : Value) (it : Addr) (fp : List Addr) (pn : List (Addr × Obj)), PTs (gCx X (.GeneratorExp elt [⟨tg, iter, ifs, 0⟩] scope gpos) s H (genEnv scope (cloFrom X.env.cells scope.names []) C code builtinsNs X.env) it fp pn) ifs tt)
    (he : ∀ (s : Shared) (H : Hp) (C : Addr) (code : Value) (it : Addr) (fp : List Addr) (pn : List (Addr × Obj)), PE (gCx X (.GeneratorExp elt [⟨tg, iter, ifs, 0⟩] scope gpos) s H (genEnv scope (cloFrom X.env.cells scope.names []) C code builtinsNs X.env) it fp pn) elt te)
    (hs : ∀ x, genFold iter X.env x = pure x) (I : Inv X pins σ H s) (h : tAA P stopb wi g tt te (own.map (·.2)) σ H Q)
    (hQ : ∀ (a : Addr) (go : Obj) (gn n : Nat) (Y : Cx) (fp : List Addr) (tn : Nat → Heap → Prop) (W : Nat → Nat → Hp → Prop) (s5 : Shared), (a, go) ∈ Y.pn → (∀ h : Heap, h.get? a = some go → h.IsGen a gn) → (∀ s' H', Inv Y [] (wipe σ (own.map (·.2))) H' s' → Inv X pins σ H' s') → s5.heap.get? a = some go →
      Asleep X Y (wipe σ (own.map (·.2))) fp tn W stopb Q gn n s5 → Q' (.ref a) s5) :
    wpAny (model X.prog X.w) X.A (eval (.GeneratorExp elt [⟨tg, iter, ifs, 0⟩] scope gpos) X.env) Q' X.xe s := by
  have hfree : ∀ y ∈ scope.names, y.2 = .free → ∃ c, X.env.cells.lookup y.1 = some c := fun y hy e => by
    rcases ok.free y hy e with z | z
    · exact I.ok.has _ (.inl z)
    · exact I.ok.has _ (.inr z)
  refine wpAny_GeneratorExp_make S.co (closure_ok hfree) S.nc S.dot ok.kind (by have := hr.dp; omega) (thn (hi.run pins s σ H _ I h) fun xv s1 hx => thn hx fun itv s2 h2 => ?_) hs
  obtain ⟨it, fp, tn, J, H2, rfl, I2, T, st2, f2, ⟨ps, hP, hT⟩, q⟩ := h2
  have hPs : s2.heap.get? P = some { cls := .none, data := .fields ps } := I2.hok P _ hP
  have cd : PySem.W.CodeHd s2.heap c P := TB.code.keeps I2.bk
  have szf : ∀ b ∈ fp, b < s2.heap.objs.size := fun b hb => by
    obtain ⟨o, e, _⟩ := T.obj _ _ st2 b hb
    exact Heap.lt_size e
  have nP : ∀ b ∈ fp, b ≠ P := fun b hb z => by
    have e := (f2 b hb).1
    rw [z, hP] at e
    cases e
  refine ⟨I2.nolimit, ?_⟩
  have cont : ∀ (code : Value) (h3 : Heap) (tk : Nat) (more : Array Value), Heap.ExtBut P s2.heap h3 → s2.heap.objs.size ≤ h3.objs.size → h3.get? P = some { cls := .none, data := .fields (ps ++ more) } → TriplesOk (ps ++ more).toList →
      wpAny (model X.prog X.w) X.A (builtinsFor X.env.globals X.env.builtins) (fun bi s4 => ∀ h', h'.Ns s4.heap.objs.size (fun y => if y = ".0" then some (.ref it) else none) → Heap.SameBut s4.heap.objs.size (s4.heap.push { cls := .type "frame", data := .dict #[] }) h' →
        Q' (.ref h'.objs.size) { s4 with
          gens := s4.gens.push (.fresh (.compStart (.GeneratorExp elt [⟨tg, iter, ifs, 0⟩] scope gpos) 0 (.ref it) .none (genEnv scope (cloFrom X.env.cells scope.names []) s4.heap.objs.size code bi X.env))),
          toks := s4.toks + 1 + 1 + 1,
          heap := h'.push { cls := .type "generator", data := .fields #[.int s4.gens.size 0, .str "<genexpr>" (s4.toks + 1), .str (X.env.qual ++ "<genexpr>") (s4.toks + 1 + 1)] } }) X.xe { s2 with heap := h3, toks := tk } := by
    intro code h3 tk more hx hsz hP3 hT3
    obtain ⟨bm, ob, e1, e2, e3, e4, e5, e6, e7, e8⟩ := TB.bm
    have I3 : Inv X pins σ (upd H2 P (.tbl (ps ++ more))) { s2 with heap := h3, toks := tk } := inv_tab (g' := s2.gens) (d' := s2.drawn) (t' := tk) I2 hP (fun b o hb e => hx b o hb e) hP3 I2.bare
    have f3 : ∀ b ∈ fp, FpOk X pins (upd H2 P (.tbl (ps ++ more))) b ∧ b < h3.objs.size := fun b hb => ⟨⟨by rw [upd_ne (nP b hb)]; exact (f2 b hb).1, (f2 b hb).2⟩, Nat.lt_of_lt_of_le (szf b hb) hsz⟩
    have st3 : tn 0 h3 := T.keep _ _ _ st2 fun b hb o e => hx b o (nP b hb) e
    obtain ⟨W, ⟨m0, w0⟩, turn⟩ := q (upd H2 P (.tbl (ps ++ more))) ⟨⟨_, upd_same, hT3⟩, fun b hb => upd_ne hb⟩
    refine wpAny_builtinsFor (m := X.mg) (by rw [I3.ok.glob]; exact I3.mod.glob.keeps I3.bk) e1 e2 (hx _ _ e4 (I2.bk _ _ e5)) e6 e7 e8 ?_
    intro h' hn' hs'
    have hsz' : h'.objs.size = h3.objs.size + 1 := by
      rw [hs'.1]
      exact Heap.size_push ..
    have kp : ∀ b o, h3.get? b = some o → (h'.push { cls := .type "generator", data := .fields #[.int s2.gens.size 0, .str "<genexpr>" (tk + 1), .str (X.env.qual ++ "<genexpr>") (tk + 1 + 1)] }).get? b = some o := fun b o e =>
      Heap.get?_push_of_some _ (hs'.extBut b o (Nat.ne_of_lt (Heap.lt_size e)) (Heap.get?_push_of_some _ e))
    have st5 := T.keep _ _ _ st3 fun b hb o e => kp b o e
    have nf : ∀ b ∈ fp, (upd H2 P (.tbl (ps ++ more))) b = none := fun b hb => (f3 b hb).1.1
    have IG := gen_start (ge := .GeneratorExp elt [⟨tg, iter, ifs, 0⟩] scope gpos) (it := it) (code := code) (tk := tk + 1 + 1 + 1)
      (gs := s2.gens.push (.fresh (.compStart (.GeneratorExp elt [⟨tg, iter, ifs, 0⟩] scope gpos) 0 (.ref it) .none (genEnv scope (cloFrom X.env.cells scope.names []) h3.objs.size code builtinsNs X.env)))) I3 hc ok hN S.nc f3
      (by show pushEnvs [_] (pushEnvs [] X.A.frames) = _; rw [I.ok.frames]; rfl) (I2.bare.push rfl) kp (hn'.keeps fun b o e => Heap.get?_push_of_some _ e) (Heap.get?_push_size h' rfl) (show h3.objs.size < h'.objs.size by omega) (fun v z => by cases z)
    refine hQ h'.objs.size _ s2.gens.size (m0 + 1) _ fp tn W _ List.mem_cons_self (fun h0 e => ?_) (fun s' H' J' => ?_) (Heap.get?_push_size h' rfl) ⟨_, _, Array.getElem?_push_size .., IG, fun s'' h1 h2 h3' => ?_⟩
    · exact ⟨_, _, _, e, rfl, rfl, rfl⟩
    · exact I3.call' (ch := fp) J'.os J'.base J'.hok J'.bare fun b hb => ⟨(f3 b hb).1.2.2.2.1, (f3 b hb).1.2.1, (f3 b hb).1.2.2.2.2.1, (f3 b hb).1.2.2.2.2.2⟩
    · refine ⟨rfl, gen_begin T (by rw [h1]; exact st5) ?_⟩
      refine gen_loop hc S.co T (fun p hp b hb z => ?_) (hg _ _ _ _ _ _ _) (ht _ _ _ _ _ _ _) (he _ _ _ _ _ _ _) turn m0 (m0 + 1) 0 s'' s'' _ (Nat.lt_succ_self _) w0 (inv_gens IG h1 h2 h3') (by rw [h1]; exact st5) nf
      rw [List.mem_singleton.mp hp] at z
      have z1 := (f3 b hb).2
      rw [← z] at z1
      have z2 : h'.objs.size < h3.objs.size := z1
      omega
  cases hf : codeAmong gpos ps.toList with
  | none =>
    refine wpAny_genexprCodeX hcode (cd.code hPs hT) (cd.tab hPs) hf fun c' h' tk hx hge hlt hco' _ htab' _ => ?_
    have tr : TriplesOk (ps ++ #[rawInt gpos.line, rawInt gpos.col, Value.ref c']).toList := by
      obtain ⟨_, _, _, _, _, _, _, _, _, _, _, _, _, _, _, _, _, _, _, z, _⟩ := hco'
      exact z
    exact cont _ h' tk _ hx (Nat.le_trans hge (Nat.le_of_lt hlt)) htab'.2 tr
  | some cv =>
    refine wpAny_genexprCode_hit hcode (cd.code hPs hT) hf ?_
    exact cont cv s2.heap s2.toks #[] (Heap.ExtBut.refl _ _) (Nat.le_refl _) (by rw [Array.append_empty]; exact hPs) (by rw [Array.append_empty]; exact hT)
theorem pe_any {p pos : Pos} (hr : Room k X.A) (hb : Gl X "any") (hm : X.mg "any" = none) (hc : X.calm = true) (hN : X.N.Nodup) (TB : TabB X.base X.mg c P) (hcode : X.env.code = .ref c) (hi : PI X tg iter wi) (ok : BlkOk X.N X.env.scope scope own) (S : GSc scope)
    (hg : ∀ (s : Shared) (H : Hp) (C : Addr) (code : Value) (it : Addr) (fp : List Addr) (pn : List (Addr × Obj)), PG (gCx X (.GeneratorExp elt [⟨tg, iter, ifs, 0⟩] scope gpos) s H (genEnv scope (cloFrom X.env.cells scope.names []) C code builtinsNs X.env) it fp pn) tg g)
    (ht : ∀ (s : Shared) (H : Hp) (C : Addr) (code : Value) (it : Addr) (fp : List Addr) (pn : List (Addr × Obj)), PTs (gCx X (.GeneratorExp elt [⟨tg, iter, ifs, 0⟩] scope gpos) s H (genEnv scope (cloFrom X.env.cells scope.names []) C code builtinsNs X.env) it fp pn) ifs tt)
    (he : ∀ (s : Shared) (H : Hp) (C : Addr) (code : Value) (it : Addr) (fp : List Addr) (pn : List (Addr × Obj)), PE (gCx X (.GeneratorExp elt [⟨tg, iter, ifs, 0⟩] scope gpos) s H (genEnv scope (cloFrom X.env.cells scope.names []) C code builtinsNs X.env) it fp pn) elt te)
    (hs : ∀ x, genFold iter X.env x = pure x := by intro _; rfl)
    (hst : starEach [.GeneratorExp elt [⟨tg, iter, ifs, 0⟩] scope gpos] X.env = (false, eval (.GeneratorExp elt [⟨tg, iter, ifs, 0⟩] scope gpos) X.env) :: starEach [] X.env := by rfl) :
    PE X (.Call (.Name "any" p) [.GeneratorExp elt [⟨tg, iter, ifs, 0⟩] scope gpos] [] pos) (tAA P true wi g tt te (own.map (·.2))) := by
  refine ⟨fun pins s σ H Q I h => wpAny_Call_Name_kw (ld_blt I hb hm boot_any (PyProof.Rows.callWith_builtin1 ?_ hst (by rfl)))⟩
  rw [hst]
  refine Calls.spliced_cons (gen_make hr hc hN TB hcode hi ok S hg ht he hs I h fun a go gn n Y fp tn W s5 h1 h2 h3 h4 SL => Calls.spliced_nil ?_)
  refine call_function_tree F.kind_any F.plain_any F.entry_any (F.args_any1 _) ?_
  unfold Builtin.«any»
  refine wpAny_bind (m := oneArg "any" _) (wpAny_pure (wpAny_bind (wpAny_pyIter_gen (h2 _ h4) (wpAny_pure ⟨plainId_quiet F.plain_any_loop _, ?_⟩))))
  exact any_loop (I.ok.hd hc) hr.depth h1 h2 (fun s' H' b J q => ⟨.bl b, H', h3 s' H' J, rfl, q⟩) n s5 SL
theorem pe_all {p pos : Pos} (hr : Room k X.A) (hb : Gl X "all") (hm : X.mg "all" = none) (hc : X.calm = true) (hN : X.N.Nodup) (TB : TabB X.base X.mg c P) (hcode : X.env.code = .ref c) (hi : PI X tg iter wi) (ok : BlkOk X.N X.env.scope scope own) (S : GSc scope)
    (hg : ∀ (s : Shared) (H : Hp) (C : Addr) (code : Value) (it : Addr) (fp : List Addr) (pn : List (Addr × Obj)), PG (gCx X (.GeneratorExp elt [⟨tg, iter, ifs, 0⟩] scope gpos) s H (genEnv scope (cloFrom X.env.cells scope.names []) C code builtinsNs X.env) it fp pn) tg g)
    (ht : ∀ (s : Shared) (H : Hp) (C : Addr) (code : Value) (it : Addr) (fp : List Addr) (pn : List (Addr × Obj)), PTs (gCx X (.GeneratorExp elt [⟨tg, iter, ifs, 0⟩] scope gpos) s H (genEnv scope (cloFrom X.env.cells scope.names []) C code builtinsNs X.env) it fp pn) ifs tt)
    (he : ∀ (s : Shared) (H : Hp) (C : Addr) (code : Value) (it : Addr) (fp : List Addr) (pn : List (Addr × Obj)), PE (gCx X (.GeneratorExp elt [⟨tg, iter, ifs, 0⟩] scope gpos) s H (genEnv scope (cloFrom X.env.cells scope.names []) C code builtinsNs X.env) it fp pn) elt te)
    (hs : ∀ x, genFold iter X.env x = pure x := by intro _; rfl)
    (hst : starEach [.GeneratorExp elt [⟨tg, iter, ifs, 0⟩] scope gpos] X.env = (false, eval (.GeneratorExp elt [⟨tg, iter, ifs, 0⟩] scope gpos) X.env) :: starEach [] X.env := by rfl) :
    PE X (.Call (.Name "all" p) [.GeneratorExp elt [⟨tg, iter, ifs, 0⟩] scope gpos] [] pos) (tAA P false wi g tt te (own.map (·.2))) := by
  refine ⟨fun pins s σ H Q I h => wpAny_Call_Name_kw (ld_blt I hb hm (show bootBuiltins "all" = some (.builtin "all") by decide +kernel) (PyProof.Rows.callWith_builtin1 ?_ hst (by rfl)))⟩
  rw [hst]
  refine Calls.spliced_cons (gen_make hr hc hN TB hcode hi ok S hg ht he hs I h fun a go gn n Y fp tn W s5 h1 h2 h3 h4 SL => Calls.spliced_nil ?_)
  refine call_function_tree F.kind_all F.plain_all F.entry_all (F.args_all1 _) ?_
  unfold Builtin.«all»
  refine wpAny_bind (m := oneArg "all" _) (wpAny_pure (wpAny_bind (wpAny_pyIter_gen (h2 _ h4) (wpAny_pure ⟨plainId_quiet F.plain_all_loop _, ?_⟩))))
  exact all_loop (I.ok.hd hc) hr.depth h1 h2 (fun s' H' b J q => ⟨.bl b, H', h3 s' H' J, rfl, q⟩) n s5 SL
end
end Gx
namespace Dr
open PySem PySem.Spec PyProof.Rows L2
/-! ### the drawing of numbers: smixed, sdraw, sopen -/
def topS (i : Nat) : Stmt := PySem.Challenge.pw_sparecut_k53_tellings_made_whole.main.body.getD i (.Pass ⟨0, 0, 0, 0⟩)
abbrev sFre : Stmt := topS 40
abbrev sDrw : Stmt := topS 41
abbrev sOpn : Stmt := topS 39
theorem scFre : FnScope ["pen", "at", "cell", "one", "two", "mixed", "other"] ["pen"] (defScope sFre) := ⟨rfl, rfl, rfl, by decide +kernel, rfl, by decide +kernel, by decide +kernel⟩
theorem scDrw : FnScope ["pen", "many", "found"] ["pen", "many"] (defScope sDrw) := ⟨rfl, rfl, rfl, by decide +kernel, rfl, by decide +kernel, by decide +kernel⟩
theorem scOpn : FnScope ["script"] ["script"] (defScope sOpn) := ⟨rfl, rfl, rfl, by decide +kernel, rfl, by decide +kernel, by decide +kernel⟩
/-- the built-ins that stand as they stood -/
structure Zp (mg : Str → Option Value) : Prop where
  z_len : mg "len" = none
  z_list : mg "list" = none
/-- what lies at f: cells (at c), a place, a rest; at most B cells were taken -/
def Feed (H : Hp) (f c : Addr) (B : Nat) : Prop := ∃ (ns : List Int) (n : Nat) (r : Int),
  H f = some (.lst [.ref c, .int n, .int r]) ∧ H c = some (.lst (ns.map V.int)) ∧ ns.length ≤ 60 ∧ n ≤ B
/-- all but f is as it was -/
def But (f : Addr) (H H' : Hp) : Prop := ∀ b, b ≠ f → H' b = H b
theorem But.refl (f : Addr) (H : Hp) : But f H H := fun _ _ => rfl
theorem But.trans {f : Addr} {H H1 H2 : Hp} (a : But f H H1) (b : But f H1 H2) : But f H H2 := fun x n => (b x n).trans (a x n)
theorem Feed.mono {H : Hp} {f c : Addr} {B B' : Nat} (h : Feed H f c B) (l : B ≤ B') : Feed H f c B' := by
  obtain ⟨ns, n, r, h1, h2, h3, h4⟩ := h
  exact ⟨ns, n, r, h1, h2, h3, Nat.le_trans h4 l⟩
theorem Feed.same {H H' : Hp} {f c : Addr} {B : Nat} (h : Feed H f c B) (s : Same H H') : Feed H' f c B := by
  obtain ⟨ns, n, r, h1, h2, h3, h4⟩ := h
  exact ⟨ns, n, r, s _ _ h1, s _ _ h2, h3, h4⟩
theorem Feed.upd {H : Hp} {f c D : Addr} {B : Nat} {o : HO} (h : Feed H f c B) (nf : D ≠ f) (nc : D ≠ c) : Feed (upd H D o) f c B := by
  obtain ⟨ns, n, r, h1, h2, h3, h4⟩ := h
  exact ⟨ns, n, r, by rw [upd_ne (Ne.symm nf)]; exact h1, by rw [upd_ne (Ne.symm nc)]; exact h2, h3, h4⟩
theorem Feed.nf {H : Hp} {f c D : Addr} {B : Nat} (h : Feed H f c B) (n : H D = none) : D ≠ f := by
  obtain ⟨_, _, _, h1, _⟩ := h
  exact Ne.symm (ne_of_none h1 n)
theorem Feed.nc {H : Hp} {f c D : Addr} {B : Nat} (h : Feed H f c B) (n : H D = none) : D ≠ c := by
  obtain ⟨_, _, _, _, h2, _⟩ := h
  exact Ne.symm (ne_of_none h2 n)
theorem feed_ne {H : Hp} {f c : Addr} {ns : List Int} {a : V} {as : List V} (h1 : H f = some (.lst (.ref c :: as))) (h2 : H c = some (.lst (ns.map V.int))) : c ≠ f := by
  intro e
  rw [e, h1] at h2
  have z := HO.lst.inj (Option.some.inj h2)
  cases ns with
  | nil => cases z
  | cons x r => cases z
section
variable {P : Program} {w : World} {K : PySem.W.Frag} {mg : Str → Option Value} {base : Heap}
/-- sopen(script) -/
def spOpn (K : PySem.W.Frag) : Sp := fun vs H Q _ => ∃ (a : Addr) (ns : List Int), vs = [.ref a] ∧ SqL K H a (ns.map V.int) ∧ ∀ (f c : Addr) (H' : Hp), H f = none → H c = none → Same H H' → Feed H' f c 0 → Q (.ref f) H'
theorem cut60 (ns : List Int) : cutV (ns.map V.int) none (some 60) = (ns.take 60).map V.int := by
  unfold cutV
  rw [HT.sIx_none, show HT.sIx (ns.map V.int).length (ns.map V.int).length (some 60) = min 60 (ns.map V.int).length from HT.sIx_nat _ _ 60]
  rw [List.drop_zero, Nat.sub_zero, List.map_take, List.length_map]
  by_cases h : ns.length ≤ 60
  · rw [Nat.min_eq_right h, List.take_of_length_le (by rw [List.length_map]; exact Nat.le_refl _), List.take_of_length_le (by rw [List.length_map]; exact h)]
  · rw [Nat.min_eq_left (by omega)]
theorem same_upd {H : Hp} {p : Addr} {o : HO} (h : H p = none) : Same H (upd H p o) := fun b x e => by
  rw [upd_ne (ne_of_none e h)]
  exact e
theorem ok_opn {f : Addr} {fd : FuncData} {k : Nat} (F : Fun K "_law_e_pen" "_law_e_pen" sOpn f fd) (ml : mg "list" = none) : FnOk P w K mg base CX0 (k + 1) f fd ["script"] (spOpn K) := by
  refine F.ok scOpn (fun vs H Q E h => ?_) (fun cdv A outer s H vs Q E hr h => ?_)
  · obtain ⟨a, ns, rfl, _⟩ := h
    rfl
  · obtain ⟨a, ns, rfl, hS, q⟩ := h
    refine ⟨_, pss_one (ps_ret (pe_lst (pa_cons (pe_callTy call_list_of (by rfl) ml (by decide +kernel) (pa_cons (pe_slice sl_list (pv 0) po_none (po_some pe_int)) pa_nil)) (pa_cons pe_int (pa_cons pe_int pa_nil))))), ?_⟩
    refine ⟨.ref a, rfl, 60, rfl, a, _, rfl, hS, fun c nc => ?_⟩
    refine ⟨c, _, rfl, .inl (.of upd_same), fun d nd => ?_⟩
    refine ⟨by show 3 ≤ sizeLine; decide, fun p np => ?_⟩
    have s1 : Same H (upd H c (.lst (cutV (ns.map V.int) none (some 60)))) := same_upd nc
    have s2 := s1.trans (same_upd (o := .lst (cutV (ns.map V.int) none (some 60))) nd)
    have s3 := s2.trans (same_upd (o := .lst [.ref d, .int 0, .int 0]) np)
    refine q p d _ (s2.free np) (s1.free nd) s3 ⟨ns.take 60, 0, 0, upd_same, ?_, ?_, Nat.le_refl _⟩
    · have ndp : d ≠ p := ne_of_none (upd_same (H := upd H c (.lst (cutV (ns.map V.int) none (some 60)))) (a := d) (o := .lst (cutV (ns.map V.int) none (some 60)))) np
      rw [upd_ne ndp, upd_same, cut60]
    · rw [List.length_take]
      omega
end
end Dr
namespace Kp
open PySem PySem.Spec PyProof.Rows L2 GxR Nw Dr
/-! ### what a call leaves as it was: all but the feed (F) and the tables of code objects -/
structure Ke (F : Addr → Prop) (H H' : Hp) : Prop where
  keep : ∀ b o, H b = some o → (∀ ps, o ≠ .tbl ps) → ¬ F b → H' b = some o
  tabs : ∀ P, TabG H P → TabG H' P
  tups : ∀ b xs, H b = some (.tup xs) → H' b = some (.tup xs)
abbrev Nof : Addr → Prop := fun _ => False
variable {F G : Addr → Prop} {H H1 H2 H' : Hp} {f c P : Addr} {B : Nat}
theorem Ke.refl (F : Addr → Prop) (H : Hp) : Ke F H H := ⟨fun _ _ h _ _ => h, fun _ h => h, fun _ _ h => h⟩
theorem Ke.trans (a : Ke F H H1) (b : Ke F H1 H2) : Ke F H H2 := ⟨fun x o h n m => b.keep x o (a.keep x o h n m) n m, fun Q h => b.tabs Q (a.tabs Q h), fun x xs h => b.tups x xs (a.tups x xs h)⟩
theorem Ke.mono (a : Ke F H H1) (h : ∀ b, F b → G b) : Ke G H H1 := ⟨fun x o e n m => a.keep x o e n fun z => m (h x z), a.tabs, a.tups⟩
theorem Ke.all (a : Ke Nof H H1) : Ke F H H1 := a.mono fun _ z => z.elim
theorem Ke.same (s : Same H H1) : Ke F H H1 := ⟨fun b o e _ _ => s b o e, fun Q ⟨ps, h, t⟩ => ⟨ps, s _ _ h, t⟩, fun b xs e => s _ _ e⟩
theorem Ke.lst {a : Addr} {xs : List V} (k : Ke F H H1) (h : H a = some (.lst xs)) (n : ¬ F a) : H1 a = some (.lst xs) := k.keep a _ h (fun ps z => by cases z) n
theorem Ke.tabbed (t : TabG H P) (x : Tabbed P H H1) : Ke F H H1 := by
  obtain ⟨ps, hP, _⟩ := t
  have nP : ∀ b o, H b = some o → (∀ qs, o ≠ .tbl qs) → b ≠ P := fun b o e n z => by
    rw [z, hP] at e
    exact n ps (Option.some.inj e).symm
  refine ⟨fun b o e n _ => (x.2 b (nP b o e n)).trans e, fun Q hQ => ?_, fun b xs e => (x.2 b (nP b _ e fun qs z => by cases z)).trans e⟩
  by_cases hq : Q = P
  · rw [hq]
    exact x.1
  · obtain ⟨qs, h1, h2⟩ := hQ
    exact ⟨qs, (x.2 Q hq).trans h1, h2⟩
theorem Ke.but (h : Feed H f c B) (b : But f H H1) : Ke (· = f) H H1 := by
  obtain ⟨ns, n, r, h1, _⟩ := h
  refine ⟨fun x o e _ m => (b x m).trans e, fun Q ⟨qs, e, t⟩ => ⟨qs, (b Q fun z => ?_).trans e, t⟩, fun x xs e => (b x fun z => ?_).trans e⟩
  · rw [z, h1] at e
    cases e
  · rw [z, h1] at e
    cases e
/-- a write to an object of ours that was new behind H -/
theorem Ke.upd {p : Addr} {o : HO} (k : Ke F H H1) (n : H p = none) : Ke F H (upd H1 p o) := by
  refine ⟨fun b x e t m => ?_, fun Q hQ => ?_, fun b xs e => ?_⟩
  · rw [upd_ne (ne_of_none e n)]
    exact k.keep b x e t m
  · obtain ⟨ps, e, t⟩ := hQ
    obtain ⟨qs, e2, t2⟩ := k.tabs Q ⟨ps, e, t⟩
    exact ⟨qs, by rw [upd_ne (ne_of_none e n)]; exact e2, t2⟩
  · rw [upd_ne (ne_of_none e n)]
    exact k.tups b xs e
theorem Ke.feed (k : Ke Nof H H1) (h : Feed H f c B) : Feed H1 f c B := by
  obtain ⟨ns, n, r, h1, h2, h3, h4⟩ := h
  exact ⟨ns, n, r, k.lst h1 (fun z => z), k.lst h2 (fun z => z), h3, h4⟩
/-- p holds nothing that H knows (but a table, perhaps) -/
def Frs (H : Hp) (p : Addr) : Prop := ∀ b o, H b = some o → (∀ ps, o ≠ .tbl ps) → b ≠ p
theorem Frs.of {p : Addr} (h : H p = none) : Frs H p := fun b o e _ => ne_of_none e h
theorem Frs.ke {p : Addr} (k : Ke (· = f) H H1) (hF : Feed H1 f c B) (h : Frs H1 p) : Frs H p := fun b o e n => by
  by_cases hb : b = f
  · obtain ⟨_, _, _, h1, _⟩ := hF
    rw [hb]
    exact h f _ h1 fun ps z => by cases z
  · exact h b o (k.keep b o e n hb) n
theorem Frs.ke0 {p : Addr} (k : Ke Nof H H1) (h : Frs H1 p) : Frs H p := fun b o e n => h b o (k.keep b o e n fun z => z) n
theorem Ke.write {p : Addr} {xs : List V} {o : HO} (k : Ke F H H1) (fr : Frs H p) (h1 : H1 p = some (.lst xs)) : Ke F H (L2.upd H1 p o) := by
  refine ⟨fun b x e t m => ?_, fun Q hQ => ?_, fun b ys e => ?_⟩
  · rw [upd_ne (fr b x e t)]
    exact k.keep b x e t m
  · obtain ⟨qs, e2, t2⟩ := k.tabs Q hQ
    have n : Q ≠ p := fun z => by
      rw [z, h1] at e2
      cases e2
    exact ⟨qs, by rw [upd_ne n]; exact e2, t2⟩
  · rw [upd_ne (fr b _ e fun ps z => by cases z)]
    exact k.tups b ys e
/-- whole numbers in a tuple, truths in a tuple -/
def TupI (H : Hp) (v : V) (ns : List Int) : Prop := ∃ a, v = .ref a ∧ H a = some (.tup (ns.map V.int))
def TupB (H : Hp) (v : V) (bs : List Bool) : Prop := ∃ a, v = .ref a ∧ H a = some (.tup (bs.map V.bl))
def LstI (H : Hp) (v : V) (ns : List Int) : Prop := ∃ a, v = .ref a ∧ H a = some (.lst (ns.map V.int))
/-- a tuple of claims -/
def Bk (H : Hp) (v : V) (css : List (List Int)) : Prop := ∃ a vs, v = .ref a ∧ H a = some (.tup vs) ∧ vs.length = css.length ∧ ∀ (i : Nat) (x : V) (cs : List Int), vs[i]? = some x → css[i]? = some cs → TupI H x cs
theorem TupI.ke {v : V} {ns : List Int} (h : TupI H v ns) (k : Ke F H H1) : TupI H1 v ns := by
  obtain ⟨a, e, h⟩ := h
  exact ⟨a, e, k.tups _ _ h⟩
theorem TupB.ke {v : V} {ns : List Bool} (h : TupB H v ns) (k : Ke F H H1) : TupB H1 v ns := by
  obtain ⟨a, e, h⟩ := h
  exact ⟨a, e, k.tups _ _ h⟩
theorem Bk.ke {v : V} {css : List (List Int)} (h : Bk H v css) (k : Ke F H H1) : Bk H1 v css := by
  obtain ⟨a, vs, e, h, l, t⟩ := h
  exact ⟨a, vs, e, k.tups _ _ h, l, fun i x cs h1 h2 => (t i x cs h1 h2).ke k⟩
/-! ### claims -/
def rising : List Int → Bool
  | a :: b :: r => decide (a < b) && rising (b :: r)
  | _ => true
structure IsCl (cs : List Int) : Prop where
  up : cs.Pairwise (· < ·)
  says : ∀ k ∈ cs, k ≠ 0 ∧ -8 ≤ k ∧ k ≤ 8
  opp : ∀ k ∈ cs, -k ∉ cs
  len : cs.length ≤ 8
theorem IsCl.nil : IsCl [] := { up := .nil, says := fun _ h => (nomatch h), opp := fun _ h => (nomatch h), len := by decide }
end Kp
namespace Dr
open PySem PySem.Spec PyProof.Rows L2 Nw Kp
theorem pick7 (n : Nat) : ∃ one : Int, 2147483500 < one ∧ one < 2147483648 ∧ atI [V.int 2147483647, V.int 2147483629, V.int 2147483587, V.int 2147483579, V.int 2147483563, V.int 2147483549, V.int 2147483543] ((n : Int) % 7) = some (.int one) := by
  have h : (n : Int) % 7 = 0 ∨ (n : Int) % 7 = 1 ∨ (n : Int) % 7 = 2 ∨ (n : Int) % 7 = 3 ∨ (n : Int) % 7 = 4 ∨ (n : Int) % 7 = 5 ∨ (n : Int) % 7 = 6 := by omega
  rcases h with h | h | h | h | h | h | h <;> rw [h] <;> exact ⟨_, by decide, by decide, rfl⟩
theorem pick5 (n : Nat) : ∃ two : Int, 2147483390 < two ∧ two < 2147483648 ∧ atI [V.int 2147483497, V.int 2147483489, V.int 2147483477, V.int 2147483423, V.int 2147483399] ((n : Int) % 5) = some (.int two) := by
  have h : (n : Int) % 5 = 0 ∨ (n : Int) % 5 = 1 ∨ (n : Int) % 5 = 2 ∨ (n : Int) % 5 = 3 ∨ (n : Int) % 5 = 4 := by omega
  rcases h with h | h | h | h | h <;> rw [h] <;> exact ⟨_, by decide, by decide, rfl⟩
section
variable {P : Program} {w : World} {K : PySem.W.Frag} {mg : Str → Option Value} {base : Heap}
/-- fresh(pen): any number -/
def spFre : Sp := fun vs H Q _ => ∃ (f c : Addr) (B : Nat), vs = [.ref f] ∧ Feed H f c B ∧ B ≤ 2 ^ 28 ∧ ∀ (r : Int) (H' : Hp), Feed H' f c (B + 1) → Ke (· = f) H H' → Q (.int r) H'
set_option exponentiation.threshold 4000 in
theorem ok_fre {f : Addr} {fd : FuncData} {k : Nat} (F : Fun K "_law_e_fresh" "_law_e_fresh" sFre f fd) (T : Zp mg) : FnOk P w K mg base CX0 (k + 1) f fd ["pen"] spFre := by
  refine F.ok scFre (fun vs H Q E h => ?_) (fun cdv A outer s H vs Q E hr h => ?_)
  · obtain ⟨f, c, B, rfl, _⟩ := h
    rfl
  · obtain ⟨f, c, B, rfl, hF, hB, q⟩ := h
    obtain ⟨ns, n, r, h1, h2, h3, h4⟩ := id hF
    have hcf : c ≠ f := feed_ne (a := .non) h1 h2
    have hS : SqL K H f [.ref c, .int n, .int r] := .of h1
    have n28 : n ≤ 268435456 := Nat.le_trans h4 hB
    refine ⟨_, (pss_cons (ps_set (i := 1) scFre.nd rfl (.inl rfl) (pe_ix ix_list (pv 0) pe_int (fun _ _ => rfl)))
      (Evl.pss_cut (ps_asg (pe_op op_add (pv 1) pe_int) (pg_sub (pv 0) pe_int set_list))
      (pss_cons (ps_set (i := 2) scFre.nd rfl (.inl rfl) pe_int)
      (Evl.pss_cut (ps_if (pt_cmpR (op_neD hr.units) (pe_ix ix_list (pv 0) pe_int (fun _ _ => rfl)) (pe_lstN pa_nil) (nomark _)) (pss_one (ps_set (i := 2) scFre.nd rfl (.inl rfl) (pe_op op_fdiv (pe_ix ix_list (pe_ix ix_list (pv 0) pe_int (fun _ _ => rfl)) (pe_op op_mod (pe_op op_mul (pv 1) pe_int) (pe_callB call_len_seq (by rfl) T.z_len (by decide +kernel) (pa_cons (pe_ix ix_list (pv 0) pe_int (fun _ _ => rfl)) pa_nil))) (fun _ _ => rfl)) (pe_op op_add pe_int (pe_op op_fdiv (pv 1) (pe_callB call_len_seq (by rfl) T.z_len (by decide +kernel) (pa_cons (pe_ix ix_list (pv 0) pe_int (fun _ _ => rfl)) pa_nil))))))) pss_nil)
      (Evl.pss_cut (ps_if (pt_cmpR op_lt (pv 1) (pe_callB call_len_seq (by rfl) T.z_len (by decide +kernel) (pa_cons (pe_ix ix_list (pv 0) pe_int (fun _ _ => rfl)) pa_nil)) (nomark _)) (pss_one (ps_set (i := 2) scFre.nd rfl (.inl rfl) (pe_ix ix_list (pe_ix ix_list (pv 0) pe_int (fun _ _ => rfl)) (pv 1) (fun _ _ => rfl)))) pss_nil)
      (pss_cons (ps_if (pt_cmpR op_ge (pv 2) (pe_op op_pow pe_int pe_int) (nomark _)) (pss_one (ps_ret (pv 2))) pss_nil)
      (Evl.pss_cut (ps_set (i := 3) scFre.nd rfl (.inl rfl) (pe_ix ix_list (pe_lstN (pa_cons pe_int (pa_cons pe_int (pa_cons pe_int (pa_cons pe_int (pa_cons pe_int (pa_cons pe_int (pa_cons pe_int pa_nil)))))))) (pe_op op_mod (pv 1) pe_int) (fun _ _ => rfl)))
      (Evl.pss_cut (ps_set (i := 4) scFre.nd rfl (.inl rfl) (pe_ix ix_list (pe_lstN (pa_cons pe_int (pa_cons pe_int (pa_cons pe_int (pa_cons pe_int (pa_cons pe_int pa_nil)))))) (pe_op op_mod (pv 1) pe_int) (fun _ _ => rfl)))
      (Evl.pss_cut (ps_set (i := 5) scFre.nd rfl (.inl rfl) (pe_op op_mod (pe_op op_pow (pe_op op_add (pe_op op_add (pe_op op_mod (pv 2) (pv 3)) (pe_op op_mul pe_int (pv 1))) pe_int) pe_int) (pv 3)))
      (Evl.pss_cut (ps_set (i := 6) scFre.nd rfl (.inl rfl) (pe_op op_mod (pe_op op_pow (pe_op op_add (pe_op op_add (pv 5) (pe_op op_mod (pv 2) (pv 4))) (pe_op op_mul (pv 1) (pv 1))) pe_int) (pv 4)))
      (pss_one (ps_ret (pe_op op_add (pe_op op_mul (pe_op op_add (pv 5) pe_int) (pv 4)) (pv 6)))))))))))))), ?_⟩
    refine ⟨.ref f, rfl, f, _, 1, _, rfl, rfl, hS, rfl, ?_⟩
    -- pen[1] = at + 1
    refine Evl.q_cut (M := fun σ' H' => σ' = [some (.ref f), some (.int n), none, none, none, none, none] ∧ H' f = some (.lst [.ref c, .int ((n + 1 : Nat) : Int), .int r]) ∧ H' c = some (.lst (ns.map V.int)) ∧ Ke (· = f) H H') ?_ ?_
    · refine ⟨_, rfl, _, _, rfl, rfl, _, rfl, f, _, 1, 1, rfl, rfl, h1, rfl, rfl, upd_same, by rw [upd_ne hcf]; exact h2, .but hF fun b nb => upd_ne nb⟩
    rintro σ' H1 ⟨rfl, f1, c1, k1⟩
    have F1 : Feed H1 f c (B + 1) := ⟨ns, n + 1, r, f1, c1, h3, by omega⟩
    have hS1 : SqL K H1 f [.ref c, .int ((n + 1 : Nat) : Int), .int r] := .of f1
    have hC1 : SqL K H1 c (ns.map V.int) := .of c1
    -- cell
    refine Evl.q_cut (M := fun σ' H' => ∃ z : Int, σ' = [some (.ref f), some (.int n), some (.int z), none, none, none, none] ∧ Same H1 H') ?_ ?_
    · refine ⟨.ref f, rfl, f, _, 0, _, rfl, rfl, hS1, rfl, Nat.zero_le _, fun p H2 np s2 hp _ => ?_⟩
      have hS2 : SqL K H2 f [.ref c, .int ((n + 1 : Nat) : Int), .int r] := .of (s2 _ _ f1)
      have hC2 : SqL K H2 c (ns.map V.int) := .of (s2 _ _ c1)
      refine ⟨_, _, .lst hC2 (dp_ints ns), .lst (.of hp) .nil, shaped_list (flat_ints _), shaped_list rfl, _, rfl, ite2 (fun e => ?_) (fun e => ?_)⟩
      · have l0 : 0 < ns.length := by
          cases ns with
          | nil => exact absurd e (by decide)
          | cons a b => exact Nat.succ_pos _
        have l1 : n * 7 % ns.length < ns.length := Nat.mod_lt _ l0
        refine ⟨.ref f, rfl, f, _, 0, _, rfl, rfl, hS2, rfl, _, rfl, _, _, rfl, rfl, .inr ⟨by decide, by decide⟩, .ref f, rfl, f, _, 0, _, rfl, rfl, hS2, rfl, c, _, rfl, .inl hC2, _, _, rfl, rfl, ?_, c, _, _, .int (ns[n * 7 % ns.length]), rfl, rfl, hC2, ?_, ?_⟩
        · show (0 : Int) < ((ns.map V.int).length : Int)
          rw [List.length_map]
          omega
        · refine at_of (j := n * 7 % ns.length) ?_ ?_
          · rw [List.length_map, Int.natCast_emod, Int.natCast_mul]
            rfl
          · rw [List.getElem?_map, List.getElem?_eq_getElem l1]
            rfl
        · refine ⟨_, rfl, .ref f, rfl, f, _, 0, _, rfl, rfl, hS2, rfl, c, _, rfl, .inl hC2, _, _, rfl, rfl, ⟨?_, ?_⟩, _, _, rfl, rfl, _, _, rfl, rfl, ⟨?_, ?_⟩, _, rfl, s2⟩
          · show (0 : Int) < ((ns.map V.int).length : Int)
            rw [List.length_map]
            omega
          · show ((ns.map V.int).length : Int) < 1073741824
            rw [List.length_map]
            omega
          · show (0 : Int) < 1 + (n : Int) / ((ns.map V.int).length : Int)
            have : (0 : Int) ≤ (n : Int) / ((ns.map V.int).length : Int) := Int.ediv_nonneg (by omega) (by omega)
            omega
          · show 1 + (n : Int) / ((ns.map V.int).length : Int) < 1073741824
            have : (n : Int) / ((ns.map V.int).length : Int) ≤ n := Int.ediv_le_self _ (by omega)
            omega
      · exact ⟨_, rfl, s2⟩
    rintro σ' H2 ⟨z, rfl, s2⟩
    have hS2 : SqL K H2 f [.ref c, .int ((n + 1 : Nat) : Int), .int r] := .of (s2 _ _ f1)
    have hC2 : SqL K H2 c (ns.map V.int) := .of (s2 _ _ c1)
    refine Evl.q_cut (M := fun σ' H' => ∃ z : Int, σ' = [some (.ref f), some (.int n), some (.int z), none, none, none, none] ∧ H' = H2) ?_ ?_
    · refine ⟨_, rfl, .ref f, rfl, f, _, 0, _, rfl, rfl, hS2, rfl, c, _, rfl, .inl hC2, _, _, rfl, rfl, _, rfl, ite2 (fun e => ?_) (fun e => ?_)⟩
      · have l1 : n < ns.length := by
          have e : (n : Int) < ((ns.map V.int).length : Int) := of_decide_eq_true e
          rw [List.length_map] at e
          omega
        refine ⟨.ref f, rfl, f, _, 0, _, rfl, rfl, hS2, rfl, _, rfl, c, _, _, .int (ns[n]), rfl, rfl, hC2, ?_, _, rfl, rfl⟩
        refine at_of (j := n) rfl ?_
        rw [List.getElem?_map, List.getElem?_eq_getElem l1]
        rfl
      · exact ⟨_, rfl, rfl⟩
    clear z
    rintro σ' H' ⟨z, rfl, rfl⟩
    have F2 := F1.same s2
    have k2 : Ke (· = f) H H' := k1.trans (.same s2)
    refine ⟨_, rfl, _, _, rfl, rfl, ⟨by decide, by decide, by decide⟩, _, _, rfl, rfl, _, rfl, ite2 (fun e => ⟨_, rfl, q z H' F2 k2⟩) (fun e => ?_)⟩
    -- one
    obtain ⟨one, o1, o2, ha⟩ := pick7 n
    refine Evl.q_cut (M := fun σ' H2 => σ' = [some (.ref f), some (.int n), some (.int z), some (.int one), none, none, none] ∧ Same H' H2) ?_ ?_
    · refine ⟨by show 7 ≤ sizeLine; decide, fun p H3 np s3 hp _ => ?_⟩
      exact ⟨_, rfl, _, _, rfl, rfl, by show (0 : Int) < 7; decide, p, _, _, .int one, rfl, rfl, .of hp, ha, rfl, s3⟩
    rintro σ' H3 ⟨rfl, s3⟩
    obtain ⟨two, t1, t2, hb⟩ := pick5 n
    refine Evl.q_cut (M := fun σ' H2 => σ' = [some (.ref f), some (.int n), some (.int z), some (.int one), some (.int two), none, none] ∧ Same H' H2) ?_ ?_
    · refine ⟨by show 5 ≤ sizeLine; decide, fun p H4 np s4 hp _ => ?_⟩
      exact ⟨_, rfl, _, _, rfl, rfl, by show (0 : Int) < 5; decide, p, _, _, .int two, rfl, rfl, .of hp, hb, rfl, s3.trans s4⟩
    rintro σ' H4 ⟨rfl, s4⟩
    have z1 : 0 ≤ z % one := Int.emod_nonneg _ (by omega)
    have z2 : z % one < one := Int.emod_lt_of_pos _ (by omega)
    have z3 : 0 ≤ z % two := Int.emod_nonneg _ (by omega)
    have z4 : z % two < two := Int.emod_lt_of_pos _ (by omega)
    refine Evl.q_cut (M := fun σ' H2 => ∃ mx : Int, σ' = [some (.ref f), some (.int n), some (.int z), some (.int one), some (.int two), some (.int mx), none] ∧ H2 = H4 ∧ 0 ≤ mx ∧ mx < one) ?_ ?_
    · refine ⟨_, rfl, _, rfl, _, _, rfl, rfl, (by show (0 : Int) < one; omega), _, rfl, _, _, rfl, rfl, .inl ⟨by decide, by decide⟩, _, _, rfl, rfl, _, _, rfl, rfl, _, _, rfl, rfl, ⟨by decide, by decide, ?_⟩, _, rfl, _, _, rfl, rfl, (by show (0 : Int) < one; omega), _, rfl, rfl, Int.emod_nonneg _ (by omega), Int.emod_lt_of_pos _ (by omega)⟩
      show (z % one + 31 * (n : Int) + 5).natAbs < 18446744073709551616
      omega
    rintro σ' H5 ⟨mx, rfl, rfl, m1, m2⟩
    refine Evl.q_cut (M := fun σ' H2 => ∃ ot : Int, σ' = [some (.ref f), some (.int n), some (.int z), some (.int one), some (.int two), some (.int mx), some (.int ot)] ∧ H2 = H5) ?_ ?_
    · refine ⟨_, rfl, _, rfl, _, rfl, _, _, rfl, rfl, (by show (0 : Int) < two; omega), _, _, rfl, rfl, _, rfl, _, rfl, _, _, rfl, rfl, .inl ⟨by omega, by omega⟩, _, _, rfl, rfl, _, _, rfl, rfl, ⟨by decide, by decide, ?_⟩, _, rfl, _, _, rfl, rfl, (by show (0 : Int) < two; omega), _, rfl, rfl⟩
      show (mx + z % two + (n : Int) * (n : Int)).natAbs < 18446744073709551616
      have : (n : Int) * (n : Int) ≤ 268435456 * 268435456 := Int.mul_le_mul (by omega) (by omega) (by omega) (by omega)
      have : 0 ≤ (n : Int) * (n : Int) := Int.mul_nonneg (by omega) (by omega)
      omega
    rintro σ' H6 ⟨ot, rfl, rfl⟩
    exact ⟨_, rfl, _, _, rfl, rfl, _, rfl, _, _, rfl, rfl, .inl ⟨by omega, by omega⟩, _, rfl, _, _, rfl, rfl, q _ _ (F2.same s4) (k2.trans (.same s4))⟩
/-- take(pen, many): any number from 0 to many - 1 -/
def spDrw : Sp := fun vs H Q _ => ∃ (f c : Addr) (m : Int) (B : Nat), vs = [.ref f, .int m] ∧ 0 < m ∧ m < 2 ^ 29 ∧ Feed H f c B ∧ B ≤ 2 ^ 28 ∧
  ∀ (d : Int) (H' : Hp), 0 ≤ d → d < m → Feed H' f c (B + 1) → Ke (· = f) H H' → Q (.int d) H'
theorem ok_drw {f fM : Addr} {fd fdM : FuncData} {k : Nat} (F : Fun K "_law_e_take" "_law_e_take" sDrw f fd) (FM : Fun K "_law_e_fresh" "_law_e_fresh" sFre fM fdM) (bM : Binds K fdM ["pen"] []) (gM : mg "_law_e_fresh" = some (.ref fM)) (T : Zp mg) :
    FnOk P w K mg base CX0 (k + 2) f fd ["pen", "many"] spDrw := by
  have GM : FnOk P w K mg base CX0 1 fM fdM ["pen"] spFre := ok_fre FM T
  refine F.ok scDrw (fun vs H Q E h => ?_) (fun cdv A outer s H vs Q E hr h => ?_)
  · obtain ⟨f, c, m, B, rfl, _⟩ := h
    rfl
  · obtain ⟨f, c, m, B, rfl, m0, m1, hF, hB, q⟩ := h
    have hr1 : Room 1 _ := hr.mono (by omega)
    obtain ⟨ns, n, r, h1, h2, h3, h4⟩ := id hF
    have hcf : c ≠ f := feed_ne (a := .non) h1 h2
    have hS : SqL K H f [.ref c, .int n, .int r] := .of h1
    refine ⟨_, (Evl.pss_cut (ps_if (pt_cmpR op_lt (pe_ix ix_list (pv 0) pe_int (fun _ _ => rfl)) (pv 1) (nomark _)) (pss_one (ps_asg (pe_call GM hr1 (by rfl) gM FM.kp bM .nil pass0 (pa_cons (pv 0) pa_nil)) (pg_sub (pv 0) pe_int set_list))) pss_nil)
      (pss_cons (ps_set (i := 2) scDrw.nd rfl (.inl rfl) (pe_op op_mod (pe_ix ix_list (pv 0) pe_int (fun _ _ => rfl)) (pv 1)))
      (pss_cons (ps_asg (pe_op op_fdiv (pe_ix ix_list (pv 0) pe_int (fun _ _ => rfl)) (pv 1)) (pg_sub (pv 0) pe_int set_list))
      (pss_one (ps_ret (pv 2)))))), ?_⟩
    refine Evl.q_cut (M := fun σ' H' => σ' = [some (.ref f), some (.int m), none] ∧ Feed H' f c (B + 1) ∧ Ke (· = f) H H') ?_ ?_
    · refine ⟨.ref f, rfl, f, _, 2, _, rfl, rfl, hS, rfl, .int m, rfl, _, _, rfl, rfl, _, rfl, ite2 (fun e => ?_) (fun e => ?_)⟩
      · refine ⟨_, rfl, f, c, B, rfl, hF, hB, fun r2 H2 F2 k2 => ?_⟩
        obtain ⟨ns2, n2, r3, e1, e2, e3, e4⟩ := id F2
        have hcf2 : c ≠ f := feed_ne (a := .non) e1 e2
        refine ⟨_, rfl, f, _, 2, 2, rfl, rfl, e1, rfl, rfl, ⟨ns2, n2, r2, upd_same, by rw [upd_ne hcf2]; exact e2, e3, e4⟩, k2.trans (.but F2 fun b nb => upd_ne nb)⟩
      · exact ⟨rfl, hF.mono (by omega), .refl _ _⟩
    rintro σ' H' ⟨rfl, F1, k1⟩
    obtain ⟨ns2, n2, r3, e1, e2, e3, e4⟩ := id F1
    have hcf2 : c ≠ f := feed_ne (a := .non) e1 e2
    have hS1 : SqL K H' f [.ref c, .int n2, .int r3] := .of e1
    refine ⟨.ref f, rfl, f, _, 2, _, rfl, rfl, hS1, rfl, .int m, rfl, _, _, rfl, rfl, m0, ?_⟩
    refine ⟨.ref f, rfl, f, _, 2, _, rfl, rfl, hS1, rfl, .int m, rfl, _, _, rfl, rfl, ⟨m0, by omega⟩, .ref f, rfl, f, _, 2, 2, rfl, rfl, e1, rfl, ?_⟩
    exact ⟨_, rfl, q (r3 % m) _ (Int.emod_nonneg _ (by omega)) (Int.emod_lt_of_pos _ m0) ⟨ns2, n2, r3 / m, upd_same, by rw [upd_ne hcf2]; exact e2, e3, e4⟩ (k1.trans (.but F1 fun b nb => upd_ne nb))⟩
end
end Dr
namespace Se
open PySem PySem.Spec PyProof.Rows L2 GxR Nw Dr Kp
/-- a def of the text whose code object stands at c -/
structure FunC (K : PySem.W.Frag) (x qual : Str) (st : Stmt) (f c : Addr) (fd : FuncData) : Prop where
  ex : ∃ (oc : Value) (od : Option Addr) (kV doc pm : Value) (an : Option Addr) (ct : Value) (osl : Array (Option Value)), fd = PySem.W.fnOf x qual (defArgs st) (defBody st) (defScope st) .none kV doc pm an (.ref c) ct ∧ K.lookup f = some ⟨oc, od, .func fd, osl⟩ ∧ PySem.W.codeIn K (.ref c) qual = true
  kp : PySem.W.keepIn K (.ref f) = true
section
variable {P : Program} {w : World} {K : PySem.W.Frag} {mg : Str → Option Value} {base : Heap}
theorem FunC.fn {x qual : Str} {st : Stmt} {f c : Addr} {fd : FuncData} (F : FunC K x qual st f c fd) : Fun K x qual st f fd := by
  obtain ⟨oc, od, kV, doc, pm, an, ct, osl, e, l, cd⟩ := F.ex
  exact ⟨⟨oc, od, kV, doc, pm, an, .ref c, ct, osl, e, l, cd⟩, F.kp⟩
theorem FunC.ok {x qual : Str} {st : Stmt} {f c : Addr} {fd : FuncData} {N ps : List Str} {k : Nat} {sp : Sp} (F : FunC K x qual st f c fd) (S : FnScope N ps (defScope st)) (len : ∀ vs H Q E, sp vs H Q E → vs.length = ps.length)
    (body : ∀ (A : Around) (outer : List Env) (s : Shared) (H : Hp) (vs : List V) (Q : VK) (E : XK), Room k (A.deeper (envOfC qual (defScope st) s.heap.objs.size f (.ref c))) → sp vs H Q E →
      ∃ t, PSs (cxOf CX0 P w K mg base N qual (defScope st) f (.ref c) A outer s H E).nox (defBody st) t ∧ t { nx := fun _ H' => Q .non H', rt := Q } (start N vs) H) : FnOk P w K mg base CX0 (k + 1) f fd ps sp := by
  obtain ⟨oc, od, kV, doc, pm, an, ct, osl, rfl, lk, hcd⟩ := F.ex
  refine fn_of lk hcd S len fun A outer s H vs Q E hr hsp => ?_
  obtain ⟨t, h, q⟩ := body A outer s H vs Q E hr hsp
  exact ⟨t, h.nox, q⟩
end
end Se
namespace Sl
open PySem PySem.Spec PyProof.Rows L2
theorem filter_take {α : Type} {f : α → Bool} {l : List α} {i : Nat} {x : α} (h : l[i]? = some x) : (l.take (i + 1)).filter f = (l.take i).filter f ++ (if f x = true then [x] else []) := by
  rw [List.take_add_one, h, List.filter_append]
  congr 1
  show List.filter f [x] = _
  cases e : f x with
  | true => rw [List.filter_cons_of_pos e]; rfl
  | false => rw [List.filter_cons_of_neg (by rw [e]; decide)]; rfl
theorem filter_all {α : Type} (f : α → Bool) (l : List α) : decide (V.int ((l.filter (fun x => !f x)).length : Int) = V.int 0) = l.all f := by
  cases e : l.all f with
  | true =>
    have z : l.filter (fun x => !f x) = [] := List.filter_eq_nil_iff.mpr fun x hx h => by
      have := List.all_eq_true.mp e x hx
      rw [this] at h
      cases h
    rw [z]
    rfl
  | false =>
    obtain ⟨x, hx, h⟩ := List.all_eq_false.mp e
    have := List.length_pos_of_mem (List.mem_filter (p := fun x => !f x).mpr ⟨hx, (by cases g : f x with | true => exact absurd g h | false => rfl : (!f x) = true)⟩)
    exact decide_eq_false fun z => by
      have := V.int.inj z
      omega
end Sl
namespace Nw
open PySem PySem.Spec PyProof.Rows L2
theorem prg_cl {X : Cx} {e : Expr} {te : L2.St → Hp → (Int → Int → Hp → Prop) → Prop} (he : PRg X e te) : PRg X e (fun σ H Q => ∃ R : Int → Int → Hp → Prop, (∀ a b H1, R a b H1 → Q a b H1) ∧ te σ H R) := by
  intro pins s σ H Q I ⟨R, i, q⟩
  refine thn (he pins s σ H R I q) fun x s1 ⟨r, a, b, t, u, v, H1, ex, hr, I1, z⟩ => ⟨r, a, b, t, u, v, H1, ex, hr, I1, i a b H1 z⟩
theorem pe_listRgN {X : Cx} {e : Expr} {te : L2.St → Hp → (Int → Int → Hp → Prop) → Prop} {p pos : Pos} (hc : X.calm = true) (hg : Gl X "list") (hm : X.mg "list" = none) (he : PRg X e te) (na : starEach [e] X.env = (false, eval e X.env) :: starEach [] X.env := by rfl) :
    PE X (.Call (.Name "list" p) [e] [] pos) (fun σ H Q => te σ H fun a b H1 => RgOk a b ∧ New H1 (.lst (rgV a b)) Q) :=
  pe_weak (pe_listRg hc hg hm (prg_cl he) na) fun _ _ _ q => ⟨_, fun _ _ _ z => ⟨z.1, z.2.to⟩, q⟩
end Nw
namespace Cl
open PySem PySem.Spec PyProof.Rows L2 GxR Nw Dr Kp
abbrev sClm : Stmt := topS 43
abbrev sBok : Stmt := topS 44
theorem scClm : FnScope ["pen", "most", "wide", "things", "found", "turn", "thing"] ["pen", "most", "wide"] (defScope sClm) := ⟨rfl, rfl, rfl, by decide +kernel, rfl, by decide +kernel, by decide +kernel⟩
theorem scBok : FnScope ["pen", "most", "many", "wide", "found", "turn", "claim"] ["pen", "most"] (defScope sBok) := ⟨rfl, rfl, rfl, by decide +kernel, rfl, by decide +kernel, by decide +kernel⟩
/-- the built-ins that stand as they stood -/
structure Zs (mg : Str → Option Value) : Prop where
  z_len : mg "len" = none
  z_list : mg "list" = none
  z_range : mg "range" = none
  z_min : mg "min" = none
  z_tuple : mg "tuple" = none
  z_sorted : mg "sorted" = none
/-- things: numbers from 1 to 8, none twice -/
structure Thg (ks : List Int) : Prop where
  nd : ks.Nodup
  one : ∀ k ∈ ks, 1 ≤ k ∧ k ≤ 8
  len : ks.length ≤ 8
theorem perm_pop : ∀ {l : List Int} {d : Nat} {y : Int}, l[d]? = some y → (y :: l.eraseIdx d).Perm l
  | [], _, _, h => by simp at h
  | a :: r, 0, y, h => by
    have e : a = y := Option.some.inj h
    subst e
    exact .refl _
  | a :: r, d + 1, y, h => by
    have ih := perm_pop (l := r) (d := d) (y := y) h
    exact (List.Perm.swap a y _).trans (.cons a ih)
theorem erase_len {l : List Int} {d : Nat} (h : d < l.length) : (l.eraseIdx d).length = l.length - 1 := List.length_eraseIdx_of_lt h
theorem erase_map : ∀ (l : List Int) (d : Nat), (l.map V.int).eraseIdx d = (l.eraseIdx d).map V.int
  | [], _ => rfl
  | _ :: _, 0 => rfl
  | a :: r, d + 1 => congrArg (V.int a :: ·) (erase_map r d)
theorem ix_seq {d : Int} {n : Nat} (h0 : 0 ≤ d) (h1 : d < (n : Int)) : seqIndex? d n = some d.toNat := by
  have e : ixN n d = some d.toNat := by
    unfold ixN
    rw [if_pos h0, if_pos h1]
  exact (ixN_seq e).1
theorem abs_nd : ∀ {l : List Int}, (l.map fun s => (s.natAbs : Int)).Nodup → l.Nodup ∧ ∀ k ∈ l, k ≠ 0 → -k ∉ l := fun {l} h => by
  refine ⟨(List.pairwise_map.mp h).imp (fun {a b} z e => z (by rw [e])), fun k hk h0 hn => ?_⟩
  have inj : ∀ a ∈ l, ∀ b ∈ l, (a.natAbs : Int) = b.natAbs → a = b := fun a ha b hb e => by
    obtain ⟨i, hi, ei⟩ := List.getElem_of_mem ha
    obtain ⟨j, hj, ej⟩ := List.getElem_of_mem hb
    have hij : (l.map fun s => (s.natAbs : Int))[i]'(by rw [List.length_map]; exact hi) = (l.map fun s => (s.natAbs : Int))[j]'(by rw [List.length_map]; exact hj) := by
      rw [List.getElem_map, List.getElem_map, ei, ej]
      exact e
    have := (List.getElem_inj h).mp hij
    subst this
    rw [← ei, ← ej]
  have := inj k hk (-k) hn (by omega)
  omega
theorem cl_of {says left ks ns : List Int} (T : Thg ks) (pm : ((says.map fun s => (s.natAbs : Int)) ++ left).Perm ks) (pn : ns.Perm says) (so : ns.Pairwise (· ≤ ·)) : IsCl ns ∧ ∀ s ∈ ns, (s.natAbs : Int) ∈ ks := by
  have nd := (List.nodup_append.mp (pm.nodup_iff.mpr T.nd)).1
  obtain ⟨n1, n2⟩ := abs_nd nd
  have mem : ∀ s ∈ ns, (s.natAbs : Int) ∈ ks := fun s hs => pm.mem_iff.mp (List.mem_append_left _ (List.mem_map.mpr ⟨s, pn.mem_iff.mp hs, rfl⟩))
  have nn : ns.Nodup := pn.nodup_iff.mpr n1
  have bd : ∀ s ∈ ns, s ≠ 0 ∧ -8 ≤ s ∧ s ≤ 8 := fun s hs => by
    have := T.one _ (mem s hs)
    omega
  refine ⟨⟨?_, bd, fun k hk hn => n2 k (pn.mem_iff.mp hk) (bd k hk).1 (pn.mem_iff.mp hn), ?_⟩, mem⟩
  · have := List.Pairwise.and so nn
    exact this.imp fun {a b} h => by
      obtain ⟨h1, h2⟩ := h
      omega
  · have l1 := pn.length_eq
    have l2 := pm.length_eq
    rw [List.length_append, List.length_map] at l2
    have := T.len
    omega
/-- a list of claims as it grows -/
def Ls (H : Hp) (L : Addr) (css : List (List Int)) : Prop := ∃ vs, H L = some (.lst vs) ∧ vs.length = css.length ∧ ∀ (i : Nat) (x : V) (cs : List Int), vs[i]? = some x → css[i]? = some cs → TupI H x cs
theorem ix_append {α β : Type} {R : α → β → Prop} {vs : List α} {ys : List β} {v : α} {y : β} (l : vs.length = ys.length) (h : ∀ (i : Nat) (x : α) (z : β), vs[i]? = some x → ys[i]? = some z → R x z) (r : R v y) :
    ∀ (i : Nat) (x : α) (z : β), (vs ++ [v])[i]? = some x → (ys ++ [y])[i]? = some z → R x z := by
  intro i x z h1 h2
  by_cases hi : i < vs.length
  · rw [List.getElem?_append_left hi] at h1
    rw [List.getElem?_append_left (by omega)] at h2
    exact h i x z h1 h2
  · have e : i = vs.length := by
      have := (List.getElem?_eq_some_iff.mp h1).1
      rw [List.length_append, List.length_singleton] at this
      omega
    subst e
    rw [List.getElem?_append_right (Nat.le_refl _), Nat.sub_self] at h1
    rw [List.getElem?_append_right (by omega), show vs.length - ys.length = 0 by omega] at h2
    cases h1
    cases h2
    exact r

theorem rg_ints (a b : Int) : rgV a b = ((List.range (b - a).toNat).map fun i => a + ((i : Nat) : Int)).map V.int := by
  unfold rgV
  rw [List.map_map]
  rfl
theorem rg_thg {m : Int} (h0 : 0 ≤ m) (h8 : m ≤ 8) : Thg ((List.range (m + 1 - 1).toNat).map fun i => (1 : Int) + ((i : Nat) : Int)) := by
  refine ⟨?_, fun k hk => ?_, ?_⟩
  · refine List.pairwise_map.mpr (List.Pairwise.imp (fun {a b} z e => z ?_) List.nodup_range)
    omega
  · obtain ⟨i, hi, rfl⟩ := List.mem_map.mp hk
    have := List.mem_range.mp hi
    omega
  · rw [List.length_map, List.length_range]
    omega
section
variable {P : Program} {w : World} {K : PySem.W.Frag} {mg : Str → Option Value} {base : Heap} {fD fM : Addr} {fdD fdM : FuncData}
/-- claim(pen, most, wide) -/
def spClm : Sp := fun vs H Q _ => ∃ (f c : Addr) (mo wi : Int) (B : Nat), vs = [.ref f, .int mo, .int wi] ∧ 1 ≤ mo ∧ mo ≤ 8 ∧ 0 ≤ wi ∧ wi ≤ 8 ∧ Feed H f c B ∧ B ≤ 2 ^ 27 ∧
  ∀ (cs : List Int) (p : Addr) (H' : Hp), Feed H' f c (B + 20) → Ke (· = f) H H' → Frs H p → H' p = some (.tup (cs.map V.int)) → IsCl cs → (∀ s ∈ cs, (s.natAbs : Int) ≤ mo) → (cs.length : Int) ≤ wi → Q (.ref p) H'
theorem ok_clm {f : Addr} {fd : FuncData} {k : Nat} (F : Fun K "_law_e_claim" "_law_e_claim" sClm f fd) (T : Zs mg) (FD : Fun K "_law_e_take" "_law_e_take" sDrw fD fdD) (bD : Binds K fdD ["pen", "many"] []) (gD : mg "_law_e_take" = some (.ref fD)) (GD : FnOk P w K mg base CX0 2 fD fdD ["pen", "many"] spDrw) :
    FnOk P w K mg base CX0 (k + 3) f fd ["pen", "most", "wide"] spClm := by
  refine F.ok scClm (fun vs H Q E h => ?_) (fun cdv A outer s H vs Q E hr h => ?_)
  · obtain ⟨f, c, mo, wi, B, rfl, _⟩ := h
    rfl
  · obtain ⟨f, c, mo, wi, B, rfl, m1, m8, w0, w8, hF, hB, q⟩ := h
    have hr2 : Room 2 _ := hr.mono (by omega)
    refine ⟨_, (Evl.pss_cut (ps_set (i := 3) scClm.nd rfl (.inl rfl) (pe_listRgN rfl (by rfl) T.z_list (prg_2 (by rfl) T.z_range pe_int (pe_op op_add (pv 1) pe_int))))
      (pss_cons (ps_set (i := 4) scClm.nd rfl (.inl rfl) (pe_lstN pa_nil))
      (Evl.pss_cut (ps_for PassesOwn.never rfl (pi_range1 (by rfl) T.z_range (pa_cons (pe_callB (call_min2 rfl) (by rfl) T.z_min (by decide +kernel) (pa_cons (pv 1) (pa_cons (pe_call GD hr2 (by rfl) gD FD.kp bD .nil pass0 (pa_cons (pv 0) (pa_cons (pe_op op_add (pv 2) pe_int) pa_nil))) pa_nil))) pa_nil)) (pg_name (i := 5) scClm.nd rfl (.inl rfl)) (pss_cons (ps_set (i := 6) scClm.nd rfl (.inl rfl) (pe_bm PySem.F.plainAttrs_list PySem.F.slot_list_pop PySem.F.type_list_pop mt_popAt (pv 3) (pa_cons (pe_call GD hr2 (by rfl) gD FD.kp bD .nil pass0 (pa_cons (pv 0) (pa_cons (pe_callB call_len_seq (by rfl) T.z_len (by decide +kernel) (pa_cons (pv 3) pa_nil)) pa_nil))) pa_nil)))
      (pss_one (ps_expr (pe_bm PySem.F.plainAttrs_list PySem.F.slot_list_append PySem.F.type_list_append mt_append (pv 4) (pa_cons (pe_ix ix_list (pe_lstN (pa_cons (pv 6) (pa_cons (pe_op op_sub pe_int (pv 6)) pa_nil))) (pe_call GD hr2 (by rfl) gD FD.kp bD .nil pass0 (pa_cons (pv 0) (pa_cons pe_int pa_nil))) (fun _ _ => rfl)) pa_nil))))))
      (pss_one (ps_ret (pe_callTy call_tuple_ofN (by rfl) T.z_tuple (by decide +kernel) (pa_cons (pe_callB cr_sortedN (by rfl) T.z_sorted (by decide +kernel) (pa_cons (pv 4) pa_nil)) pa_nil))))))), ?_⟩
    have Tk := rg_thg (by omega : 0 ≤ mo) m8
    have mk : ∀ k ∈ ((List.range (mo + 1 - 1).toNat).map fun i => (1 : Int) + ((i : Nat) : Int)), k ≤ mo := fun k hk => by
      obtain ⟨i, hi, rfl⟩ := List.mem_map.mp hk
      have := List.mem_range.mp hi
      omega
    have lk : (((List.range (mo + 1 - 1).toNat).map fun i => (1 : Int) + ((i : Nat) : Int)).length : Int) = mo := by
      rw [List.length_map, List.length_range]
      omega
    have rg := rg_ints 1 (mo + 1)
    generalize ((List.range (mo + 1 - 1).toNat).map fun i => (1 : Int) + ((i : Nat) : Int)) = ks at Tk mk lk rg
    -- things
    refine Evl.q_cut (M := fun σ' H' => ∃ L, σ' = [some (.ref f), some (.int mo), some (.int wi), some (.ref L), none, none, none] ∧ H L = none ∧ Same H H' ∧ H' L = some (.lst (ks.map V.int))) ?_ ?_
    · exact ⟨_, rfl, _, _, rfl, rfl, 1, mo + 1, rfl, rfl, .of_le (by omega) (by omega) (by omega) (by omega), fun L H1 nL s1 hL _ => ⟨L, rfl, nL, s1, rg ▸ hL⟩⟩
    rintro σ' H1 ⟨L, rfl, nL, s1, hL⟩
    refine ⟨Nat.zero_le _, fun S H2 nS s2 hS _ => ?_⟩
    have F2 : Feed H2 f c B := hF.same (s1.trans s2)
    have nLf : L ≠ f := hF.nf nL
    have nLc : L ≠ c := hF.nc nL
    have nSL : S ≠ L := Ne.symm (ne_of_none hL nS)
    have nSf : S ≠ f := (hF.same s1).nf nS
    have nSc : S ≠ c := (hF.same s1).nc nS
    have frL : Frs H L := .of nL
    have frS : Frs H S := .of (s1.free nS)
    have hL2 : H2 L = some (.lst (ks.map V.int)) := s2 _ _ hL
    -- the loop
    refine Evl.q_cut (M := fun σ' H' => ∃ (y5 y6 : Option V) (left says : List Int), σ' = [some (.ref f), some (.int mo), some (.int wi), some (.ref L), some (.ref S), y5, y6] ∧ Feed H' f c (B + 20) ∧ Ke (· = f) H H' ∧ H' S = some (.lst (says.map V.int)) ∧ (says.length : Int) ≤ wi ∧ ((says.map fun s => (s.natAbs : Int)) ++ left).Perm ks) ?_ ?_
    · refine ⟨_, rfl, _, rfl, _, rfl, _, _, rfl, rfl, f, c, _, B, rfl, by omega, by omega, F2, by omega, fun d H3 d0 d1 F3 b3 => ?_⟩
      refine ⟨_, _, rfl, ?_⟩
      generalize hn : (if d < mo then d else mo) = n
      have n0 : 0 ≤ n ∧ n ≤ wi ∧ n ≤ mo := by
        split at hn <;> omega
      have tl := Tk.len
      have hL3 : H3 L = some (.lst (ks.map V.int)) := b3.lst hL2 nLf
      have hS3 : H3 S = some (.lst (([] : List Int).map V.int)) := b3.lst hS nSf
      have k3 : Ke (· = f) H H3 := (Ke.same (s1.trans s2)).trans b3
      refine ⟨n, rfl, by omega, by omega, for_range (Pv := fun i σ H' => ∃ (y5 y6 : Option V) (left says : List Int), σ = [some (.ref f), some (.int mo), some (.int wi), some (.ref L), some (.ref S), y5, y6] ∧ Feed H' f c (B + 1 + 2 * i) ∧ Ke (· = f) H H' ∧ H' L = some (.lst (left.map V.int)) ∧ H' S = some (.lst (says.map V.int)) ∧
        left.length = ks.length - i ∧ says.length = i ∧ ((says.map fun s => (s.natAbs : Int)) ++ left).Perm ks) ?_ ?_ ?_⟩
      · exact ⟨none, none, ks, [], rfl, F3, k3, hL3, hS3, rfl, rfl, .refl _⟩
      · rintro i σ H' hi ⟨y5, y6, left, says, rfl, F4, k4, hL4, hS4, ll, ls, pm⟩
        have hi : i < n.toNat := hi
        refine ⟨_, rfl, .inl ⟨rfl, _, .of hL4⟩, _, rfl, _, rfl, L, _, rfl, .inl (.of hL4), f, c, _, B + 1 + 2 * i, rfl, ?_, ?_, F4, by omega, fun d H5 d0 d1 F5 b5 => ?_⟩
        · rw [List.length_map]
          omega
        · rw [List.length_map]
          omega
        rw [List.length_map] at d1
        have dl : d.toNat < left.length := by omega
        have hL5 : H5 L = some (.lst (left.map V.int)) := b5.lst hL4 nLf
        have hS5 : H5 S = some (.lst (says.map V.int)) := b5.lst hS4 nSf
        have k5 : Ke (· = f) H H5 := k4.trans b5
        refine ⟨L, _, d, d.toNat, .int left[d.toNat], rfl, rfl, hL5, by omega, by omega, by rw [List.length_map]; exact ix_seq d0 d1, by rw [List.getElem?_map, List.getElem?_eq_getElem dl]; rfl, ?_⟩
        have pp := perm_pop (List.getElem?_eq_getElem dl)
        have y1 := Tk.one left[d.toNat] (pm.mem_iff.mp (List.mem_append_right _ (List.getElem_mem dl)))
        generalize left[d.toNat] = y at pp y1
        have F6 : Feed (upd H5 L (.lst ((left.map V.int).eraseIdx d.toNat))) f c (B + 1 + 2 * i + 1) := F5.upd nLf nLc
        have k6 : Ke (· = f) H (upd H5 L (.lst ((left.map V.int).eraseIdx d.toNat))) := k5.write frL hL5
        have hL6 : (upd H5 L (.lst ((left.map V.int).eraseIdx d.toNat))) L = some (.lst ((left.eraseIdx d.toNat).map V.int)) := by rw [upd_same, erase_map]
        have hS6 : (upd H5 L (.lst ((left.map V.int).eraseIdx d.toNat))) S = some (.lst (says.map V.int)) := by rw [upd_ne nSL]; exact hS5
        generalize (upd H5 L (.lst ((left.map V.int).eraseIdx d.toNat))) = H6 at F6 k6 hL6 hS6 ⊢
        -- found.append([thing, 0 - thing][..])
        refine ⟨_, rfl, .inl ⟨rfl, _, .of hS6⟩, _, rfl, _, rfl, _, _, rfl, rfl, by show 2 ≤ sizeLine; decide, fun p H7 np s7 hp _ => ?_⟩
        refine ⟨_, rfl, f, c, 2, B + 1 + 2 * i + 1, rfl, by decide, by decide, F6.same s7, by omega, fun e H8 e0 e1 F8 b8 => ?_⟩
        have npf : p ≠ f := F6.nf np
        have hp8 := b8.lst hp npf
        have hS8 : H8 S = some (.lst (says.map V.int)) := b8.lst (s7 _ _ hS6) nSf
        have hL8 : H8 L = some (.lst ((left.eraseIdx d.toNat).map V.int)) := b8.lst (s7 _ _ hL6) nLf
        have k8 : Ke (· = f) H H8 := (k6.trans (.same s7)).trans b8
        have two : e = 0 ∨ e = 1 := by omega
        have go : ∀ z : Int, (z.natAbs : Int) = y → ((says ++ [z]).map (fun s => (s.natAbs : Int)) ++ left.eraseIdx d.toNat).Perm ks := fun z hz => by
          refine List.Perm.trans ?_ pm
          rw [List.map_append, List.append_assoc, List.map_singleton, hz]
          exact (List.Perm.refl _).append pp
        rcases two with rfl | rfl
        · refine ⟨p, _, 0, .int y, rfl, rfl, .of hp8, rfl, S, _, _, rfl, rfl, hS8, by rw [List.length_map]; exact small1000 (by omega), ?_⟩
          refine ⟨_, _, left.eraseIdx d.toNat, says ++ [y], rfl, (F8.upd nSf nSc).mono (by omega), k8.write frS hS8, by rw [upd_ne (Ne.symm nSL)]; exact hL8, by rw [upd_same, List.map_append]; rfl, by rw [erase_len dl]; omega, by rw [List.length_append, ls]; rfl, go y (by omega)⟩
        · refine ⟨p, _, 1, .int (0 - y), rfl, rfl, .of hp8, rfl, S, _, _, rfl, rfl, hS8, by rw [List.length_map]; exact small1000 (by omega), ?_⟩
          refine ⟨_, _, left.eraseIdx d.toNat, says ++ [0 - y], rfl, (F8.upd nSf nSc).mono (by omega), k8.write frS hS8, by rw [upd_ne (Ne.symm nSL)]; exact hL8, by rw [upd_same, List.map_append]; rfl, by rw [erase_len dl]; omega, by rw [List.length_append, ls]; rfl, go (0 - y) (by omega)⟩
      · rintro σ H' ⟨y5, y6, left, says, rfl, F4, k4, hL4, hS4, ll, ls, pm⟩
        exact ⟨y5, y6, left, says, rfl, F4.mono (by omega), k4, hS4, by omega, pm⟩
    rintro σ' H3 ⟨y5, y6, left, says, rfl, F3, k3, hS3, ls, pm⟩
    refine ⟨_, rfl, S, says, rfl, .of hS3, fun ns pn so p H4 np s4 hp _ => ?_⟩
    refine ⟨p, _, rfl, .of hp, fun p2 H5 np2 s5 hp2 _ => ?_⟩
    obtain ⟨h1, h2⟩ := cl_of Tk pm pn so
    refine q ns p2 H5 (F3.same (s4.trans s5)) (k3.trans (.same (s4.trans s5))) (.ke k3 F3 (.of (s4.free np2))) hp2 h1 (fun s hs => mk _ (h2 s hs)) ?_
    rw [pn.length_eq]
    exact ls
/-- the claim cs is of the things 1 to m -/
def Of (m : Int) (cs : List Int) : Prop := IsCl cs ∧ ∀ s ∈ cs, (s.natAbs : Int) ≤ m
theorem of_one {m k0 : Int} (h1 : 1 ≤ k0) (h2 : k0 ≤ m) (h8 : m ≤ 8) : Of m [k0] := by
  refine ⟨⟨.cons (fun _ h => (nomatch h)) .nil, fun k hk => ?_, fun k hk hn => ?_, by show 1 ≤ 8; decide⟩, fun s hs => ?_⟩
  · rw [List.mem_singleton.mp hk]
    omega
  · rw [List.mem_singleton.mp hk] at hn
    have := List.mem_singleton.mp hn
    omega
  · rw [List.mem_singleton.mp hs]
    omega
/-- book(pen, most) -/
def spBok : Sp := fun vs H Q _ => ∃ (f c : Addr) (m : Int) (B : Nat), vs = [.ref f, .int m] ∧ 1 ≤ m ∧ m ≤ 8 ∧ Feed H f c B ∧ B ≤ 2 ^ 26 ∧
  ∀ (css : List (List Int)) (p : Addr) (H' : Hp), Feed H' f c (B + 500) → Ke (· = f) H H' → Frs H p → Bk H' (.ref p) css → (∀ cs ∈ css, Of m cs) → 1 ≤ css.length → css.length ≤ 16 → Q (.ref p) H'
theorem ok_bok {f fC : Addr} {fd fdC : FuncData} {k : Nat} (F : Fun K "_law_e_book" "_law_e_book" sBok f fd) (T : Zs mg) (FD : Fun K "_law_e_take" "_law_e_take" sDrw fD fdD) (bD : Binds K fdD ["pen", "many"] []) (gD : mg "_law_e_take" = some (.ref fD)) (GD : FnOk P w K mg base CX0 2 fD fdD ["pen", "many"] spDrw)
    (FC : Fun K "_law_e_claim" "_law_e_claim" sClm fC fdC) (bC : Binds K fdC ["pen", "most", "wide"] []) (gC : mg "_law_e_claim" = some (.ref fC)) (GC : FnOk P w K mg base CX0 3 fC fdC ["pen", "most", "wide"] spClm) :
    FnOk P w K mg base CX0 (k + 4) f fd ["pen", "most"] spBok := by
  refine F.ok scBok (fun vs H Q E h => ?_) (fun cdv A outer s H vs Q E hr h => ?_)
  · obtain ⟨f, c, m, B, rfl, _⟩ := h
    rfl
  · obtain ⟨f, c, m, B, rfl, m0, m8, hF, hB, q⟩ := h
    have hr2 : Room 2 _ := hr.mono (by omega)
    have hr3 : Room 3 _ := hr.mono (by omega)
    refine ⟨_, (Evl.pss_cut (ps_set (i := 2) scBok.nd rfl (.inl rfl) (pe_ix ix_list (pe_lstN (pa_cons pe_int (pa_cons pe_int (pa_cons pe_int (pa_cons pe_int pa_nil))))) (pe_call GD hr2 (by rfl) gD FD.kp bD .nil pass0 (pa_cons (pv 0) (pa_cons pe_int pa_nil))) (fun _ _ => rfl)))
      (Evl.pss_cut (ps_set (i := 3) scBok.nd rfl (.inl rfl) (pe_ix ix_list (pe_lstN (pa_cons pe_int (pa_cons pe_int (pa_cons pe_int (pa_cons pe_int (pa_cons pe_int pa_nil)))))) (pe_call GD hr2 (by rfl) gD FD.kp bD .nil pass0 (pa_cons (pv 0) (pa_cons pe_int pa_nil))) (fun _ _ => rfl)))
      (pss_cons (ps_set (i := 4) scBok.nd rfl (.inl rfl) (pe_lstN pa_nil))
      (Evl.pss_cut (ps_for PassesOwn.never rfl (pi_range1 (by rfl) T.z_range (pa_cons (pe_op op_add pe_int (pe_call GD hr2 (by rfl) gD FD.kp bD .nil pass0 (pa_cons (pv 0) (pa_cons (pv 2) pa_nil)))) pa_nil)) (pg_name (i := 5) scBok.nd rfl (.inl rfl)) (Evl.pss_cut (ps_set (i := 6) scBok.nd rfl (.inl rfl) (pe_call GC hr3 (by rfl) gC FC.kp bC .nil pass0 (pa_cons (pv 0) (pa_cons (pv 1) (pa_cons (pv 3) pa_nil)))))
      (Evl.pss_cut (ps_if (PW.pt (pw_and (pt_cmpR (op_eqD hr.units) (pv 6) (pe_tupN pa_nil) (nomark _)) (pw_and1 (pt_cmpR op_gt (pe_call GD hr2 (by rfl) gD FD.kp bD .nil pass0 (pa_cons (pv 0) (pa_cons pe_int pa_nil))) pe_int (nomark _))))) (pss_one (ps_set (i := 6) scBok.nd rfl (.inl rfl) (pe_tupN (pa_cons (pe_op op_add pe_int (pe_call GD hr2 (by rfl) gD FD.kp bD .nil pass0 (pa_cons (pv 0) (pa_cons (pv 1) pa_nil)))) pa_nil)))) pss_nil)
      (pss_one (ps_expr (pe_bm PySem.F.plainAttrs_list PySem.F.slot_list_append PySem.F.type_list_append mt_append (pv 4) (pa_cons (pv 6) pa_nil)))))))
      (pss_one (ps_ret (pe_callTy call_tuple_ofN (by rfl) T.z_tuple (by decide +kernel) (pa_cons (pv 4) pa_nil)))))))), ?_⟩
    -- many
    refine Evl.q_cut (M := fun σ' H' => ∃ ma : Int, σ' = [some (.ref f), some (.int m), some (.int ma), none, none, none, none] ∧ 1 ≤ ma ∧ ma ≤ 16 ∧ Feed H' f c (B + 1) ∧ Ke (· = f) H H') ?_ ?_
    · refine ⟨by show 4 ≤ sizeLine; decide, fun p4 H4 np4 s4 hp4 _ => ⟨_, rfl, f, c, 4, _, rfl, by decide, by decide, hF.same s4, by omega, fun e H5 e0 e1 F5 b5 => ?_⟩⟩
      have pk : ∃ mm : Int, 1 ≤ mm ∧ mm ≤ 16 ∧ atI [V.int 4, V.int 8, V.int 12, V.int 16] e = some (.int mm) := by
        have four : e = 0 ∨ e = 1 ∨ e = 2 ∨ e = 3 := by omega
        rcases four with rfl | rfl | rfl | rfl <;> exact ⟨_, by decide, by decide, rfl⟩
      obtain ⟨mm, mm0, mm1, ha⟩ := pk
      exact ⟨p4, _, e, .int mm, rfl, rfl, .of (b5.lst hp4 (hF.nf np4)), ha, mm, rfl, mm0, mm1, F5, (Ke.same s4).trans b5⟩
    rintro σ' H1 ⟨ma, rfl, ma1, ma16, F1, k1⟩
    -- wide
    refine Evl.q_cut (M := fun σ' H' => ∃ wi : Int, σ' = [some (.ref f), some (.int m), some (.int ma), some (.int wi), none, none, none] ∧ 0 ≤ wi ∧ wi ≤ 8 ∧ Feed H' f c (B + 2) ∧ Ke (· = f) H H') ?_ ?_
    · refine ⟨by show 5 ≤ sizeLine; decide, fun p4 H4 np4 s4 hp4 _ => ⟨_, rfl, f, c, 5, _, rfl, by decide, by decide, F1.same s4, by omega, fun e H5 e0 e1 F5 b5 => ?_⟩⟩
      have pk : ∃ mm : Int, 0 ≤ mm ∧ mm ≤ 8 ∧ atI [V.int 2, V.int 3, V.int 3, V.int 4, V.int 8] e = some (.int mm) := by
        have four : e = 0 ∨ e = 1 ∨ e = 2 ∨ e = 3 ∨ e = 4 := by omega
        rcases four with rfl | rfl | rfl | rfl | rfl <;> exact ⟨_, by decide, by decide, rfl⟩
      obtain ⟨mm, mm0, mm1, ha⟩ := pk
      exact ⟨p4, _, e, .int mm, rfl, rfl, .of (b5.lst hp4 (F1.nf np4)), ha, mm, rfl, mm0, mm1, F5, k1.trans ((Ke.same s4).trans b5)⟩
    rintro σ' H2 ⟨wi, rfl, wi0, wi8, F2, k2⟩
    refine ⟨Nat.zero_le _, fun L H1 nL s1 hL _ => ?_⟩
    have nLf : L ≠ f := F2.nf nL
    have nLc : L ≠ c := F2.nc nL
    have frL : Frs H L := .ke k2 F2 (.of nL)
    have frL2 : Frs H2 L := .of nL
    refine Evl.q_cut (M := fun σ' H' => ∃ (y4 y5 : Option V) (css : List (List Int)), σ' = [some (.ref f), some (.int m), some (.int ma), some (.int wi), some (.ref L), y4, y5] ∧ Feed H' f c (B + 500) ∧ Ke (· = f) H2 H' ∧ Ls H' L css ∧ (∀ cs ∈ css, Of m cs) ∧ 1 ≤ css.length ∧ css.length ≤ 16) ?_ ?_
    · have F1 : Feed H1 f c (B + 2) := F2.same s1
      refine ⟨_, rfl, _, rfl, f, c, _, B + 2, rfl, by omega, by omega, F1, by omega, fun d H2' d0 d1 F2' b2 => ?_⟩
      refine ⟨_, _, rfl, rfl, 1 + d, rfl, by omega, by omega, for_range (Pv := fun i σ H' => ∃ (y4 y5 : Option V) (css : List (List Int)), σ = [some (.ref f), some (.int m), some (.int ma), some (.int wi), some (.ref L), y4, y5] ∧ Feed H' f c (B + 3 + 30 * i) ∧ Ke (· = f) H2 H' ∧ Ls H' L css ∧ (∀ cs ∈ css, Of m cs) ∧ css.length = i) ?_ ?_ ?_⟩
      · exact ⟨none, none, [], rfl, F2', (Ke.same s1).trans b2, ⟨[], b2.lst hL nLf, rfl, fun i x cs h => by simp at h⟩, fun cs h => (nomatch h), rfl⟩
      · rintro i σ H3 hi ⟨y4, y5, css, rfl, F3, k3, ⟨vs, hL3, lv, hv⟩, oc, lc⟩
        have hi : i < (1 + d).toNat := hi
        refine Evl.q_cut (M := fun σ' H' => ∃ (p : Addr) (cs : List Int), σ' = [some (.ref f), some (.int m), some (.int ma), some (.int wi), some (.ref L), some (.int (0 + (i : Int))), some (.ref p)] ∧ Feed H' f c (B + 3 + 30 * i + 21) ∧ Ke (· = f) H3 H' ∧ H' p = some (.tup (cs.map V.int)) ∧ Of m cs) ?_ ?_
        · refine ⟨_, rfl, _, rfl, _, rfl, f, c, m, wi, _, rfl, m0, m8, wi0, wi8, F3, by omega, fun cs p H6 F6 k6 _ hp h1 h2 _ => ?_⟩
          exact ⟨p, cs, rfl, F6.mono (by omega), k6, hp, h1, h2⟩
        rintro σ' H4 ⟨p, cs, rfl, F4, k4, hp, hc⟩
        -- if claim == () and ..
        refine Evl.q_cut (M := fun σ' H' => ∃ (p : Addr) (cs : List Int), σ' = [some (.ref f), some (.int m), some (.int ma), some (.int wi), some (.ref L), some (.int (0 + (i : Int))), some (.ref p)] ∧ Feed H' f c (B + 3 + 30 * i + 23) ∧ Ke (· = f) H3 H' ∧ H' p = some (.tup (cs.map V.int)) ∧ Of m cs) ?_ ?_
        · refine ⟨_, rfl, Nat.zero_le _, fun p5 H5 np5 s5 hp5 _ => ?_⟩
          have F5 := F4.same s5
          have k5 : Ke (· = f) H3 H5 := k4.trans (.same s5)
          refine ⟨_, _, .tup (.of (s5 _ _ hp)) (dp_ints cs), .tup (.of hp5) .nil, shaped_tuple (flat_ints _), shaped_tuple rfl, _, rfl, ite2 (fun e => ?_) (fun e => ?_)⟩
          · refine ⟨_, rfl, f, c, 8, _, rfl, by decide, by decide, F5, by omega, fun g H6 g0 g1 F6 b6 => ?_⟩
            have k6 : Ke (· = f) H3 H6 := k5.trans b6
            refine ⟨_, _, rfl, rfl, _, rfl, ite2 (fun e => ?_) (fun e => ?_)⟩
            · refine ⟨_, rfl, _, rfl, f, c, m, _, rfl, by omega, by omega, F6, by omega, fun g H7 g0 g1 F7 b7 => ?_⟩
              refine ⟨_, _, rfl, rfl, by show 1 ≤ sizeLine; decide, fun p8 H8 np8 s8 hp8 _ => ?_⟩
              exact ⟨p8, [1 + g], rfl, (F7.same s8).mono (by omega), (k6.trans b7).trans (.same s8), hp8, of_one (by omega) (by omega) m8⟩
            · exact ⟨p, cs, rfl, F6.mono (by omega), k6, b6.tups _ _ (s5 _ _ hp), hc⟩
          · exact ⟨p, cs, rfl, F5.mono (by omega), k5, s5 _ _ hp, hc⟩
        rintro σ' H5 ⟨p, cs, rfl, F5, k5, hp, hc⟩
        -- found.append(claim)
        have hL5 : H5 L = some (.lst vs) := k5.lst hL3 nLf
        refine ⟨_, rfl, .inl ⟨rfl, _, .of hL5⟩, _, rfl, L, _, _, rfl, rfl, hL5, small1000 (by omega), ?_⟩
        have k6 : Ke (· = f) H2 (upd H5 L (.lst (vs ++ [.ref p]))) := (k3.trans k5).write frL2 hL5
        have tp : ∀ {x : V} {ds : List Int}, TupI H5 x ds → TupI (upd H5 L (.lst (vs ++ [.ref p]))) x ds := fun {x ds} ⟨a, e, h⟩ => ⟨a, e, by
          have n : a ≠ L := fun z => by
            rw [z, hL5] at h
            cases h
          rw [upd_ne n]
          exact h⟩
        refine ⟨_, _, css ++ [cs], rfl, (F5.upd nLf nLc).mono (by omega), k6, ⟨vs ++ [.ref p], upd_same, by rw [List.length_append, List.length_append, lv]; rfl, ix_append lv (fun i x ds h1 h2 => tp ((hv i x ds h1 h2).ke k5)) (tp ⟨p, rfl, hp⟩)⟩, fun ds hd => ?_, by rw [List.length_append, lc]; rfl⟩
        rcases List.mem_append.mp hd with z | z
        · exact oc ds z
        · rw [List.mem_singleton.mp z]
          exact hc
      · rintro σ H3 ⟨y4, y5, css, rfl, F3, k3, ls, oc, lc⟩
        have lc' : css.length = (1 + d).toNat := lc
        exact ⟨y4, y5, css, rfl, F3.mono (by omega), k3, ls, oc, by omega, by omega⟩
    rintro σ' H3 ⟨y4, y5, css, rfl, F3, k3, ⟨vs, hL2, lv, hv⟩, oc, l1, l2⟩
    refine ⟨_, rfl, L, vs, rfl, .of hL2, fun p H4 np s4 hp _ => ?_⟩
    have k4 : Ke (· = f) H3 H4 := .same s4
    exact q css p H4 (F3.same s4) (k2.trans (k3.trans k4)) (.ke k2 F2 (.ke k3 F3 (.of np))) ⟨p, vs, rfl, hp, lv, fun i x cs h1 h2 => (hv i x cs h1 h2).ke k4⟩ oc l1 l2
end
end Cl
namespace St
open PySem PySem.Spec PyProof.Rows L2 Nw
/-! ### set(xs) of a list of whole numbers, and sorted of it -/
/-- a set as it begins -/
abbrev bare (w : World) : Obj := { cls := .type "set", dict := none, data := .set #[] 0 (.fresh 0 0 (!w.params.followText "set-order")) }
section
variable {P : Program} {w : World} {A : Around} {E : Value → Shared → Prop} {s : Shared}
set_option maxRecDepth 100000 in
set_option maxHeartbeats 3200000 in
theorem set_of_list {l : Addr} {xs : Array Value} (ks : List Int) {Q : Value → Shared → Prop} (hA : A.handled = none) (hx : s.heap.IsList l xs) (hk : IntsAre xs.toList ks) (few : ks.length + 1 < scanBound)
    (want : ∀ (h' : Heap) (tk c : Nat), SetR w h' s.heap.objs.size (fun j => decide (j ∈ ks)) c → c ≤ ks.length → (∀ b o, s.heap.get? b = some o → h'.get? b = some o) → Q (.ref s.heap.objs.size) { s with heap := h', toks := tk }) :
    wpAny (model P w) A (call (.type "set") [.ref l]) Q E s := by
  have sz : xs.size = ks.length := by rw [← Array.length_toList]; exact IntsAre.length hk
  obtain ⟨c, tl, hmro⟩ := F.called_set.mro
  have m1 := F.called_set.made
  have m2 := F.called_set.sub
  have m3 := F.called_set.notType
  have m4 := F.called_set.canCreate
  have m5 := F.typeCall_set_1 (.ref l)
  refine wpAny_call (codeAny_of_tree (wpAny_pure ⟨Code.quiet_builtin _ (by decide +kernel), codeAny_builtin F.entry_type_call ?_⟩))
  rw [Around.under_plain (weight_type_call_type "set" [.ref l] []) rfl]
  repeat (any_goals (first | assumption | wp_step))
  refine codeAny_mono (code_set_led1 (.ref l) (E := E) (Q₁ := fun o s1 => o = .ref s.heap.objs.size ∧ s1 = { s with heap := s.heap.push (bare w) }) ⟨rfl, rfl⟩) fun r s1 hr => ?_
  cases r with
  | error e => exact hr
  | ok fl =>
    cases fl with
    | next => exact hr.elim
    | brk => exact hr.elim
    | cont => exact hr.elim
    | ret o =>
      obtain ⟨rfl, rfl⟩ := hr
      have g0 : (s.heap.push (bare w)).get? s.heap.objs.size = some (bare w) := Heap.get?_push_size _ rfl
      have t0 : Shared.TypeIs { s with heap := s.heap.push (bare w) } (.ref s.heap.objs.size) "set" := ⟨_, g0, rfl⟩
      have m6 := F.called_set.init.lookup
      have m7 := F.called_set.init.bind (.ref s.heap.objs.size)
      repeat (any_goals (first | assumption | wp_step))
      refine codeAny_mono (codeAny_call_builtin (R := wants (fun r s2 => r = .none ∧ ∃ h' tk c, s2 = { s with heap := h', toks := tk } ∧ SetR w h' s.heap.objs.size (fun j => decide (j ∈ ks)) c ∧ c ≤ ks.length ∧ ∀ b o, s.heap.get? b = some o → h'.get? b = some o) E) F.called_set.init.plain F.entry_set_init (check_set_init_1 t0 ?_)) fun r2 s2 hr2 => ?_
      · obtain ⟨ol, g1, hc, nl, hd⟩ := hx
        have lt : l < s.heap.objs.size := Heap.lt_size g1
        obtain ⟨oc, od, oda, osl⟩ := ol
        dsimp only at hc hd
        subst hc hd
        have g2 : (s.heap.push (bare w)).get? l = some { cls := .type "list", dict := od, data := .seq xs nl, slots := osl } := Heap.get?_push_of_some _ g1
        have i1 : (s.heap.push (bare w)).IsList l xs := ⟨_, g2, rfl, nl, rfl⟩
        have m8 := F.sub_list_set
        have m9 := F.sub_list_frozenset
        have m10 : (Value.type "list" == Value.type "dict") = false := by decide
        have szp : (s.heap.push (bare w)).objs.size = s.heap.objs.size + 1 := Heap.size_push ..
        unfold Builtin.«set.__init__» noKeywords Builtin.Frozenset.updateFrom
        generalize hPI : pyIter = PI
        wp_walk
        subst hPI
        refine wpAny_pyIter_list i1 (wpAny_bind (wpAny_runValue ?_))
        have ne1 : l ≠ (s.heap.push (bare w)).objs.size := by rw [szp]; exact Nat.ne_of_lt (Nat.lt_succ_of_lt lt)
        have ne2 : s.heap.objs.size ∉ [(s.heap.push (bare w)).objs.size, l] := by
          rw [szp]
          simp only [List.mem_cons, List.not_mem_nil, or_false, not_or]
          exact ⟨Nat.ne_of_lt (Nat.lt_succ_self _), Nat.ne_of_gt lt⟩
        have at_ : ∀ (i : Nat) (v : Value), xs[i]? = some v → ∃ k t, ks[i]? = some k ∧ v = .int k t := fun i v hv => by
          have hi : i < ks.length := by rw [← sz]; exact (Array.getElem?_eq_some_iff.mp hv).1
          obtain ⟨t, e⟩ := IntsAre.int_at hk i v (by rw [Array.getElem?_toList]; exact hv)
          rw [List.getD_eq_getElem?_getD, List.getElem?_eq_getElem hi, Option.getD_some] at e
          exact ⟨ks[i], t, List.getElem?_eq_getElem hi, e⟩
        have hA3 : A.in1.in1.in1.handled = none := by simp [hA]
        refine set_update_ints ((Walks.list hA3 _ l ne1 xs).toS) s.heap.objs.size ne2 ks sz few at_ (xs.size - 0) 0 _ (by omega) (Nat.zero_le _) ⟨⟨_, Heap.get?_push_size _ rfl, rfl, rfl⟩, i1.push _⟩ ⟨0, Nat.le_refl 0, setR_new_at (Heap.get?_push_of_some _ g0)⟩ ?_
        intro s' c' hm hc' hS'
        obtain ⟨h', g', d', tk', os'⟩ := s'
        obtain rfl : g' = s.gens := hm.gens
        obtain rfl : d' = s.drawn := hm.drawn
        obtain rfl : os' = s.os := hm.os
        show wpAny _ _ _ _ _ _
        refine wpAny_pure (wpAny_pure ⟨rfl, h', tk', c', rfl, hS', by omega, fun b o e => ?_⟩)
        have lb : b < s.heap.objs.size := Heap.lt_size e
        refine hm.heap b o ?_ (Heap.get?_push_of_some _ (Heap.get?_push_of_some _ e))
        rw [szp]
        simp only [List.mem_cons, List.not_mem_nil, or_false, not_or]
        exact ⟨Nat.ne_of_lt lb, Nat.ne_of_lt (Nat.lt_succ_of_lt lb)⟩
      · cases r2 with
        | error e => exact hr2
        | ok f2 =>
          cases f2 with
          | next => exact hr2.elim
          | brk => exact hr2.elim
          | cont => exact hr2.elim
          | ret r =>
            obtain ⟨rfl, h', tk, c', rfl, hS', hc', hk'⟩ := hr2
            repeat (any_goals (first | assumption | wp_step))
            exact want _ _ _ hS' hc' hk'
end
end St
namespace St
open PySem PySem.Spec PyProof.Rows L2 Nw
theorem cr_setL {X : Cx} (hc : X.calm = true) : CallR X (.type "set") (fun xs H Q => ∃ (a : Addr) (ns : List Int), xs = [.ref a] ∧ SqL X.K H a (ns.map V.int) ∧ ns.length ≤ 60 ∧ ∀ p H2 n, H p = none → Same H H2 → H2 p = some (SetO X.w p (fun j => decide (j ∈ ns)) n) → n ≤ ns.length → Q (.ref p) H2) := by
  intro pins s σ H xs us Q I r h
  obtain ⟨a, ns, rfl, hs, hl, q⟩ := h
  obtain ⟨u, rfl, ru⟩ := Vals.one r
  cases ru
  obtain ⟨its, ri, pl, _⟩ := I.list hs
  have hn : H s.heap.objs.size = none := I.hok.fresh (Nat.le_refl _)
  refine set_of_list ns (I.ok.hd hc) (PlainL.isList pl) (by rw [List.toList_toArray]; exact Vals.ints ri) (by unfold scanBound; omega) fun h' tk c R lc k => ?_
  exact ⟨.ref s.heap.objs.size, upd H s.heap.objs.size (SetO X.w s.heap.objs.size (fun j => decide (j ∈ ns)) c), I.laid (t' := tk) k (Nat.le_refl _) (setO_new R), rfl, q _ _ c hn (same_new hn) upd_same lc⟩
theorem cr_sortedS {X : Cx} (hc : X.calm = true) : CallR X (.builtin "sorted") (fun vs H Q => ∃ (a : Addr) (S : Int → Bool) (n : Nat), vs = [V.ref a] ∧ H a = some (SetO X.w a S n) ∧ n < 64 ∧ ∀ ns : List Int, ns.Pairwise (· < ·) → (∀ k : Int, k ∈ ns ↔ S k = true) → ns.length = n → New H (.lst (ns.map V.int)) Q) :=
  call_weak (cr_sortedSet hc) fun _ _ _ ⟨a, S, n, h1, h2, h3, h4⟩ => ⟨a, S, n, h1, h2, h3, fun ns p x1 x2 x3 np => (h4 ns x1 x2 x3).to p np⟩
end St
namespace St
open PySem PySem.Spec PyProof.Rows L2 Nw
section
variable {X : Cx}
/-- sorted(t), t a tuple of whole numbers: the items are gathered in a list, then a list of these is sorted in its place -/
theorem cr_sortedT : CallR X (.builtin "sorted") (fun vs H Q => ∃ (a : Addr) (ns : List Int), vs = [V.ref a] ∧ SqT X.K H a (ns.map V.int) ∧ ∀ ns' : List Int, ns'.Perm ns → ns'.Pairwise (· ≤ ·) → New H (.lst (ns'.map V.int)) Q) := by
  intro pins s σ H vs us Q I r h
  obtain ⟨a, ns, rfl, hs, q⟩ := h
  obtain ⟨its, rv, ⟨o, ho, hcl, n, hd⟩, hz⟩ := I.tuple hs
  obtain ⟨u, rfl, ru⟩ := Vals.one r
  cases ru
  have hin := Vals.ints rv
  have lz : its.length ≤ sizeLine := by rw [← Vals.length rv]; exact hz
  refine Calls.call_function_entry PyProof.Rows.kind_sorted PyProof.Rows.plain_sorted PyProof.Rows.entry_sorted (PyProof.Rows.args_sorted1 _) ?_
  unfold Builtin.«sorted»
  refine wpAny_bind (m := checkCount "sorted" 1 1 _) (wpAny_pure (wpAny_bind (wpAny_collect_seq a (.inr rfl) ho hcl hd (fun h1 k1 => ?_) (by rw [List.size_toArray]; exact lz))))
  refine wpAny_bind (wpAny_newList ?_ (by rw [List.toList_toArray]; exact lz))
  rw [List.toList_toArray]
  have at1 : (h1.push (seqObj "list" its.toArray 0)).get? h1.objs.size = some (seqObj "list" its.toArray 0) := Heap.get?_push_size _ rfl
  have up1 : ∀ b o, s.heap.get? b = some o → b ≠ h1.objs.size ∧ (h1.push (seqObj "list" its.toArray 0)).get? b = some o := fun b o e => ⟨Nat.ne_of_lt (Heap.lt_size (k1 b o e)), Heap.get?_push_of_some _ (k1 b o e)⟩
  refine wpAny_bind (wpAny_holding (wpAny_call_entry PyProof.Rows.slot_list_sort ⟨_, at1, rfl⟩ PyProof.Rows.entry_list_sort (SrtO.list_sort_ord SrtO.swo_int at1 lz (fun h2 => SrtO.ints_sortable hin h2) fun out g1 g2 => ⟨_, rfl, ?_⟩) (PyProof.Rows.args_list_sort _)))
  obtain ⟨i1, i2, i3⟩ := SrtO.ints_out hin g1 g2
  obtain ⟨ep, hat⟩ := PyProof.Rows.sortedHeap_at (out := out.toArray) at1
  have gone : s.heap.get? h1.objs.size = none := by
    cases e : s.heap.get? h1.objs.size with
    | none => rfl
    | some o => exact absurd (Heap.lt_size (k1 _ o e)) (Nat.lt_irrefl _)
  have hn : H h1.objs.size = none := I.hok.gone gone
  have old : ∀ b o, s.heap.get? b = some o → (PyProof.Rows.sortedHeap (h1.push (seqObj "list" its.toArray 0)) h1.objs.size its out.toArray).get? b = some o := fun b o e => by
    rw [PyProof.Rows.sortedHeap_old (up1 b o e).1 (Heap.lt_size (up1 b o e).2)]
    exact (up1 b o e).2
  have len : ((out.map SrtO.iv).map V.int).length ≤ sizeLine := by
    rw [List.length_map, i2.length_eq]
    rw [List.length_map] at hz
    exact hz
  refine wpAny_pure ⟨_, rfl, .ref h1.objs.size, upd H h1.objs.size (.lst ((out.map SrtO.iv).map V.int)), I.laidN (t' := s.toks) old gone hn ⟨len, out, ep, vals_of_ints i1, hat⟩, rfl, (q _ i2 i3).to _ hn⟩
end
end St
namespace St2
open PySem PySem.Spec PyProof.Rows L2 Nw
/-! ### set(t) of a tuple of whole numbers -/
/-- a set as it begins -/
abbrev bare (w : World) : Obj := { cls := .type "set", dict := none, data := .set #[] 0 (.fresh 0 0 (!w.params.followText "set-order")) }
section
variable {P : Program} {w : World} {A : Around} {E : Value → Shared → Prop} {s : Shared}
set_option maxRecDepth 100000 in
set_option maxHeartbeats 3200000 in
theorem set_of_tup {l : Addr} {xs : Array Value} (ks : List Int) {Q : Value → Shared → Prop} (hA : A.handled = none) (hx : s.heap.IsTuple l xs) (hk : IntsAre xs.toList ks) (few : ks.length + 1 < scanBound)
    (want : ∀ (h' : Heap) (tk c : Nat), SetR w h' s.heap.objs.size (fun j => decide (j ∈ ks)) c → c ≤ ks.length → (∀ b o, s.heap.get? b = some o → h'.get? b = some o) → Q (.ref s.heap.objs.size) { s with heap := h', toks := tk }) :
    wpAny (model P w) A (call (.type "set") [.ref l]) Q E s := by
  have sz : xs.size = ks.length := by rw [← Array.length_toList]; exact IntsAre.length hk
  obtain ⟨c, tl, hmro⟩ := F.called_set.mro
  have m1 := F.called_set.made
  have m2 := F.called_set.sub
  have m3 := F.called_set.notType
  have m4 := F.called_set.canCreate
  have m5 := F.typeCall_set_1 (.ref l)
  refine wpAny_call (codeAny_of_tree (wpAny_pure ⟨Code.quiet_builtin _ (by decide +kernel), codeAny_builtin F.entry_type_call ?_⟩))
  rw [Around.under_plain (weight_type_call_type "set" [.ref l] []) rfl]
  repeat (any_goals (first | assumption | wp_step))
  refine codeAny_mono (code_set_led1 (.ref l) (E := E) (Q₁ := fun o s1 => o = .ref s.heap.objs.size ∧ s1 = { s with heap := s.heap.push (bare w) }) ⟨rfl, rfl⟩) fun r s1 hr => ?_
  cases r with
  | error e => exact hr
  | ok fl =>
    cases fl with
    | next => exact hr.elim
    | brk => exact hr.elim
    | cont => exact hr.elim
    | ret o =>
      obtain ⟨rfl, rfl⟩ := hr
      have g0 : (s.heap.push (bare w)).get? s.heap.objs.size = some (bare w) := Heap.get?_push_size _ rfl
      have t0 : Shared.TypeIs { s with heap := s.heap.push (bare w) } (.ref s.heap.objs.size) "set" := ⟨_, g0, rfl⟩
      have m6 := F.called_set.init.lookup
      have m7 := F.called_set.init.bind (.ref s.heap.objs.size)
      repeat (any_goals (first | assumption | wp_step))
      refine codeAny_mono (codeAny_call_builtin (R := wants (fun r s2 => r = .none ∧ ∃ h' tk c, s2 = { s with heap := h', toks := tk } ∧ SetR w h' s.heap.objs.size (fun j => decide (j ∈ ks)) c ∧ c ≤ ks.length ∧ ∀ b o, s.heap.get? b = some o → h'.get? b = some o) E) F.called_set.init.plain F.entry_set_init (check_set_init_1 t0 ?_)) fun r2 s2 hr2 => ?_
      · obtain ⟨ol, g1, hc, nl, hd⟩ := hx
        have lt : l < s.heap.objs.size := Heap.lt_size g1
        obtain ⟨oc, od, oda, osl⟩ := ol
        dsimp only at hc hd
        subst hc hd
        have g2 : (s.heap.push (bare w)).get? l = some { cls := .type "tuple", dict := od, data := .seq xs nl, slots := osl } := Heap.get?_push_of_some _ g1
        have i1 : (s.heap.push (bare w)).IsTuple l xs := ⟨_, g2, rfl, nl, rfl⟩
        have m8 := F.sub_tuple_set
        have m9 := F.sub_tuple_frozenset
        have m10 : (Value.type "tuple" == Value.type "dict") = false := by decide
        have szp : (s.heap.push (bare w)).objs.size = s.heap.objs.size + 1 := Heap.size_push ..
        unfold Builtin.«set.__init__» noKeywords Builtin.Frozenset.updateFrom
        generalize hPI : pyIter = PI
        wp_walk
        subst hPI
        refine wpAny_pyIter_tuple i1 (wpAny_bind (wpAny_runValue ?_))
        have ne1 : l ≠ (s.heap.push (bare w)).objs.size := by rw [szp]; exact Nat.ne_of_lt (Nat.lt_succ_of_lt lt)
        have ne2 : s.heap.objs.size ∉ [(s.heap.push (bare w)).objs.size, l] := by
          rw [szp]
          simp only [List.mem_cons, List.not_mem_nil, or_false, not_or]
          exact ⟨Nat.ne_of_lt (Nat.lt_succ_self _), Nat.ne_of_gt lt⟩
        have at_ : ∀ (i : Nat) (v : Value), xs[i]? = some v → ∃ k t, ks[i]? = some k ∧ v = .int k t := fun i v hv => by
          have hi : i < ks.length := by rw [← sz]; exact (Array.getElem?_eq_some_iff.mp hv).1
          obtain ⟨t, e⟩ := IntsAre.int_at hk i v (by rw [Array.getElem?_toList]; exact hv)
          rw [List.getD_eq_getElem?_getD, List.getElem?_eq_getElem hi, Option.getD_some] at e
          exact ⟨ks[i], t, List.getElem?_eq_getElem hi, e⟩
        have hA3 : A.in1.in1.in1.handled = none := by simp [hA]
        refine set_update_ints ((Walks.tuple hA3 _ l ne1 xs).toS) s.heap.objs.size ne2 ks sz few at_ (xs.size - 0) 0 _ (by omega) (Nat.zero_le _) ⟨⟨_, Heap.get?_push_size _ rfl, rfl, rfl⟩, i1.push _⟩ ⟨0, Nat.le_refl 0, setR_new_at (Heap.get?_push_of_some _ g0)⟩ ?_
        intro s' c' hm hc' hS'
        obtain ⟨h', g', d', tk', os'⟩ := s'
        obtain rfl : g' = s.gens := hm.gens
        obtain rfl : d' = s.drawn := hm.drawn
        obtain rfl : os' = s.os := hm.os
        show wpAny _ _ _ _ _ _
        refine wpAny_pure (wpAny_pure ⟨rfl, h', tk', c', rfl, hS', by omega, fun b o e => ?_⟩)
        have lb : b < s.heap.objs.size := Heap.lt_size e
        refine hm.heap b o ?_ (Heap.get?_push_of_some _ (Heap.get?_push_of_some _ e))
        rw [szp]
        simp only [List.mem_cons, List.not_mem_nil, or_false, not_or]
        exact ⟨Nat.ne_of_lt lb, Nat.ne_of_lt (Nat.lt_succ_of_lt lb)⟩
      · cases r2 with
        | error e => exact hr2
        | ok f2 =>
          cases f2 with
          | next => exact hr2.elim
          | brk => exact hr2.elim
          | cont => exact hr2.elim
          | ret r =>
            obtain ⟨rfl, h', tk, c', rfl, hS', hc', hk'⟩ := hr2
            repeat (any_goals (first | assumption | wp_step))
            exact want _ _ _ hS' hc' hk'
theorem cr_setT {X : Cx} (hc : X.calm = true) : CallR X (.type "set") (fun xs H Q => ∃ (a : Addr) (ns : List Int), xs = [.ref a] ∧ SqT X.K H a (ns.map V.int) ∧ ns.length ≤ 60 ∧ ∀ p H2 n, H p = none → Same H H2 → H2 p = some (SetO X.w p (fun j => decide (j ∈ ns)) n) → n ≤ ns.length → Q (.ref p) H2) := by
  intro pins s σ H xs us Q I r h
  obtain ⟨a, ns, rfl, hs, hl, q⟩ := h
  obtain ⟨u, rfl, ru⟩ := Vals.one r
  cases ru
  obtain ⟨its, ri, pl, _⟩ := I.tuple hs
  have hn : H s.heap.objs.size = none := I.hok.fresh (Nat.le_refl _)
  refine set_of_tup ns (I.ok.hd hc) (show s.heap.IsTuple a its.toArray from pl) (by rw [List.toList_toArray]; exact Vals.ints ri) (by unfold scanBound; omega) fun h' tk c R lc k => ?_
  exact ⟨.ref s.heap.objs.size, upd H s.heap.objs.size (SetO X.w s.heap.objs.size (fun j => decide (j ∈ ns)) c), I.laid (t' := tk) k (Nat.le_refl _) (setO_new R), rfl, q _ _ c hn (same_new hn) upd_same lc⟩
end
end St2
namespace Ct
open PySem PySem.Spec PyProof.Rows L2 GxR Nw Dr Kp Se
structure Zc (mg : Str → Option Value) : Prop where
  z_any : mg "any" = none
  z_isinstance : mg "isinstance" = none
  z_int : mg "int" = none
  z_bool : mg "bool" = none
  z_tuple : mg "tuple" = none
  z_sorted : mg "sorted" = none
  z_set : mg "set" = none
abbrev sHop : Stmt := topS 3
abbrev nHop : List Str := ["says", "say"]
theorem scHop : FnScope nHop ["says"] (defScope sHop) := ⟨rfl, rfl, rfl, by decide +kernel, rfl, by decide +kernel, by decide +kernel⟩
abbrev sWho : Stmt := topS 2
theorem scWho : FnScope ["thing"] ["thing"] (defScope sWho) := ⟨rfl, rfl, rfl, by decide +kernel, rfl, by decide +kernel, by decide +kernel⟩
abbrev sCme : Stmt := topS 16
theorem scCme : FnScope ["one", "other", "k"] ["one", "other", "k"] (defScope sCme) := ⟨rfl, rfl, rfl, by decide +kernel, rfl, by decide +kernel, by decide +kernel⟩
abbrev sCon : Stmt := topS 17
abbrev nCon : List Str := ["one", "other", "k", "says", "say"]
theorem scCon : FnScope nCon ["one", "other", "k"] (defScope sCon) := ⟨rfl, rfl, rfl, by decide +kernel, rfl, by decide +kernel, by decide +kernel⟩
theorem ints_flat (cs : List Int) : (cs.map V.int).all flatV = true := by
  rw [List.all_map, List.all_eq_true]
  exact fun _ _ => rfl
theorem at_int {ks : List Int} {i : Nat} {x : V} (hx : (ks.map V.int)[i]? = some x) : ∃ z, ks[i]? = some z ∧ x = V.int z := by
  rw [List.getElem?_map] at hx
  cases e : ks[i]? with
  | none =>
    rw [e] at hx
    cases hx
  | some z =>
    rw [e] at hx
    exact ⟨z, rfl, (Option.some.inj hx).symm⟩
/-- any/all over a list that stays -/
theorem aa_list {K : PySem.W.Frag} {a : Addr} {xs : List V} {g : TG} {tt : TT} {te : TE} {vs : List Nat} {σ : L2.St} {H1 : Hp} {stopb : Bool} {Q : VK} (Pv : Nat → Hp → Prop) (h0 : Pv 0 H1) (hl : ∀ i H, i ≤ xs.length → Pv i H → SqL K H a xs)
    (hs : ∀ i x H, xs[i]? = some x → Pv i H → g x (wipe σ vs) H fun σ2 H2 => wipe σ2 vs = wipe σ vs ∧ tt σ2 H2 fun b H3 => if b = true then te σ2 H3 fun y H4 => (y = .bl stopb ∧ Q (.bl stopb) H4) ∨ (y = .bl (!stopb) ∧ Pv (i + 1) H4) else Pv (i + 1) H3) (hd : ∀ H, Pv xs.length H → Q (.bl (!stopb)) H) :
    ∃ W : Nat → Nat → Hp → Prop, (∃ m, W 0 m H1) ∧ ∀ i m H, W i m H → ((Itl K a).stop i H ∧ Q (.bl (!stopb)) H) ∨ ((Itl K a).go i H ∧ ∃ Nx : Hp → Prop, (∀ H', Nx H' → ∃ m', m' < m ∧ W (i + 1) m' H') ∧ ∀ x H', (Itl K a).yld i H x H' → g x (wipe σ vs) H' fun σ2 H2 => wipe σ2 vs = wipe σ vs ∧ tt σ2 H2 fun b H3 =>
      if b = true then te σ2 H3 fun y H4 => (y = .bl stopb ∧ Q (.bl stopb) H4) ∨ (y = .bl (!stopb) ∧ Nx H4) else Nx H3) := by
  refine ⟨fun i m H => i + m = xs.length ∧ Pv i H, ⟨xs.length, Nat.zero_add _, h0⟩, fun i m H ⟨e, p⟩ => ?_⟩
  have sq := hl i H (by omega) p
  cases m with
  | zero =>
    have ei : i = xs.length := by omega
    subst ei
    exact .inl ⟨⟨xs, sq, Nat.le_refl _⟩, hd H p⟩
  | succ m =>
    have lt : i < xs.length := by omega
    refine .inr ⟨⟨xs, xs[i], sq, List.getElem?_eq_getElem lt⟩, Pv (i + 1), fun H' q => ⟨m, Nat.lt_succ_self m, by omega, q⟩, fun x H' y => ?_⟩
    obtain ⟨rfl, y⟩ := y
    exact hs i x _ (y xs sq) p
/-- two of the says are opposite -/
def oppB (ns : List Int) : Bool := ns.any fun s => decide (0 < s) && inV (.int (-s)) (ns.map V.int)
theorem take_any {α : Type} {f : α → Bool} {l : List α} {i : Nat} {x : α} (h : l[i]? = some x) (p : (l.take i).any f = false) : (f x = true → l.any f = true) ∧ (f x = false → (l.take (i + 1)).any f = false) := by
  refine ⟨fun z => List.any_eq_true.mpr ⟨x, List.mem_of_getElem? h, z⟩, fun z => ?_⟩
  rw [List.take_add_one, h, List.any_append, p]
  show (f x || false) = false
  rw [z]
  rfl
section
variable {P : Program} {w : World} {K : PySem.W.Frag} {mg : Str → Option Value} {base : Heap}
def spHop (Po : Addr) : Sp := fun vs H Q _ => ∃ (a : Addr) (ns : List Int), vs = [.ref a] ∧ H a = some (.lst (ns.map V.int)) ∧ TabG H Po ∧ ∀ H', Ke Nof H H' → Q (.bl (oppB ns)) H'
theorem ok_hop {f c Po : Addr} {fd : FuncData} {k : Nat} (F : FunC K "has_opposites" "has_opposites" sHop f c fd) (T : Zc mg) (TB : TabB base mg c Po) : FnOk P w K mg base CX0 (k + 3) f fd ["says"] (spHop Po) := by
  refine F.ok scHop (fun vs H Q E h => ?_) (fun A outer s H vs Q E hr h => ?_)
  · obtain ⟨a, ns, rfl, _⟩ := h
    rfl
  · obtain ⟨a, ns, rfl, ha, tg, q⟩ := h
    refine ⟨_, (pss_one (ps_ret (Gx.pe_any hr (by rfl) T.z_any rfl scHop.nd TB rfl (pi_list (pv 0)) (own := [("say", 1)]) (g := gName 1) (blkOk_by (N := nHop) (sc := defScope sHop) (by decide +kernel)) ⟨rfl, by decide +kernel, rfl⟩ (fun _ _ _ _ _ _ _ => pg_name (i := 1) scHop.nd rfl (.inl rfl)) (fun _ _ _ _ _ _ _ => (pts_one (pt_cmpR op_gt (pv 1) pe_int (nomark _)))) (fun _ _ _ _ _ _ _ => (pe_cmpR (op_in_seqB (K := K) rfl) (pe_un un_neg (pv 1)) (pv 0) (by rfl)))))), ?_⟩
    refine ⟨_, rfl, a, rfl, ⟨_, .of ha⟩, tg, fun H1 tb => ?_⟩
    have k1 : Ke Nof H H1 := .tabbed tg tb
    refine aa_list (xs := ns.map V.int) (Pv := fun i H' => Ke Nof H H' ∧ (ns.take i).any (fun s => decide (0 < s) && inV (.int (-s)) (ns.map V.int)) = false) ⟨k1, rfl⟩ (fun i H' _ p => .of (p.1.lst ha fun z => z)) ?_ ?_
    · rintro i x H' hx ⟨k2, p⟩
      obtain ⟨z, hz, rfl⟩ := at_int hx
      obtain ⟨t1, t2⟩ := take_any hz p
      refine ⟨rfl, _, rfl, _, _, rfl, rfl, _, rfl, ite2 (fun y1 => ?_) (fun y1 => ?_)⟩
      · refine ⟨_, rfl, _, rfl, _, rfl, a, _, rfl, .inl (.of (k2.lst ha fun z => z)), rfl, ints_flat ns, ?_⟩
        cases e : inV (.int (-z)) (ns.map V.int) with
        | true =>
          refine .inl ⟨rfl, ?_⟩
          have := q H' k2
          rw [show oppB ns = true from t1 (by rw [e, Bool.and_true]; exact y1)] at this
          exact this
        | false => exact .inr ⟨rfl, k2, t2 (by rw [e, Bool.and_false])⟩
      · exact ⟨k2, t2 (by rw [show decide (0 < z) = false from Bool.eq_false_iff.mpr y1, Bool.false_and])⟩
    · rintro H' ⟨k2, p⟩
      rw [List.length_map, List.take_length] at p
      have := q H' k2
      rw [show oppB ns = false from p] at this
      exact this
def spWho : Sp := fun vs H Q _ => ∃ k : Int, vs = [.int k] ∧ Q (.bl true) H
theorem ok_who {f : Addr} {fd : FuncData} {k : Nat} (F : Fun K "is_whole" "is_whole" sWho f fd) (T : Zc mg) : FnOk P w K mg base CX0 (k + 1) f fd ["thing"] spWho := by
  refine F.ok scWho (fun vs H Q E h => ?_) (fun cdv A outer s H vs Q E hr h => ?_)
  · obtain ⟨k, rfl, _⟩ := h
    rfl
  · obtain ⟨k, rfl, q⟩ := h
    refine ⟨_, (pss_one (ps_ret (pe_and (pe_callB call_isi (by rfl) T.z_isinstance (by decide +kernel) (pa_cons (pv 0) (pa_cons (pe_bltn (v := .ty "int") (u := .type "int") (by rfl) T.z_int (by decide +kernel) rfl) pa_nil))) (pe_one (pe_not (pe_callB call_isi (by rfl) T.z_isinstance (by decide +kernel) (pa_cons (pv 0) (pa_cons (pe_bltn (v := .ty "bool") (u := .type "bool") (by rfl) T.z_bool (by decide +kernel) rfl) pa_nil)))))))), ?_⟩
    refine ⟨_, rfl, .int k, .ty "int", .type "int", .type "int", true, rfl, .ty _, .base (.int k), kit_ty (by decide +kernel), _, rfl, ?_⟩
    refine ⟨_, rfl, .int k, .ty "bool", .type "int", .type "bool", false, rfl, .ty _, .base (.int k), kit_ty (by decide +kernel), _, rfl, q⟩
/-- k meets -/
def meetB (cs ds : List Int) (k : Int) : Bool := decide (1 ≤ k) && decide (k ≤ 8) && inV (.int k) (cs.map V.int) && inV (.int (-k)) (ds.map V.int)
def spCme : Sp := fun vs H Q _ => ∃ (v u : V) (k : Int) (cs ds : List Int), vs = [v, u, .int k] ∧ TupI H v cs ∧ TupI H u ds ∧ Q (.bl (meetB cs ds k)) H
theorem ok_cme {f fW : Addr} {fd fdW : FuncData} {k : Nat} {tk : Tok} (F : Fun K "can_meet" "can_meet" sCme f fd) (T : Zc mg) (M8 : mg "MOST_THINGS" = some (.int 8 tk)) (FW : Fun K "is_whole" "is_whole" sWho fW fdW) (bW : Binds K fdW ["thing"] []) (gW : mg "is_whole" = some (.ref fW)) (GW : FnOk P w K mg base CX0 1 fW fdW ["thing"] spWho) :
    FnOk P w K mg base CX0 (k + 2) f fd ["one", "other", "k"] spCme := by
  refine F.ok scCme (fun vs H Q E h => ?_) (fun cdv A outer s H vs Q E hr h => ?_)
  · obtain ⟨v, u, k, cs, ds, rfl, _⟩ := h
    rfl
  · obtain ⟨v, u, k, cs, ds, rfl, ⟨a, rfl, ha⟩, ⟨b, rfl, hb⟩, q⟩ := h
    have hr1 : Room 1 _ := hr.mono (by omega)
    refine ⟨_, (pss_one (ps_ret (pe_and (pe_call GW hr1 (by rfl) gW FW.kp bW .nil pass0 (pa_cons (pv 2) pa_nil)) (pe_and (pe_chain op_le op_le pe_int (pv 2) (pe_glob (v := .int 8) rfl M8 ⟨_, rfl⟩)) (pe_and (pe_cmpR op_in_seq (pv 2) (pv 0) (by rfl)) (pe_one (pe_cmpR op_in_seq (pe_un un_neg (pv 2)) (pv 1) (by rfl)))))))), ?_⟩
    refine ⟨_, rfl, k, rfl, _, rfl, ?_⟩
    unfold meetB at q
    refine ⟨_, rfl, 1, _, rfl, rfl, decide (1 ≤ k), rfl, ?_⟩
    cases e1 : decide (1 ≤ k) with
    | false =>
      rw [e1] at q
      exact ⟨_, rfl, q⟩
    | true =>
      refine ⟨_, _, rfl, rfl, decide (k ≤ 8), rfl, ?_⟩
      cases e2 : decide (k ≤ 8) with
      | false =>
        rw [e1, e2] at q
        exact q
      | true =>
        refine ⟨_, rfl, _, rfl, a, _, rfl, .inr (.of ha), rfl, ints_flat cs, _, rfl, ?_⟩
        cases e3 : inV (.int k) (cs.map V.int) with
        | false =>
          rw [e1, e2, e3] at q
          exact q
        | true =>
          rw [e1, e2, e3] at q
          exact ⟨_, rfl, _, rfl, _, rfl, b, _, rfl, .inr (.of hb), rfl, ints_flat ds, q⟩
/-- what is said besides -/
def saysB (cs ds : List Int) (k : Int) : List Int := (cs.filter fun s => !decide (V.int s = V.int k)) ++ ds.filter fun s => !decide (V.int s = V.int (-k))
theorem filt_take {α : Type} {f : α → Bool} {l : List α} {i : Nat} {x : α} (h : l[i]? = some x) : (l.take (i + 1)).filter f = (l.take i).filter f ++ (if f x = true then [x] else []) := by
  rw [List.take_add_one, h, List.filter_append]
  congr 1
  show [x].filter f = _
  cases e : f x with
  | true => rw [List.filter_cons_of_pos e]; rfl
  | false => rw [List.filter_cons_of_neg (by rw [e]; decide)]; rfl
def spCon (Po : Addr) : Sp := fun vs H Q _ => ∃ (v u : V) (k : Int) (cs ds : List Int), vs = [v, u, .int k] ∧ TupI H v cs ∧ TupI H u ds ∧ cs.length ≤ 20 ∧ ds.length ≤ 20 ∧ TabG H Po ∧
  (∀ H', Ke Nof H H' → (meetB cs ds k = false ∨ oppB (saysB cs ds k) = true) → Q .non H') ∧
  ∀ (ns : List Int) (p : Addr) (H' : Hp), Ke Nof H H' → meetB cs ds k = true → oppB (saysB cs ds k) = false → ns.Pairwise (· < ·) → (∀ j, j ∈ ns ↔ j ∈ saysB cs ds k) → H' p = some (.tup (ns.map V.int)) → Q (.ref p) H'
theorem ok_con {f fM fH Po : Addr} {fd fdM fdH : FuncData} {k : Nat} (F : Fun K "cut_or_none" "cut_or_none" sCon f fd) (T : Zc mg) (FM : Fun K "can_meet" "can_meet" sCme fM fdM) (bM : Binds K fdM ["one", "other", "k"] []) (gM : mg "can_meet" = some (.ref fM)) (GM : FnOk P w K mg base CX0 2 fM fdM ["one", "other", "k"] spCme)
    (kpH : PySem.W.keepIn K (.ref fH) = true) (bH : Binds K fdH ["says"] []) (gH : mg "has_opposites" = some (.ref fH)) (GH : FnOk P w K mg base CX0 3 fH fdH ["says"] (spHop Po)) :
    FnOk P w K mg base CX0 (k + 4) f fd ["one", "other", "k"] (spCon Po) := by
  refine F.ok scCon (fun vs H Q E h => ?_) (fun cdv A outer s H vs Q E hr h => ?_)
  · obtain ⟨v, u, k, cs, ds, rfl, _⟩ := h
    rfl
  · obtain ⟨v, u, k, cs, ds, rfl, tv, tu, lc, ld, tg, q1, q2⟩ := h
    have hr2 : Room 2 _ := hr.mono (by omega)
    have hr3 : Room 3 _ := hr.mono (by omega)
    refine ⟨_, (pss_cons (ps_if (pt_not (pt_val (pe_call GM hr2 (by rfl) gM FM.kp bM .nil pass0 (pa_cons (pv 0) (pa_cons (pv 1) (pa_cons (pv 2) pa_nil)))))) (pss_one (ps_ret pe_non)) pss_nil)
      (Evl.pss_cut (ps_set (i := 3) scCon.nd rfl (.inl rfl) (pe_op op_catN (pe_lc (own := [("say", 4)]) (g := (gName 4))  rfl scCon.nd (pi_tup (pv 0)) (blkOk_by (N := nCon) (sc := defScope sCon) (by decide +kernel)) (fun _ _ _ _ _ => (pg_name (i := 4) scCon.nd rfl (.inl rfl))) (fun _ _ _ _ _ => (pts_one (pt_cmpR op_ne (pv 4) (pv 2) (nomark _)))) (fun _ _ _ _ _ => (pv 4))) (pe_lc (own := [("say", 4)]) (g := (gName 4))  rfl scCon.nd (pi_tup (pv 1)) (blkOk_by (N := nCon) (sc := defScope sCon) (by decide +kernel)) (fun _ _ _ _ _ => (pg_name (i := 4) scCon.nd rfl (.inl rfl))) (fun _ _ _ _ _ => (pts_one (pt_cmpR op_ne (pv 4) (pe_un un_neg (pv 2)) (nomark _)))) (fun _ _ _ _ _ => (pv 4)))))
      (pss_cons (ps_if (pt_val (pe_call GH hr3 (by rfl) gH kpH bH .nil pass0 (pa_cons (pv 3) pa_nil))) (pss_one (ps_ret pe_non)) pss_nil)
      (pss_one (ps_ret (pe_callTy call_tuple_ofN (by rfl) T.z_tuple (by decide +kernel) (pa_cons (pe_callB (St.cr_sortedS rfl) (by rfl) T.z_sorted (by decide +kernel) (pa_cons (pe_callTy (St.cr_setL rfl) (by rfl) T.z_set (by decide +kernel) (pa_cons (pv 3) pa_nil)) pa_nil)) pa_nil))))))), ?_⟩
    obtain ⟨a, rfl, ha⟩ := id tv
    obtain ⟨b, rfl, hb⟩ := id tu
    refine ⟨_, rfl, _, rfl, _, rfl, .ref a, .ref b, k, cs, ds, rfl, tv, tu, _, rfl, ?_⟩
    cases e1 : meetB cs ds k with
    | false => exact q1 H (.refl _ _) (.inl e1)
    | true =>
      refine Evl.q_cut (M := fun σ' H' => ∃ p : Addr, σ' = [some (.ref a), some (.ref b), some (.int k), some (.ref p), none] ∧ Same H H' ∧ H' p = some (.lst ((saysB cs ds k).map V.int))) ?_ ?_
      · refine ⟨_, rfl, a, rfl, ⟨_, .of ha⟩, fun D nD => ?_⟩
        refine lc_tup (xs := cs.map V.int) (Pv := fun i H' => Same H H' ∧ H' D = some (.lst (((cs.take i).filter fun s => !decide (V.int s = V.int k)).map V.int))) ⟨same_new nD, upd_same⟩ (fun i H' _ p => .of (p.1 _ _ ha)) ?_ ?_
        · rintro i x H' hx ⟨s1, hD⟩
          obtain ⟨z, hz, rfl⟩ := at_int hx
          have ft := filt_take (f := fun s => !decide (V.int s = V.int k)) hz
          refine ⟨rfl, _, rfl, _, rfl, rfl, _, rfl, ite2 (fun y1 => ?_) (fun y1 => ?_)⟩
          · refine ⟨_, rfl, _, hD, ?_, fun c o y => ?_, ?_⟩
            · rw [List.length_map]
              exact small1000 (Nat.le_trans (List.length_filter_le _ _) (by rw [List.length_take]; omega))
            · rw [upd_ne (ne_of_none y nD)]
              exact s1 _ _ y
            · rw [upd_same, ft, if_pos y1, List.map_append]
              rfl
          · refine ⟨s1, ?_⟩
            rw [ft, if_neg y1, List.append_nil]
            exact hD
        rintro H1 ⟨s1, hD⟩
        rw [List.length_map, List.take_length] at hD
        refine ⟨_, rfl, b, rfl, ⟨_, .of (s1 _ _ hb)⟩, fun D2 nD2 => ?_⟩
        refine lc_tup (xs := ds.map V.int) (Pv := fun i H' => Same H1 H' ∧ H' D2 = some (.lst (((ds.take i).filter fun s => !decide (V.int s = V.int (-k))).map V.int))) ⟨same_new nD2, upd_same⟩ (fun i H' _ p => .of (p.1 _ _ (s1 _ _ hb))) ?_ ?_
        · rintro i x H' hx ⟨s2, hD2⟩
          obtain ⟨z, hz, rfl⟩ := at_int hx
          have ft := filt_take (f := fun s => !decide (V.int s = V.int (-k))) hz
          refine ⟨rfl, _, rfl, _, rfl, _, rfl, rfl, _, rfl, ite2 (fun y1 => ?_) (fun y1 => ?_)⟩
          · refine ⟨_, rfl, _, hD2, ?_, fun c o y => ?_, ?_⟩
            · rw [List.length_map]
              exact small1000 (Nat.le_trans (List.length_filter_le _ _) (by rw [List.length_take]; omega))
            · rw [upd_ne (ne_of_none y nD2)]
              exact s2 _ _ y
            · rw [upd_same, ft, if_pos y1, List.map_append]
              rfl
          · refine ⟨s2, ?_⟩
            rw [ft, if_neg y1, List.append_nil]
            exact hD2
        rintro H2 ⟨s2, hD2⟩
        rw [List.length_map, List.take_length] at hD2
        refine ⟨D, D2, _, _, rfl, rfl, s2 _ _ hD, hD2, ?_, fun p H3 np s3 hp _ => ?_⟩
        · rw [List.length_map, List.length_map]
          have h1 := List.length_filter_le (fun s => !decide (V.int s = V.int k)) cs
          have h2 := List.length_filter_le (fun s => !decide (V.int s = V.int (-k))) ds
          exact Nat.le_trans (by omega : _ ≤ 1000) (by decide)
        · rw [← List.map_append] at hp
          exact ⟨p, rfl, (s1.trans s2).trans s3, hp⟩
      rintro σ' H1 ⟨p, rfl, s1, hp⟩
      have k1 : Ke Nof H H1 := .same s1
      refine ⟨_, rfl, p, _, rfl, hp, k1.tabs _ tg, fun H2 k2 => ⟨_, rfl, ?_⟩⟩
      have k12 := k1.trans k2
      cases e2 : oppB (saysB cs ds k) with
      | true => exact q1 H2 k12 (.inr e2)
      | false =>
        have hp2 := k2.lst hp fun z => z
        have ls : (saysB cs ds k).length ≤ 40 := by
          unfold saysB
          rw [List.length_append]
          have h1 := List.length_filter_le (fun s => !decide (V.int s = V.int k)) cs
          have h2 := List.length_filter_le (fun s => !decide (V.int s = V.int (-k))) ds
          omega
        refine ⟨_, rfl, p, _, rfl, .of hp2, by omega, fun r H3 n nr s3 hr' ln => ?_⟩
        refine ⟨r, _, n, rfl, hr', by omega, fun es up me le r2 H4 nr2 s4 h4 _ => ?_⟩
        refine ⟨r2, _, rfl, .of h4, fun r3 H5 nr3 s5 h5 _ => ?_⟩
        exact q2 es r3 H5 (k12.trans (.same ((s3.trans s4).trans s5))) e1 e2 up (fun j => (me j).trans decide_eq_true_iff) h5
end
end Ct
namespace Ct
open PySem PySem.Spec PyProof.Rows L2 GxR Nw Dr Kp Se
structure Zd (mg : Str → Option Value) : Prop where
  z_tuple : mg "tuple" = none
  z_sorted : mg "sorted" = none
  z_set : mg "set" = none
  z_abs : mg "abs" = none
theorem in_ints (k : Int) : ∀ cs : List Int, inV (.int k) (cs.map V.int) = true ↔ k ∈ cs
  | [] => by
    constructor
    · intro h
      cases h
    · intro h
      cases h
  | c :: r => by
    have ih := in_ints k r
    show (eqV (.int c) (.int k) || inV (.int k) (r.map V.int)) = true ↔ _
    rw [Bool.or_eq_true, ih, List.mem_cons]
    have e : eqV (.int c) (.int k) = true ↔ k = c := by
      show (c == k) = true ↔ k = c
      rw [beq_iff_eq]
      exact eq_comm
    rw [e]
/-- what is said besides, told by members -/
def Bes (cs ds : List Int) (k j : Int) : Prop := (j ∈ cs ∨ j ∈ ds) ∧ (j.natAbs : Int) ≠ k
end Ct
namespace Ct
open PySem PySem.Spec PyProof.Rows L2 GxR Nw Dr Kp Se
/-! ### what the program cuts and what is cut here agree -/
theorem up_unique : ∀ {xs ys : List Int}, xs.Pairwise (· < ·) → ys.Pairwise (· < ·) → (∀ j, j ∈ xs ↔ j ∈ ys) → xs = ys
  | [], [], _, _, _ => rfl
  | [], y :: r, _, _, h => absurd ((h y).mpr List.mem_cons_self) (by simp)
  | x :: r, [], _, _, h => absurd ((h x).mp List.mem_cons_self) (by simp)
  | x :: r, y :: t, hx, hy, h => by
    obtain ⟨x1, x2⟩ := List.pairwise_cons.mp hx
    obtain ⟨y1, y2⟩ := List.pairwise_cons.mp hy
    have e : x = y := by
      rcases List.mem_cons.mp ((h x).mp List.mem_cons_self) with e | m
      · exact e
      · rcases List.mem_cons.mp ((h y).mpr List.mem_cons_self) with e | m2
        · exact e.symm
        · have := y1 x m
          have := x1 y m2
          omega
    subst e
    rw [up_unique x2 y2 fun j => ⟨fun hj => ?_, fun hj => ?_⟩]
    · rcases List.mem_cons.mp ((h j).mp (List.mem_cons_of_mem _ hj)) with e | m
      · have := x1 j hj
        omega
      · exact m
    · rcases List.mem_cons.mp ((h j).mpr (List.mem_cons_of_mem _ hj)) with e | m
      · have := y1 j hj
        omega
      · exact m
variable {cs ds : List Int} {k : Int}
theorem meet_iff (hc : IsCl cs) : meetB cs ds k = true ↔ 1 ≤ k ∧ k ∈ cs ∧ -k ∈ ds := by
  unfold meetB
  rw [Bool.and_eq_true, Bool.and_eq_true, Bool.and_eq_true, decide_eq_true_iff, decide_eq_true_iff, in_ints, in_ints]
  constructor
  · rintro ⟨⟨⟨h1, _⟩, h2⟩, h3⟩
    exact ⟨h1, h2, h3⟩
  · rintro ⟨h1, h2, h3⟩
    exact ⟨⟨⟨h1, (hc.says k h2).2.2⟩, h2⟩, h3⟩
theorem not_int {a b : Int} : (!decide (V.int a = V.int b)) = true ↔ a ≠ b := by
  rw [Bool.not_eq_true', decide_eq_false_iff_not]
  exact ⟨fun z y => z (by rw [y]), fun z y => z (V.int.inj y)⟩
theorem says_iff (hc : IsCl cs) (hd : IsCl ds) (kc : k ∈ cs) (kd : -k ∈ ds) (k1 : 1 ≤ k) (j : Int) : j ∈ saysB cs ds k ↔ Bes cs ds k j := by
  unfold saysB Bes
  rw [List.mem_append, List.mem_filter, List.mem_filter, not_int, not_int]
  constructor
  · rintro (⟨h1, h2⟩ | ⟨h1, h2⟩)
    · refine ⟨.inl h1, fun z => ?_⟩
      have e : j = -k := by omega
      rw [e] at h1
      exact hc.opp k kc h1
    · refine ⟨.inr h1, fun z => ?_⟩
      have e : j = k := by omega
      rw [e] at h1
      exact hd.opp k h1 kd
  · rintro ⟨h1 | h1, h2⟩
    · exact .inl ⟨h1, by omega⟩
    · exact .inr ⟨h1, by omega⟩
theorem opp_iff (ns : List Int) (nz : ∀ j ∈ ns, j ≠ 0) : oppB ns = true ↔ ∃ j, j ∈ ns ∧ -j ∈ ns := by
  unfold oppB
  rw [List.any_eq_true]
  constructor
  · rintro ⟨j, hj, h⟩
    rw [Bool.and_eq_true, in_ints] at h
    exact ⟨j, hj, h.2⟩
  · rintro ⟨j, h1, h2⟩
    have := nz j h1
    by_cases p : 0 < j
    · exact ⟨j, h1, by rw [Bool.and_eq_true, in_ints, decide_eq_true_iff]; exact ⟨p, h2⟩⟩
    · exact ⟨-j, h2, by rw [Bool.and_eq_true, in_ints, decide_eq_true_iff, Int.neg_neg]; exact ⟨by omega, h1⟩⟩
/-- the cut of two claims: what comes, if anything -/
def Comes (cs ds : List Int) (k : Int) (ns : List Int) : Prop := 1 ≤ k ∧ k ∈ cs ∧ -k ∈ ds ∧ (∀ j, Bes cs ds k j → ¬ Bes cs ds k (-j)) ∧ ns.Pairwise (· < ·) ∧ ∀ j, j ∈ ns ↔ Bes cs ds k j
def NoCome (cs ds : List Int) (k : Int) : Prop := k < 1 ∨ k ∉ cs ∨ -k ∉ ds ∨ ∃ j, Bes cs ds k j ∧ Bes cs ds k (-j)
theorem Comes.one {ns ms : List Int} (a : Comes cs ds k ns) (b : Comes cs ds k ms) : ns = ms := up_unique a.2.2.2.2.1 b.2.2.2.2.1 fun j => (a.2.2.2.2.2 j).trans (b.2.2.2.2.2 j).symm
theorem Comes.no {ns : List Int} (a : Comes cs ds k ns) (b : NoCome cs ds k) : False := by
  obtain ⟨a1, a2, a3, a4, _⟩ := a
  rcases b with b | b | b | ⟨j, b1, b2⟩
  · omega
  · exact b a2
  · exact b a3
  · exact a4 j b1 b2
theorem comes_of (hc : IsCl cs) (hd : IsCl ds) {ns : List Int} (m : meetB cs ds k = true) (o : oppB (saysB cs ds k) = false) (up : ns.Pairwise (· < ·)) (me : ∀ j, j ∈ ns ↔ j ∈ saysB cs ds k) : Comes cs ds k ns := by
  obtain ⟨k1, kc, kd⟩ := (meet_iff hc).mp m
  have sb := says_iff hc hd kc kd k1
  refine ⟨k1, kc, kd, fun j h1 h2 => ?_, up, fun j => (me j).trans (sb j)⟩
  have nz : ∀ j ∈ saysB cs ds k, j ≠ 0 := fun j hj => by
    rcases ((sb j).mp hj).1 with h | h
    · exact (hc.says j h).1
    · exact (hd.says j h).1
  have := (opp_iff _ nz).mpr ⟨j, (sb j).mpr h1, (sb _).mpr h2⟩
  rw [o] at this
  cases this
theorem nocome_of (hc : IsCl cs) (hd : IsCl ds) (h : meetB cs ds k = false ∨ oppB (saysB cs ds k) = true) : NoCome cs ds k := by
  by_cases k1 : 1 ≤ k
  · by_cases kc : k ∈ cs
    · by_cases kd : -k ∈ ds
      · have m := (meet_iff (ds := ds) hc).mpr ⟨k1, kc, kd⟩
        rcases h with h | h
        · rw [m] at h
          cases h
        · have sb := says_iff hc hd kc kd k1
          have nz : ∀ j ∈ saysB cs ds k, j ≠ 0 := fun j hj => by
            rcases ((sb j).mp hj).1 with h | h
            · exact (hc.says j h).1
            · exact (hd.says j h).1
          obtain ⟨j, h1, h2⟩ := (opp_iff _ nz).mp h
          exact .inr (.inr (.inr ⟨j, (sb j).mp h1, (sb _).mp h2⟩))
      · exact .inr (.inr (.inl kd))
    · exact .inr (.inl kc)
  · exact .inl (by omega)
end Ct
namespace Od
open PySem PySem.Spec PyProof.Rows L2 GxR Nw Dr Kp
/-! ### anything: values by their data; no list among them is one of f -/
mutual
inductive OdV (f : Addr → Prop) (H : Hp) : V → PyData → Prop
  | non : OdV f H .non .none
  | bl (b : Bool) : OdV f H (.bl b) (.bool b)
  | int (i : Int) : OdV f H (.int i) (.int i)
  | str (x : Str) : OdV f H (.str x) (.str x)
  | lst {a : Addr} {xs : List V} {ds : List PyData} : H a = some (.lst xs) → ¬ f a → OdAll f H xs ds → OdV f H (.ref a) (.list ds)
  | tup {a : Addr} {xs : List V} {ds : List PyData} : H a = some (.tup xs) → OdAll f H xs ds → OdV f H (.ref a) (.tuple ds)
inductive OdAll (f : Addr → Prop) (H : Hp) : List V → List PyData → Prop
  | nil : OdAll f H [] []
  | cons {v : V} {vs : List V} {d : PyData} {ds : List PyData} : OdV f H v d → OdAll f H vs ds → OdAll f H (v :: vs) (d :: ds)
end
variable {f : Addr → Prop} {H H' : Hp}
mutual
theorem OdV.dp {K : PySem.W.Frag} : ∀ {d : PyData} {v : V}, OdV f H v d → Dp K H v d
  | .none, _, h => by cases h; exact .non
  | .bool _, _, h => by cases h; exact .bl _
  | .int _, _, h => by cases h; exact .int _
  | .str _, _, h => by cases h; exact .str _
  | .list ds, _, h => by cases h with | lst h1 _ h2 => exact .lst (.of h1) (OdAll.dp h2)
  | .tuple ds, _, h => by cases h with | tup h1 h2 => exact .tup (.of h1) (OdAll.dp h2)
  | .dict _, _, h => by cases h
theorem OdAll.dp {K : PySem.W.Frag} : ∀ {ds : List PyData} {vs : List V}, OdAll f H vs ds → DpAll K H vs ds
  | [], _, h => by cases h; exact .nil
  | d :: ds, _, h => by cases h with | cons h1 h2 => exact .cons (OdV.dp h1) (OdAll.dp h2)
end
mutual
theorem OdV.ke (k : Ke f H H') : ∀ {d : PyData} {v : V}, OdV f H v d → OdV f H' v d
  | .none, _, h => by cases h; exact .non
  | .bool _, _, h => by cases h; exact .bl _
  | .int _, _, h => by cases h; exact .int _
  | .str _, _, h => by cases h; exact .str _
  | .list ds, _, h => by cases h with | lst h1 n h2 => exact .lst (k.lst h1 n) n (OdAll.ke k h2)
  | .tuple ds, _, h => by cases h with | tup h1 h2 => exact .tup (k.tups _ _ h1) (OdAll.ke k h2)
  | .dict _, _, h => by cases h
theorem OdAll.ke (k : Ke f H H') : ∀ {ds : List PyData} {vs : List V}, OdAll f H vs ds → OdAll f H' vs ds
  | [], _, h => by cases h; exact .nil
  | d :: ds, _, h => by cases h with | cons h1 h2 => exact .cons (OdV.ke k h1) (OdAll.ke k h2)
end
theorem OdAll.len : ∀ {vs : List V} {ds : List PyData}, OdAll f H vs ds → vs.length = ds.length
  | [], _, h => by cases h; rfl
  | v :: vs, _, h => by cases h with | cons h1 h2 => rw [List.length_cons, List.length_cons, OdAll.len h2]
theorem OdAll.at : ∀ {vs : List V} {ds : List PyData} {i : Nat} {v : V}, OdAll f H vs ds → vs[i]? = some v → ∃ d, ds[i]? = some d ∧ OdV f H v d
  | [], _, _, _, _, e => by simp at e
  | v :: vs, _, 0, _, h, e => by
    cases h with
    | cons h1 h2 =>
      cases e
      exact ⟨_, rfl, h1⟩
  | v :: vs, _, i + 1, _, h, e => by
    cases h with
    | cons h1 h2 => exact OdAll.at (vs := vs) (i := i) h2 (by simpa using e)
theorem OdAll.cat : ∀ {vs us : List V} {ds es : List PyData}, OdAll f H vs ds → OdAll f H us es → OdAll f H (vs ++ us) (ds ++ es)
  | [], _, _, _, h, g => by cases h; exact g
  | v :: vs, _, _, _, h, g => by cases h with | cons h1 h2 => exact .cons h1 (OdAll.cat h2 g)
theorem OdAll.one {v : V} {d : PyData} (h : OdV f H v d) : OdAll f H [v] [d] := .cons h .nil
theorem OdAll.take : ∀ {vs : List V} {ds : List PyData} (n : Nat), OdAll f H vs ds → OdAll f H (vs.take n) (ds.take n)
  | _, _, 0, _ => by rw [List.take_zero, List.take_zero]; exact .nil
  | [], _, n + 1, h => by cases h; exact .nil
  | v :: vs, _, n + 1, h => by cases h with | cons h1 h2 => exact .cons h1 (OdAll.take n h2)
theorem OdAll.drop : ∀ {vs : List V} {ds : List PyData} (n : Nat), OdAll f H vs ds → OdAll f H (vs.drop n) (ds.drop n)
  | _, _, 0, h => by rw [List.drop_zero, List.drop_zero]; exact h
  | [], _, n + 1, h => by cases h; exact .nil
  | v :: vs, _, n + 1, h => by cases h with | cons h1 h2 => exact OdAll.drop n h2
theorem OdAll.rev : ∀ {vs : List V} {ds : List PyData}, OdAll f H vs ds → OdAll f H vs.reverse ds.reverse
  | [], _, h => by cases h; exact .nil
  | v :: vs, _, h => by
    cases h with
    | cons h1 h2 =>
      rw [List.reverse_cons, List.reverse_cons]
      exact (OdAll.rev h2).cat (.one h1)
theorem od_ints : ∀ ns : List Int, OdAll f H (ns.map V.int) (ns.map PyData.int)
  | [] => .nil
  | n :: r => .cons (.int n) (od_ints r)
/-! ### what anything is -/
def tyD : PyData → String
  | .none => "NoneType" | .bool _ => "bool" | .int _ => "int" | .str _ => "str" | .list _ => "list" | .tuple _ => "tuple" | .dict _ => "dict"
theorem OdV.ty {K : PySem.W.Frag} {d : PyData} {v : V} (h : OdV f H v d) : TyX K H v (.type (tyD d)) := by
  cases h with
  | non => exact .base .non
  | bl b => exact .base (.bl b)
  | int i => exact .base (.int i)
  | str x => exact .base (.str x)
  | lst h1 _ _ => exact .base (.lst h1)
  | tup h1 _ => exact .base (.tup h1)
def whD : PyData → Bool
  | .int _ => true
  | _ => false
def tuD : PyData → Bool
  | .tuple _ => true
  | _ => false
def numD : PyData → Int → Bool
  | .int n, m => decide (0 ≤ n) && decide (n < m)
  | _, _ => false
/-! ### small data, to be shown -/
structure Sm (B : Nat) (d : PyData) : Prop where
  sh : d.showable = true
  nd : d.hasDict = false
  dp : d.depth ≤ 6
  sz : d.shown.length ≤ B
structure SmAll (B : Nat) (ds : List PyData) : Prop where
  sh : PyData.showableAll ds = true
  nd : PyData.hasDictAll ds = false
  dp : PyData.depthAll ds ≤ 5
  sz : ∀ x ∈ PyData.shownAll ds, x.length ≤ B
theorem SmAll.nil {B : Nat} : SmAll B [] := ⟨rfl, rfl, by decide, fun _ h => nomatch h⟩
theorem SmAll.cons {B : Nat} {d : PyData} {ds : List PyData} (h : Sm B d) (h5 : d.depth ≤ 5) (t : SmAll B ds) : SmAll B (d :: ds) := by
  refine ⟨?_, ?_, ?_, fun x hx => ?_⟩
  · show (PyData.showable d && PyData.showableAll ds) = true
    rw [h.sh, t.sh]
    rfl
  · show (PyData.hasDict d || PyData.hasDictAll ds) = false
    rw [h.nd, t.nd]
    rfl
  · exact Nat.max_le.mpr ⟨h5, t.dp⟩
  · rcases List.mem_cons.mp hx with e | e
    · rw [e]
      exact h.sz
    · exact t.sz x e
theorem shownAll_len : ∀ ds : List PyData, (PyData.shownAll ds).length = ds.length
  | [] => rfl
  | _ :: r => congrArg (· + 1) (shownAll_len r)
theorem sum_le {B : Nat} : ∀ {l : List Nat}, (∀ x ∈ l, x ≤ B) → l.sum ≤ B * l.length
  | [], _ => Nat.zero_le _
  | x :: r, h => by
    have h1 := h x List.mem_cons_self
    have h2 := sum_le (l := r) fun y hy => h y (List.mem_cons_of_mem _ hy)
    rw [List.sum_cons, List.length_cons, Nat.mul_add]
    omega
theorem SmAll.sum {B : Nat} {ds : List PyData} (h : SmAll B ds) : ((PyData.shownAll ds).map (·.length)).sum ≤ B * ds.length := by
  have := sum_le (B := B) (l := (PyData.shownAll ds).map (·.length)) fun x hx => by
    obtain ⟨y, hy, rfl⟩ := List.mem_map.mp hx
    exact h.sz y hy
  rw [List.length_map, shownAll_len] at this
  exact this
theorem SmAll.list {B n B' : Nat} {ds : List PyData} (h : SmAll B ds) (l : ds.length ≤ n) (hb : B * n + 2 * n + 3 ≤ B') : Sm B' (.list ds) := by
  have e := listText_len_le (PyData.shownAll ds)
  have s := h.sum
  rw [shownAll_len] at e
  have m : B * ds.length ≤ B * n := Nat.mul_le_mul_left _ l
  exact ⟨h.sh, h.nd, by show PyData.depthAll ds + 1 ≤ 6; have := h.dp; omega, by show (listText (PyData.shownAll ds)).length ≤ B'; omega⟩
theorem SmAll.tuple {B n B' : Nat} {ds : List PyData} (h : SmAll B ds) (l : ds.length ≤ n) (hb : B * n + 2 * n + 3 ≤ B') : Sm B' (.tuple ds) := by
  have e := tupleText_len_le (PyData.shownAll ds)
  have s := h.sum
  rw [shownAll_len] at e
  have m : B * ds.length ≤ B * n := Nat.mul_le_mul_left _ l
  exact ⟨h.sh, h.nd, by show PyData.depthAll ds + 1 ≤ 6; have := h.dp; omega, by show (tupleText (PyData.shownAll ds)).length ≤ B'; omega⟩
theorem SmAll.cat {B : Nat} : ∀ {ds es : List PyData}, SmAll B ds → SmAll B es → SmAll B (ds ++ es)
  | [], _, _, g => g
  | d :: r, es, h, g => by
    have hs := h.sh
    have hn := h.nd
    have hd := h.dp
    have hz := h.sz
    have hs' : (PyData.showable d && PyData.showableAll r) = true := hs
    have hn' : (PyData.hasDict d || PyData.hasDictAll r) = false := hn
    rw [Bool.and_eq_true] at hs'
    rw [Bool.or_eq_false_iff] at hn'
    have hd' : Nat.max (PyData.depth d) (PyData.depthAll r) ≤ 5 := hd
    have z := Nat.max_le.mp hd'
    have hr : SmAll B r := ⟨hs'.2, hn'.2, z.2, fun x hx => hz x (List.mem_cons_of_mem _ hx)⟩
    exact SmAll.cons ⟨hs'.1, hn'.1, by omega, hz _ List.mem_cons_self⟩ z.1 (SmAll.cat hr g)
theorem SmAll.of {B : Nat} : ∀ {ds : List PyData}, (∀ d ∈ ds, Sm B d ∧ d.depth ≤ 5) → SmAll B ds
  | [], _ => .nil
  | d :: r, h => SmAll.cons (h d List.mem_cons_self).1 (h d List.mem_cons_self).2 (SmAll.of fun x hx => h x (List.mem_cons_of_mem _ hx))
theorem SmAll.mem {B : Nat} : ∀ {ds : List PyData}, SmAll B ds → ∀ d ∈ ds, Sm B d ∧ d.depth ≤ 5
  | [], _, d, hd => nomatch hd
  | e :: r, h, d, hd => by
    have hs' : (PyData.showable e && PyData.showableAll r) = true := h.sh
    have hn' : (PyData.hasDict e || PyData.hasDictAll r) = false := h.nd
    rw [Bool.and_eq_true] at hs'
    rw [Bool.or_eq_false_iff] at hn'
    have hd' : Nat.max (PyData.depth e) (PyData.depthAll r) ≤ 5 := h.dp
    have z := Nat.max_le.mp hd'
    rcases List.mem_cons.mp hd with u | u
    · rw [u]
      exact ⟨⟨hs'.1, hn'.1, by omega, h.sz _ List.mem_cons_self⟩, z.1⟩
    · exact SmAll.mem (ds := r) ⟨hs'.2, hn'.2, z.2, fun x hx => h.sz x (List.mem_cons_of_mem _ hx)⟩ d u
theorem Sm.mono {B B' : Nat} {d : PyData} (h : Sm B d) (l : B ≤ B') : Sm B' d := ⟨h.sh, h.nd, h.dp, Nat.le_trans h.sz l⟩
theorem small_ints : ∀ n : Fin 130, PyData.showable (.int ((n.val : Int) - 60)) = true ∧ (PyData.shown (.int ((n.val : Int) - 60))).length ≤ 3 := by decide +kernel
theorem sm_int {n : Int} (h0 : -60 ≤ n) (h1 : n < 70) : Sm 3 (.int n) := by
  have := small_ints ⟨(n + 60).toNat, by omega⟩
  rw [show (((n + 60).toNat : Nat) : Int) - 60 = n by omega] at this
  exact ⟨this.1, rfl, by show 0 ≤ 6; decide, this.2⟩
theorem OdV.un {g : Addr → Prop} (h : ∀ a, g a → f a) : ∀ {d : PyData} {v : V}, OdV f H v d → OdV g H v d := fun {d v} => OdV.rec (motive_1 := fun v d _ => OdV g H v d) (motive_2 := fun vs ds _ => OdAll g H vs ds) .non .bl .int .str (fun h1 n _ ih => .lst h1 (fun z => n (h _ z)) ih) (fun h1 _ ih => .tup h1 ih) .nil (fun _ _ i1 i2 => .cons i1 i2)
theorem OdAll.un {g : Addr → Prop} (h : ∀ a, g a → f a) : ∀ {ds : List PyData} {vs : List V}, OdAll f H vs ds → OdAll g H vs ds
  | [], _, x => by cases x; exact .nil
  | _ :: _, _, x => by cases x with | cons h1 h2 => exact .cons (OdV.un h h1) (OdAll.un h h2)
end Od
namespace Lr
open PySem PySem.Spec PyProof.Rows L2 GxR Nw Dr Kp Ct
/-! ### rows, ladders, their claims -/
inductive Rw where
  | book (n : Nat)
  | cut (i j : Nat) (k : Int)
/-- the row's parts -/
def Rw.vs : Rw → List V
  | .book n => [.str "book", .int (n : Nat)]
  | .cut i j k => [.str "cut", .int (i : Nat), .int (j : Nat), .int k]
def RowAt (H : Hp) (v : V) (r : Rw) : Prop := ∃ a, v = .ref a ∧ H a = some (.tup r.vs)
variable {F : Addr → Prop} {H H' : Hp}
theorem RowAt.ke {v : V} {r : Rw} (h : RowAt H v r) (k : Ke F H H') : RowAt H' v r := by
  obtain ⟨a, e, h⟩ := h
  exact ⟨a, e, k.tups _ _ h⟩
/-- items told one by one -/
def All2 {α β : Type} (R : α → β → Prop) (xs : List α) (ys : List β) : Prop := xs.length = ys.length ∧ ∀ (i : Nat) (x : α) (y : β), xs[i]? = some x → ys[i]? = some y → R x y
theorem All2.imp {α β : Type} {R S : α → β → Prop} {xs : List α} {ys : List β} (h : All2 R xs ys) (f : ∀ x y, R x y → S x y) : All2 S xs ys := ⟨h.1, fun i x y h1 h2 => f x y (h.2 i x y h1 h2)⟩
theorem All2.nil {α β : Type} {R : α → β → Prop} : All2 R ([] : List α) ([] : List β) := ⟨rfl, fun i x y h => by cases h⟩
theorem All2.snoc {α β : Type} {R : α → β → Prop} {xs : List α} {ys : List β} {x : α} {y : β} (h : All2 R xs ys) (r : R x y) : All2 R (xs ++ [x]) (ys ++ [y]) := by
  refine ⟨by rw [List.length_append, List.length_append, h.1]; rfl, fun i x' y' h1 h2 => ?_⟩
  by_cases hi : i < xs.length
  · rw [List.getElem?_append_left hi] at h1
    rw [List.getElem?_append_left (by rw [← h.1]; exact hi)] at h2
    exact h.2 i x' y' h1 h2
  · have e : i = xs.length := by
      have := (List.getElem?_eq_some_iff.mp h1).1
      rw [List.length_append, List.length_singleton] at this
      omega
    subst e
    rw [List.getElem?_append_right (Nat.le_refl _), Nat.sub_self] at h1
    rw [List.getElem?_append_right (by rw [h.1]; exact Nat.le_refl _), show xs.length - ys.length = 0 by rw [h.1]; exact Nat.sub_self _] at h2
    cases h1
    cases h2
    exact r
theorem All2.cat {α β : Type} {R : α → β → Prop} {xs us : List α} {ys ws : List β} (h : All2 R xs ys) (g : All2 R us ws) : All2 R (xs ++ us) (ys ++ ws) := by
  refine ⟨by rw [List.length_append, List.length_append, h.1, g.1], fun i x y h1 h2 => ?_⟩
  by_cases hi : i < xs.length
  · rw [List.getElem?_append_left hi] at h1
    rw [List.getElem?_append_left (by rw [← h.1]; exact hi)] at h2
    exact h.2 i x y h1 h2
  · rw [List.getElem?_append_right (by omega)] at h1
    rw [List.getElem?_append_right (by rw [← h.1]; omega), ← h.1] at h2
    exact g.2 _ x y h1 h2
theorem All2.take {α β : Type} {R : α → β → Prop} {xs : List α} {ys : List β} (h : All2 R xs ys) (n : Nat) : All2 R (xs.take n) (ys.take n) := by
  refine ⟨by rw [List.length_take, List.length_take, h.1], fun i x y h1 h2 => ?_⟩
  rw [List.getElem?_take] at h1 h2
  by_cases l : i < n
  · rw [if_pos l] at h1 h2
    exact h.2 i x y h1 h2
  · rw [if_neg l] at h1
    cases h1
theorem All2.at {α β : Type} {R : α → β → Prop} {xs : List α} {ys : List β} (h : All2 R xs ys) {i : Nat} {x : α} (e : xs[i]? = some x) : ∃ y, ys[i]? = some y ∧ R x y := by
  have l := (List.getElem?_eq_some_iff.mp e).1
  have l2 : i < ys.length := by rw [← h.1]; exact l
  exact ⟨ys[i], List.getElem?_eq_getElem l2, h.2 i x _ e (List.getElem?_eq_getElem l2)⟩
theorem All2.atR {α β : Type} {R : α → β → Prop} {xs : List α} {ys : List β} (h : All2 R xs ys) {i : Nat} {y : β} (e : ys[i]? = some y) : ∃ x, xs[i]? = some x ∧ R x y := by
  have l := (List.getElem?_eq_some_iff.mp e).1
  have l2 : i < xs.length := by rw [h.1]; exact l
  exact ⟨xs[i], List.getElem?_eq_getElem l2, h.2 i _ y (List.getElem?_eq_getElem l2) e⟩
/-- a list of claims, a list of rows -/
def ClL (H : Hp) (L : Addr) (cls : List (List Int)) : Prop := ∃ vs, H L = some (.lst vs) ∧ All2 (TupI H) vs cls
def RwL (H : Hp) (L : Addr) (rows : List Rw) : Prop := ∃ vs, H L = some (.lst vs) ∧ All2 (RowAt H) vs rows
theorem ClL.ke {L : Addr} {cls : List (List Int)} (h : ClL H L cls) (k : Ke F H H') (n : ¬ F L) : ClL H' L cls := by
  obtain ⟨vs, h1, h2⟩ := h
  exact ⟨vs, k.lst h1 n, h2.imp fun x y r => r.ke k⟩
theorem RwL.ke {L : Addr} {rows : List Rw} (h : RwL H L rows) (k : Ke F H H') (n : ¬ F L) : RwL H' L rows := by
  obtain ⟨vs, h1, h2⟩ := h
  exact ⟨vs, k.lst h1 n, h2.imp fun x y r => r.ke k⟩
theorem bk_all {v : V} {css : List (List Int)} (h : Bk H v css) : ∃ a vs, v = .ref a ∧ H a = some (.tup vs) ∧ All2 (TupI H) vs css := by
  obtain ⟨a, vs, e, h, l, t⟩ := h
  exact ⟨a, vs, e, h, l, t⟩
/-- the claim of a row behind rows with the claims cls -/
def RowCl (css cls : List (List Int)) : Rw → List Int → Prop
  | .book n, c => css[n]? = some c
  | .cut i j k, c => ∃ x y, cls[i]? = some x ∧ cls[j]? = some y ∧ Comes x y k c
/-- a ladder by the book, with its claims -/
def Lad (css : List (List Int)) (rows : List Rw) (cls : List (List Int)) : Prop := rows.length = cls.length ∧ ∀ (i : Nat) (r : Rw) (c : List Int), rows[i]? = some r → cls[i]? = some c → RowCl css (cls.take i) r c
theorem Lad.nil (css : List (List Int)) : Lad css [] [] := ⟨rfl, fun i r c h => by cases h⟩
theorem Lad.snoc {css cls : List (List Int)} {rows : List Rw} {r : Rw} {c : List Int} (h : Lad css rows cls) (hr : RowCl css cls r c) : Lad css (rows ++ [r]) (cls ++ [c]) := by
  refine ⟨by rw [List.length_append, List.length_append, h.1]; rfl, fun i r' c' h1 h2 => ?_⟩
  by_cases hi : i < rows.length
  · rw [List.getElem?_append_left hi] at h1
    rw [List.getElem?_append_left (by rw [← h.1]; exact hi)] at h2
    rw [List.take_append_of_le_length (by have := h.1; omega)]
    exact h.2 i r' c' h1 h2
  · have e : i = rows.length := by
      have := (List.getElem?_eq_some_iff.mp h1).1
      rw [List.length_append, List.length_singleton] at this
      omega
    subst e
    rw [List.getElem?_append_right (Nat.le_refl _), Nat.sub_self] at h1
    rw [List.getElem?_append_right (by rw [h.1]; exact Nat.le_refl _), show rows.length - cls.length = 0 by rw [h.1]; exact Nat.sub_self _] at h2
    cases h1
    cases h2
    rw [h.1, List.take_append_of_le_length (Nat.le_refl _), List.take_length]
    exact hr
theorem Lad.take {css cls : List (List Int)} {rows : List Rw} (h : Lad css rows cls) (n : Nat) : Lad css (rows.take n) (cls.take n) := by
  refine ⟨by rw [List.length_take, List.length_take, h.1], fun i r c h1 h2 => ?_⟩
  rw [List.getElem?_take] at h1 h2
  by_cases l : i < n
  · rw [if_pos l] at h1 h2
    rw [List.take_take, Nat.min_eq_left (by omega)]
    exact h.2 i r c h1 h2
  · rw [if_neg l] at h1
    cases h1
/-- what any two tellings of a row's claim tell is one -/
theorem RowCl.one {css cls : List (List Int)} {r : Rw} {c d : List Int} (a : RowCl css cls r c) (b : RowCl css cls r d) : c = d := by
  cases r with
  | book n => exact Option.some.inj (a.symm.trans b)
  | cut i j k =>
    obtain ⟨x, y, h1, h2, h3⟩ := a
    obtain ⟨x', y', h1', h2', h3'⟩ := b
    cases h1.symm.trans h1'
    cases h2.symm.trans h2'
    exact h3.one h3'
theorem RowCl.parts {css cls : List (List Int)} {i j : Nat} {k : Int} {c : List Int} (a : RowCl css cls (.cut i j k) c) : i < cls.length ∧ j < cls.length := by
  obtain ⟨x, y, h1, h2, _⟩ := a
  exact ⟨(List.getElem?_eq_some_iff.mp h1).1, (List.getElem?_eq_some_iff.mp h2).1⟩
theorem len_sub : ∀ (l m : List Int), l.Nodup → (∀ x ∈ l, x ∈ m) → l.length ≤ m.length
  | [], _, _, _ => Nat.zero_le _
  | x :: r, m, nd, h => by
    obtain ⟨h1, h2⟩ := List.nodup_cons.mp nd
    have ih := len_sub r (m.erase x) h2 fun y hy => (List.mem_erase_of_ne (fun e => h1 (by rw [← e]; exact hy))).mpr (h y (List.mem_cons_of_mem _ hy))
    have e := List.length_erase_of_mem (h x List.mem_cons_self)
    have p := List.length_pos_of_mem (h x List.mem_cons_self)
    rw [List.length_cons]
    omega
/-- rising, from -8 to 8, not 0, none opposite: a claim -/
theorem cl_mk {ns : List Int} (up : ns.Pairwise (· < ·)) (says : ∀ k ∈ ns, k ≠ 0 ∧ -8 ≤ k ∧ k ≤ 8) (opp : ∀ k ∈ ns, -k ∉ ns) : IsCl ns := by
  refine ⟨up, says, opp, ?_⟩
  have nd : (ns.map fun s => (s.natAbs : Int)).Nodup := List.pairwise_map.mpr (up.imp_of_mem fun {a b} ha hb hab e => by
    have : a = b ∨ a = -b := by omega
    rcases this with z | z
    · omega
    · have e2 : -b = a := by omega
      exact opp b hb (by rw [e2]; exact ha))
  have := len_sub _ [1, 2, 3, 4, 5, 6, 7, 8] nd fun x hx => by
    obtain ⟨s, hs, rfl⟩ := List.mem_map.mp hx
    have := says s hs
    simp only [List.mem_cons, List.not_mem_nil, or_false]
    omega
  rw [List.length_map] at this
  exact this
theorem cl_comes {cs ds ns : List Int} {k : Int} (hc : IsCl cs) (hd : IsCl ds) (h : Comes cs ds k ns) : IsCl ns := by
  obtain ⟨_, _, _, no, up, me⟩ := h
  refine cl_mk up (fun j hj => ?_) fun j hj hn => no j ((me j).mp hj) ((me (-j)).mp hn)
  rcases ((me j).mp hj).1 with z | z
  · exact hc.says j z
  · exact hd.says j z
theorem RowCl.isCl {css cls : List (List Int)} {r : Rw} {c : List Int} (hb : ∀ c ∈ css, IsCl c) (hc : ∀ c ∈ cls, IsCl c) (h : RowCl css cls r c) : IsCl c := by
  cases r with
  | book n => exact hb c (List.mem_of_getElem? h)
  | cut i j k =>
    obtain ⟨x, y, h1, h2, h3⟩ := h
    exact cl_comes (hc x (List.mem_of_getElem? h1)) (hc y (List.mem_of_getElem? h2)) h3
theorem Lad.isCl {css cls : List (List Int)} {rows : List Rw} (hb : ∀ c ∈ css, IsCl c) (h : Lad css rows cls) : ∀ c ∈ cls, IsCl c := by
  have key : ∀ n, n ≤ cls.length → ∀ c ∈ cls.take n, IsCl c := by
    intro n
    induction n with
    | zero => exact fun _ c hc => by simp at hc
    | succ n ih =>
      intro hn c hc
      rw [List.take_add_one] at hc
      rcases List.mem_append.mp hc with hc | hc
      · exact ih (by omega) c hc
      · have ln : n < cls.length := by omega
        have lr : n < rows.length := by rw [h.1]; exact ln
        rw [List.getElem?_eq_getElem ln] at hc
        obtain rfl : c = cls[n] := List.mem_singleton.mp hc
        exact (h.2 n rows[n] cls[n] (List.getElem?_eq_getElem lr) (List.getElem?_eq_getElem ln)).isCl hb (ih (by omega))
  have := key cls.length (Nat.le_refl _)
  rwa [List.take_length] at this
/-! ### min, max of a tuple of two whole numbers -/
section
variable {X : Cx}
def rT2 (K : PySem.W.Frag) (f : Int → Int → Int) : List V → Hp → VK → Prop := fun vs H Q => ∃ (a : Addr) (i j : Int), vs = [V.ref a] ∧ SqT K H a [.int i, .int j] ∧ Q (.int (f i j)) H
theorem two_of {its : List Value} {i j : Int} (r : Vals [V.int i, V.int j] its) : IntsAre its [i, j] := by
  obtain ⟨t, u, rfl⟩ := Vals.int2 r
  exact .cons _ _ (.cons _ _ .nil)
theorem cr_minT (hc : X.calm = true) (hu : X.A.units + 70 < cLine) : CallR X (.builtin "min") (rT2 X.K fun i j => if j < i then j else i) := by
  intro pins s σ H vs us Q I r h
  obtain ⟨a, i, j, rfl, hs, q⟩ := h
  obtain ⟨its, rv, hl, _⟩ := I.tuple hs
  rw [Vals.ref1 r]
  refine PySem.W.min_tuple_datum (α := Int) (x := i) (xs := [j]) (I.ok.hd hc) hl (PySem.W.HoldAll.of_ints (two_of rv)) (by show X.A.units + 1 + 0 < cLine; omega) fun n v h' tk hv hh hk => ?_
  have e : PySem.W.minOf i [j] = if j < i then j else i := by
    show (if decide (j < i) = true then j else i) = _
    by_cases z : j < i
    · rw [if_pos z, if_pos (decide_eq_true z)]
    · rw [if_neg z, if_neg (by rw [decide_eq_false z]; exact Bool.false_ne_true)]
  rw [e] at hh
  obtain ⟨as, hh⟩ := hh
  cases hh
  exact ⟨.int _, H, I.kept hk, ⟨_, rfl⟩, q⟩
theorem cr_maxT (hc : X.calm = true) (hu : X.A.units + 70 < cLine) : CallR X (.builtin "max") (rT2 X.K fun i j => if i < j then j else i) := by
  intro pins s σ H vs us Q I r h
  obtain ⟨a, i, j, rfl, hs, q⟩ := h
  obtain ⟨its, rv, hl, _⟩ := I.tuple hs
  rw [Vals.ref1 r]
  refine PySem.W.max_tuple_datum (α := Int) (x := i) (xs := [j]) (I.ok.hd hc) hl (PySem.W.HoldAll.of_ints (two_of rv)) (by show X.A.units + 1 + 0 < cLine; omega) fun n v h' tk hv hh hk => ?_
  have e : PySem.W.maxOf i [j] = if i < j then j else i := by
    show (if decide (i < j) = true then j else i) = _
    by_cases z : i < j
    · rw [if_pos z, if_pos (decide_eq_true z)]
    · rw [if_neg z, if_neg (by rw [decide_eq_false z]; exact Bool.false_ne_true)]
  rw [e] at hh
  obtain ⟨as, hh⟩ := hh
  cases hh
  exact ⟨.int _, H, I.kept hk, ⟨_, rfl⟩, q⟩
end
end Lr
namespace Lp
open PySem PySem.Spec PyProof.Rows L2 GxR Nw Dr Kp Se Ct Lr
structure Zp (mg : Str → Option Value) : Prop where
  z_len : mg "len" = none
  z_isinstance : mg "isinstance" = none
  z_tuple : mg "tuple" = none
  z_list : mg "list" = none
  z_max : mg "max" = none
theorem TupI.wr {H : Hp} {D : Addr} {x : V} {ns : List Int} {ys : List V} {o : HO} (h : TupI H x ns) (hD : H D = some (.lst ys)) : TupI (upd H D o) x ns := by
  obtain ⟨a, e, h⟩ := h
  refine ⟨a, e, ?_⟩
  rw [upd_ne (fun z => by rw [z, hD] at h; cases h)]
  exact h
theorem RowAt.wr {H : Hp} {D : Addr} {x : V} {r : Rw} {ys : List V} {o : HO} (h : RowAt H x r) (hD : H D = some (.lst ys)) : RowAt (upd H D o) x r := by
  obtain ⟨a, e, h⟩ := h
  refine ⟨a, e, ?_⟩
  rw [upd_ne (fun z => by rw [z, hD] at h; cases h)]
  exact h
theorem cl_snoc {H : Hp} {D : Addr} {vs : List V} {cls : List (List Int)} {x : V} {c : List Int} (hD : H D = some (.lst vs)) (h : All2 (TupI H) vs cls) (hx : TupI H x c) : ClL (upd H D (.lst (vs ++ [x]))) D (cls ++ [c]) :=
  ⟨_, upd_same, (h.imp fun _ _ r => TupI.wr r hD).snoc (TupI.wr hx hD)⟩
theorem take_snoc {α : Type} {l : List α} {i : Nat} {x : α} (h : l[i]? = some x) : l.take (i + 1) = l.take i ++ [x] := by
  rw [List.take_add_one, h]
  rfl
theorem cut_all {xs : List V} {n : Nat} (h : xs.length ≤ n) : cutV xs none (some (n : Int)) = xs := by
  unfold cutV
  rw [HT.sIx_none, HT.sIx_nat, List.drop_zero, Nat.sub_zero, Nat.min_eq_right h, List.take_length]
section
variable {P : Program} {w : World} {K : PySem.W.Frag} {mg : Str → Option Value} {base : Heap}
abbrev sNum : Stmt := topS 19
theorem scNum : FnScope ["thing", "many"] ["thing", "many"] (defScope sNum) := ⟨rfl, rfl, rfl, by decide +kernel, rfl, by decide +kernel, by decide +kernel⟩
def spNum : Sp := fun vs H Q _ => ∃ n m : Int, vs = [.int n, .int m] ∧ Q (.bl (decide (0 ≤ n) && decide (n < m))) H
theorem ok_num {f fW : Addr} {fd fdW : FuncData} {k : Nat} (F : Fun K "is_number_of" "is_number_of" sNum f fd) (FW : Fun K "is_whole" "is_whole" sWho fW fdW) (bW : Binds K fdW ["thing"] []) (gW : mg "is_whole" = some (.ref fW)) (GW : FnOk P w K mg base CX0 1 fW fdW ["thing"] spWho) :
    FnOk P w K mg base CX0 (k + 2) f fd ["thing", "many"] spNum := by
  refine F.ok scNum (fun vs H Q E h => ?_) (fun cdv A outer s H vs Q E hr h => ?_)
  · obtain ⟨n, m, rfl, _⟩ := h
    rfl
  · obtain ⟨n, m, rfl, q⟩ := h
    have hr1 : Room 1 _ := hr.mono (by omega)
    refine ⟨_, (pss_one (ps_ret (pe_and (pe_call GW hr1 (by rfl) gW FW.kp bW .nil pass0 (pa_cons (pv 0) pa_nil)) (pe_one (pe_chain op_le op_lt pe_int (pv 0) (pv 1)))))), ?_⟩
    refine ⟨_, rfl, n, rfl, _, rfl, ?_⟩
    refine ⟨_, rfl, 0, _, rfl, rfl, decide (0 ≤ n), rfl, ?_⟩
    cases e1 : decide (0 ≤ n) with
    | false =>
      rw [e1] at q
      exact q
    | true =>
      rw [e1] at q
      exact ⟨_, rfl, _, _, rfl, rfl, q⟩
abbrev sRow : Stmt := topS 20
theorem scRow : FnScope ["book", "claims", "row"] ["book", "claims", "row"] (defScope sRow) := ⟨rfl, rfl, rfl, by decide +kernel, rfl, by decide +kernel, by decide +kernel⟩
def spRow (Po : Addr) : Sp := fun vs H Q _ => ∃ (b v : V) (L : Addr) (css cls : List (List Int)) (r : Rw), vs = [b, .ref L, v] ∧ Bk H b css ∧ ClL H L cls ∧ RowAt H v r ∧ (∀ c ∈ css, IsCl c) ∧ (∀ c ∈ cls, IsCl c) ∧ TabG H Po ∧
  (∀ H', Ke Nof H H' → (∀ c, ¬ RowCl css cls r c) → Q .non H') ∧ ∀ (c : List Int) (p : Addr) (H' : Hp), Ke Nof H H' → RowCl css cls r c → H' p = some (.tup (c.map V.int)) → Q (.ref p) H'
theorem num_at {α : Type} {l : List α} {n : Nat} (h : (decide ((0 : Int) ≤ (n : Int)) && decide ((n : Int) < (l.length : Int))) = true) : n < l.length := by
  rw [Bool.and_eq_true] at h
  have := of_decide_eq_true h.2
  omega
theorem num_no {α : Type} {l : List α} {n : Nat} (h : ¬ (decide ((0 : Int) ≤ (n : Int)) && decide ((n : Int) < (l.length : Int))) = true) : l.length ≤ n := by
  rw [Bool.and_eq_true] at h
  by_cases z : n < l.length
  · exact absurd ⟨decide_eq_true (by omega), decide_eq_true (by omega)⟩ h
  · omega
theorem ok_row {f fN fC Po : Addr} {fd fdN fdC : FuncData} {k : Nat} (F : Fun K "claim_of_row" "claim_of_row" sRow f fd) (T : Zp mg) (FN : Fun K "is_number_of" "is_number_of" sNum fN fdN) (bN : Binds K fdN ["thing", "many"] []) (gN : mg "is_number_of" = some (.ref fN)) (GN : FnOk P w K mg base CX0 2 fN fdN ["thing", "many"] spNum)
    (FC : Fun K "cut_or_none" "cut_or_none" sCon fC fdC) (bC : Binds K fdC ["one", "other", "k"] []) (gC : mg "cut_or_none" = some (.ref fC)) (GC : FnOk P w K mg base CX0 4 fC fdC ["one", "other", "k"] (spCon Po)) :
    FnOk P w K mg base CX0 (k + 5) f fd ["book", "claims", "row"] (spRow Po) := by
  refine F.ok scRow (fun vs H Q E h => ?_) (fun cdv A outer s H vs Q E hr h => ?_)
  · obtain ⟨b, v, L, css, cls, r, rfl, _⟩ := h
    rfl
  · obtain ⟨b, v, L, css, cls, r, rfl, hb, ⟨lvs, hL, aL⟩, ⟨a, rfl, ha⟩, ib, ic, tg, q1, q2⟩ := h
    have hr2 : Room 2 _ := hr.mono (by omega)
    have hr4 : Room 4 _ := hr.mono (by omega)
    refine ⟨_, (pss_cons (ps_if (pt_not (pt_val (pe_callB call_isi (by rfl) T.z_isinstance (by decide +kernel) (pa_cons (pv 2) (pa_cons (pe_bltn (v := .ty "tuple") (u := .type "tuple") (by rfl) T.z_tuple (by decide +kernel) rfl) pa_nil))))) pss_never pss_nil)
      (pss_cons (ps_if (PW.pt (pw_and (pt_cmpR op_eq (pe_callB call_len_seq (by rfl) T.z_len (by decide +kernel) (pa_cons (pv 2) pa_nil)) pe_int (nomark _)) (pw_and1 (pt_cmpR op_eq (pe_ix ix_tup (pv 2) pe_int (fun _ _ => rfl)) pe_str (nomark _))))) (pss_one (ps_ret (pe_ifExp (pt_val (pe_call GN hr2 (by rfl) gN FN.kp bN .nil pass0 (pa_cons (pe_ix ix_tup (pv 2) pe_int (fun _ _ => rfl)) (pa_cons (pe_callB call_len_seq (by rfl) T.z_len (by decide +kernel) (pa_cons (pv 0) pa_nil)) pa_nil)))) (pe_ix ix_tup (pv 0) (pe_ix ix_tup (pv 2) pe_int (fun _ _ => rfl)) (fun _ _ => rfl)) pe_non))) pss_nil)
      (pss_cons (ps_if (PW.pt (pw_and (pt_cmpR op_eq (pe_callB call_len_seq (by rfl) T.z_len (by decide +kernel) (pa_cons (pv 2) pa_nil)) pe_int (nomark _)) (pw_and1 (pt_cmpR op_eq (pe_ix ix_tup (pv 2) pe_int (fun _ _ => rfl)) pe_str (nomark _))))) (pss_one (ps_if (PW.pt (pw_and (pt_val (pe_call GN hr2 (by rfl) gN FN.kp bN .nil pass0 (pa_cons (pe_ix ix_tup (pv 2) pe_int (fun _ _ => rfl)) (pa_cons (pe_callB call_len_seq (by rfl) T.z_len (by decide +kernel) (pa_cons (pv 1) pa_nil)) pa_nil)))) (pw_and1 (pt_val (pe_call GN hr2 (by rfl) gN FN.kp bN .nil pass0 (pa_cons (pe_ix ix_tup (pv 2) pe_int (fun _ _ => rfl)) (pa_cons (pe_callB call_len_seq (by rfl) T.z_len (by decide +kernel) (pa_cons (pv 1) pa_nil)) pa_nil))))))) (pss_one (ps_ret (pe_call GC hr4 (by rfl) gC FC.kp bC .nil pass0 (pa_cons (pe_ix ix_list (pv 1) (pe_ix ix_tup (pv 2) pe_int (fun _ _ => rfl)) (fun _ _ => rfl)) (pa_cons (pe_ix ix_list (pv 1) (pe_ix ix_tup (pv 2) pe_int (fun _ _ => rfl)) (fun _ _ => rfl)) (pa_cons (pe_ix ix_tup (pv 2) pe_int (fun _ _ => rfl)) pa_nil)))))) pss_nil)) pss_nil)
      (pss_one (ps_ret pe_non))))), ?_⟩
    obtain ⟨b, bvs, rfl, hbt, aB⟩ := bk_all hb
    refine ⟨_, rfl, .ref a, .ty "tuple", .type "tuple", .type "tuple", true, rfl, .ty _, .base (.tup ha), kit_ty (by decide +kernel), _, rfl, ?_⟩
    cases r with
    | book n =>
      refine ⟨_, rfl, a, _, rfl, .inr (.of ha), rfl, true, rfl, ?_⟩
      refine ⟨_, rfl, a, _, 0, .str "book", rfl, rfl, .of ha, rfl, rfl, true, by simp, ?_⟩
      refine ⟨_, rfl, a, _, 1, .int (n : Nat), rfl, rfl, .of ha, rfl, _, rfl, b, _, rfl, .inr (.of hbt), _, _, rfl, _, rfl, ite2 (fun y => ?_) (fun y => ?_)⟩
      · have lt := num_at y
        obtain ⟨c, hc, p, e, hp⟩ := aB.at (List.getElem?_eq_getElem lt)
        refine ⟨_, rfl, _, rfl, a, _, 1, .int (n : Nat), rfl, rfl, .of ha, rfl, b, bvs, _, .ref p, rfl, rfl, .of hbt, at_of (j := n) rfl (by rw [List.getElem?_eq_getElem lt, e]), ?_⟩
        exact q2 c p H (.refl _ _) hc hp
      · have ge := num_no y
        refine q1 H (.refl _ _) fun c hc => ?_
        have := (List.getElem?_eq_some_iff.mp hc).1
        have := aB.1
        omega
    | cut i j k =>
      refine ⟨_, rfl, a, _, rfl, .inr (.of ha), rfl, false, rfl, ?_⟩
      refine ⟨_, rfl, a, _, rfl, .inr (.of ha), rfl, true, rfl, ?_⟩
      refine ⟨_, rfl, a, _, 0, .str "cut", rfl, rfl, .of ha, rfl, rfl, true, by simp, ?_⟩
      refine ⟨_, rfl, a, _, 1, .int (i : Nat), rfl, rfl, .of ha, rfl, _, rfl, L, _, rfl, .inl (.of hL), _, _, rfl, _, rfl, ite2 (fun y => ?_) (fun y => ?_)⟩
      · have li := num_at y
        refine ⟨_, rfl, a, _, 2, .int (j : Nat), rfl, rfl, .of ha, rfl, _, rfl, L, _, rfl, .inl (.of hL), _, _, rfl, _, rfl, ite2 (fun y => ?_) (fun y => ?_)⟩
        · have lj := num_at y
          obtain ⟨ci, hci, ti⟩ := aL.at (List.getElem?_eq_getElem li)
          obtain ⟨cj, hcj, tj⟩ := aL.at (List.getElem?_eq_getElem lj)
          have i1 := ic ci (List.mem_of_getElem? hci)
          have i2 := ic cj (List.mem_of_getElem? hcj)
          have z1 := i1.len
          have z2 := i2.len
          refine ⟨_, rfl, _, rfl, a, _, 1, .int (i : Nat), rfl, rfl, .of ha, rfl, L, lvs, _, lvs[i], rfl, rfl, .of hL, at_of (j := i) rfl (List.getElem?_eq_getElem li), ?_⟩
          refine ⟨_, rfl, _, rfl, a, _, 2, .int (j : Nat), rfl, rfl, .of ha, rfl, L, lvs, _, lvs[j], rfl, rfl, .of hL, at_of (j := j) rfl (List.getElem?_eq_getElem lj), ?_⟩
          refine ⟨_, rfl, a, _, 3, .int k, rfl, rfl, .of ha, rfl, lvs[i], lvs[j], k, ci, cj, rfl, ti, tj, by omega, by omega, tg, fun H' ke no => ?_, fun ns p H' ke m o up me hp => ?_⟩
          · refine q1 H' ke fun c hc => ?_
            obtain ⟨x, y', h1, h2, h3⟩ := hc
            cases hci.symm.trans h1
            cases hcj.symm.trans h2
            exact h3.no (nocome_of i1 i2 no)
          · exact q2 ns p H' ke ⟨ci, cj, hci, hcj, comes_of i1 i2 m o up me⟩ hp
        · have ge := num_no y
          exact q1 H (.refl _ _) fun c hc => by
            have := hc.parts
            have := aL.1
            omega
      · have ge := num_no y
        exact q1 H (.refl _ _) fun c hc => by
          have := hc.parts
          have := aL.1
          omega
/-! ### ladders -/
/-- a book and a ladder by it -/
structure BL (H : Hp) (b : V) (L : Addr) (css : List (List Int)) (rows : List Rw) (cls : List (List Int)) : Prop where
  bk : Bk H b css
  rw : RwL H L rows
  ld : Lad css rows cls
  ib : ∀ c ∈ css, IsCl c
  le : rows.length ≤ 200
theorem BL.ke {F : Addr → Prop} {H H' : Hp} {b : V} {L : Addr} {css cls : List (List Int)} {rows : List Rw} (x : BL H b L css rows cls) (k : Ke F H H') (n : ¬ F L) : BL H' b L css rows cls := ⟨x.bk.ke k, x.rw.ke k n, x.ld, x.ib, x.le⟩
theorem BL.ic {H : Hp} {b : V} {L : Addr} {css cls : List (List Int)} {rows : List Rw} (x : BL H b L css rows cls) : ∀ c ∈ cls, IsCl c := x.ld.isCl x.ib
end
end Lp
namespace Fo
open PySem PySem.Spec PyProof.Rows L2 GxR Nw Dr Kp
/-! ### what held says force: falls and stands do not hang on the order of the steps -/
theorem in_ints (k : Int) : ∀ cs : List Int, inV (.int k) (cs.map V.int) = true ↔ k ∈ cs
  | [] => by
    constructor
    · intro h
      cases h
    · intro h
      cases h
  | c :: r => by
    have ih := in_ints k r
    show (eqV (.int c) (.int k) || inV (.int k) (r.map V.int)) = true ↔ _
    rw [Bool.or_eq_true, ih, List.mem_cons]
    have e : eqV (.int c) (.int k) = true ↔ k = c := by
      show (c == k) = true ↔ k = c
      rw [beq_iff_eq]
      exact eq_comm
    rw [e]
/-- what is left of a claim where these are held -/
def left (cs held : List Int) : List Int := cs.filter fun s => !inV (.int (-s)) (held.map V.int)
theorem mem_left {cs held : List Int} {x : Int} : x ∈ left cs held ↔ x ∈ cs ∧ -x ∉ held := by
  unfold left
  rw [List.mem_filter, Bool.not_eq_true', Bool.eq_false_iff]
  exact ⟨fun ⟨a, b⟩ => ⟨a, fun z => b ((in_ints _ _).mpr z)⟩, fun ⟨a, b⟩ => ⟨a, fun z => b ((in_ints _ _).mp z)⟩⟩
theorem left_nil {cs held : List Int} : left cs held = [] ↔ ∀ y ∈ cs, -y ∈ held := by
  constructor
  · intro h y hy
    exact Classical.byContradiction fun z => by
      have := mem_left.mpr ⟨hy, z⟩
      rw [h] at this
      exact nomatch this
  · intro h
    exact List.eq_nil_iff_forall_not_mem.mpr fun x hx => (mem_left.mp hx).2 (h x (mem_left.mp hx).1)
/-- says: none twice, from -8 to 8 -/
structure Sy (cs : List Int) : Prop where
  nd : cs.Nodup
  bd : ∀ s ∈ cs, -8 ≤ s ∧ s ≤ 8
theorem sub_len : ∀ {xs L : List Int}, xs.Nodup → (∀ x ∈ xs, x ∈ L) → xs.length ≤ L.length
  | [], _, _, _ => Nat.zero_le _
  | x :: r, L, nd, h => by
    obtain ⟨n1, n2⟩ := List.nodup_cons.mp nd
    have m := h x List.mem_cons_self
    have ih := sub_len (xs := r) (L := L.erase x) n2 fun y hy => (List.mem_erase_of_ne fun e => n1 (by rw [← e]; exact hy)).mpr (h y (List.mem_cons_of_mem _ hy))
    rw [List.length_erase_of_mem m] at ih
    have := List.length_pos_of_mem m
    rw [List.length_cons]
    omega
theorem Sy.len {cs : List Int} (h : Sy cs) : cs.length ≤ 17 := by
  have := sub_len (L := (List.range 17).map fun i => ((i : Nat) : Int) - 8) h.nd fun x hx => List.mem_map.mpr ⟨(x + 8).toNat, List.mem_range.mpr (by have := h.bd x hx; omega), by have := h.bd x hx; omega⟩
  rw [List.length_map, List.length_range] at this
  exact this
theorem Sy.of {cs : List Int} (h : IsCl cs) : Sy cs := ⟨h.up.imp fun {a b} z => by omega, fun s hs => (h.says s hs).2⟩
/-- the claim forces x -/
def Forces (cs held : List Int) (x : Int) : Prop := left cs held = [x] ∧ x ∉ held
inductive Der (css : List (List Int)) (says : List Int) : Int → Prop where
  | base {s : Int} : s ∈ says → Der css says s
  | step {cs : List Int} {x : Int} : cs ∈ css → x ∈ cs → (∀ y ∈ cs, y ≠ x → Der css says (-y)) → Der css says x
def Fall (css : List (List Int)) (says : List Int) : Prop := ∃ cs ∈ css, ∀ y ∈ cs, Der css says (-y)
def Stand (css : List (List Int)) (held : List Int) : Prop := ∀ cs ∈ css, left cs held ≠ [] ∧ ∀ x, ¬ Forces cs held x
variable {css : List (List Int)} {says held cs : List Int} {x : Int}
theorem Forces.mem (h : Forces cs held x) : x ∈ cs := (mem_left.mp (by rw [h.1]; exact List.mem_singleton.mpr rfl : x ∈ left cs held)).1
theorem der_of (d : ∀ y ∈ held, Der css says y) (hc : cs ∈ css) (h : Forces cs held x) : Der css says x :=
  .step hc h.mem fun y hy ne => d _ (Classical.byContradiction fun z => ne (by
    have := mem_left.mpr ⟨hy, z⟩
    rw [h.1] at this
    exact List.mem_singleton.mp this))
theorem fall_of (d : ∀ y ∈ held, Der css says y) (hc : cs ∈ css) (h : left cs held = []) : Fall css says := ⟨cs, hc, fun y hy => d _ (left_nil.mp h y hy)⟩
theorem one_of : ∀ {l : List Int} {x : Int}, l.Nodup → (∀ y ∈ l, y = x) → l ≠ [] → l = [x]
  | [], _, _, _, h => absurd rfl h
  | [a], x, _, h, _ => by rw [h a List.mem_cons_self]
  | a :: b :: r, x, nd, h, _ => by
    have e1 := h a List.mem_cons_self
    have e2 := h b (List.mem_cons_of_mem _ List.mem_cons_self)
    exact absurd (e1.trans e2.symm) (List.nodup_cons.mp nd |>.1 |> fun n e => n (e ▸ List.mem_cons_self))
theorem Stand.der (S : Stand css held) (nd : ∀ cs ∈ css, cs.Nodup) (b : ∀ s ∈ says, s ∈ held) {x : Int} (d : Der css says x) : x ∈ held := by
  induction d with
  | base h => exact b _ h
  | @step cs x hc hx _ ih =>
    obtain ⟨s1, s2⟩ := S cs hc
    have e := one_of (l := left cs held) (x := x) ((nd cs hc).filter _) (fun y hy => Classical.byContradiction fun z => (mem_left.mp hy).2 (ih y (mem_left.mp hy).1 z)) s1
    exact Classical.byContradiction fun z => s2 x ⟨e, z⟩
theorem Stand.no (S : Stand css held) (nd : ∀ cs ∈ css, cs.Nodup) (b : ∀ s ∈ says, s ∈ held) : ¬ Fall css says := fun ⟨cs, hc, h⟩ => (S cs hc).1 (left_nil.mpr fun y hy => S.der nd b (h y hy))
/-- steps, one behind the other -/
def StepsOk (css : List (List Int)) (says : List Int) (steps : List (Nat × Int)) : Prop := ∀ (i : Nat) (s : Nat × Int), steps[i]? = some s → ∃ cs, css[s.1]? = some cs ∧ Forces cs (says ++ (steps.take i).map (·.2)) s.2
theorem StepsOk.nil : StepsOk css says [] := fun i s h => by simp at h
theorem StepsOk.snoc {steps : List (Nat × Int)} {n : Nat} (h : StepsOk css says steps) (hc : css[n]? = some cs) (f : Forces cs (says ++ steps.map (·.2)) x) : StepsOk css says (steps ++ [(n, x)]) := by
  intro i s hs
  by_cases hi : i < steps.length
  · rw [List.getElem?_append_left hi] at hs
    rw [List.take_append_of_le_length (Nat.le_of_lt hi)]
    exact h i s hs
  · have e : i = steps.length := by
      have := (List.getElem?_eq_some_iff.mp hs).1
      rw [List.length_append, List.length_singleton] at this
      omega
    subst e
    rw [List.getElem?_append_right (Nat.le_refl _), Nat.sub_self] at hs
    cases hs
    rw [List.take_append_of_le_length (Nat.le_refl _), List.take_length]
    exact ⟨cs, hc, f⟩
theorem StepsOk.der {steps : List (Nat × Int)} (h : StepsOk css says steps) : ∀ n, ∀ y ∈ says ++ (steps.take n).map (·.2), Der css says y
  | 0, y, hy => .base (by simpa using hy)
  | n + 1, y, hy => by
    have ih := StepsOk.der h n
    cases e : steps[n]? with
    | none =>
      rw [List.take_add_one, e] at hy
      exact ih y (by simpa using hy)
    | some s =>
      rw [List.take_add_one, e, List.map_append, ← List.append_assoc] at hy
      rcases List.mem_append.mp hy with z | z
      · exact ih y z
      · obtain ⟨cs, hc, f⟩ := h n s e
        have : y = s.2 := by simpa using z
        rw [this]
        exact der_of ih (List.mem_of_getElem? hc) f
theorem StepsOk.all {steps : List (Nat × Int)} (h : StepsOk css says steps) : ∀ y ∈ says ++ steps.map (·.2), Der css says y := by
  have := h.der steps.length
  rw [List.take_length] at this
  exact this
theorem sy_snoc (h : Sy held) (hc : Sy cs) (f : Forces cs held x) : Sy (held ++ [x]) := by
  refine ⟨List.nodup_append.mpr ⟨h.nd, by simp, fun a ha b hb e => f.2 (by rw [← List.mem_singleton.mp hb, ← e]; exact ha)⟩, fun s hs => ?_⟩
  rcases List.mem_append.mp hs with z | z
  · exact h.bd s z
  · rw [List.mem_singleton.mp z]
    exact hc.bd x f.mem
end Fo
namespace PySem
/-! ### enumerate(a tuple) -/
set_option maxHeartbeats 2000000 in
theorem en_new (t : Addr) (its : Array Value) : Meets (Builtin.«enumerate.__new__» ⟨[.type "enumerate", .ref t], []⟩) (fun _ R s => s.heap.IsTuple t its ∧
    R (.ok (.ret (.ref (s.heap.push { cls := .type "tuple_iterator", data := .fields #[.ref t, .int 0 0] }).objs.size))) { s with heap := (s.heap.push { cls := .type "tuple_iterator", data := .fields #[.ref t, .int 0 0] }).push { cls := .type "enumerate", data := .fields #[.none, .bool false, .ref s.heap.objs.size, rawInt 0, .none, .none] } }) :=
  .of_wp fun prog w A R s z => by
    obtain ⟨hp, g, d, tk, os⟩ := s
    obtain ⟨ht, z⟩ := z
    have hsub := sub_enumerate
    have go : ∀ {A' : Around} {E : Value → Shared → Prop} {Q : Value → Shared → Prop}, Q (.ref hp.objs.size) ⟨hp.push { cls := .type "tuple_iterator", data := .fields #[.ref t, .int 0 0] }, g, d, tk, os⟩ → wpAny (model prog w) A' (pyIter (.ref t)) Q E ⟨hp, g, d, tk, os⟩ := fun q => wpAny_pyIter_tuple (s := ⟨hp, g, d, tk, os⟩) ht q
    wp_walk using go
    refine wpAny_stack_any fun st => wpAny_pure ?_
    split
    · rename_i c _ _ _ _ _
      cases (c == Value.type "enumerate") <;> (wp_walk using go; exact ⟨_, rfl, z⟩)
    · wp_walk using go; exact ⟨_, rfl, z⟩
theorem en_call {prog : Program} {w : World} {A : Around} {E : Value → Shared → Prop} {s : Shared} {t : Addr} {its : Array Value} {Q : Value → Shared → Prop} (ht : s.heap.IsTuple t its)
    (h : ∀ h', IsEnum h' (s.heap.objs.size + 1) s.heap.objs.size 0 .none → h'.IsTupleIter s.heap.objs.size t 0 → (∀ b o, s.heap.get? b = some o → h'.get? b = some o) → Q (.ref (s.heap.objs.size + 1)) { s with heap := h' }) :
    wpAny (model prog w) A (call (.type "enumerate") [.ref t]) Q E s := by
  refine callType_new F.called_enumerate (by decide) (F.typeCall_enumerate_1 _) (F.newCall_enumerate_1 _) (fun obj => F.args_object_init_2 obj _) F.entry_enumerate_new (en_new t its) ⟨ht, ?_⟩
  have hz : (s.heap.push { cls := .type "tuple_iterator", data := .fields #[.ref t, .int 0 0] }).objs.size = s.heap.objs.size + 1 := Heap.size_push ..
  show _ ∧ _
  rw [hz]
  have e1 := Heap.get?_push_size (s.heap.push { cls := .type "tuple_iterator", data := .fields #[.ref t, .int 0 0] }) (o := { cls := .type "enumerate", data := .fields #[.none, .bool false, .ref s.heap.objs.size, rawInt 0, .none, .none] }) rfl
  rw [hz] at e1
  exact ⟨⟨_, e1, rfl⟩, h _ e1 ⟨_, Heap.get?_push_of_some _ (Heap.get?_push_size _ rfl), rfl, rfl⟩ fun b o x => Heap.get?_push_of_some _ (Heap.get?_push_of_some _ x)⟩
end PySem
namespace En
open PySem PySem.Spec PyProof.Rows L2
theorem apart {h : Heap} {a e it : Addr} {vs : Array Value} {i : Nat} {old : Value} {c : Int} (p : h.IsTuple a vs) (hit : h.IsTupleIter it a i) (he : IsEnum h e it c old) : a ≠ it ∧ a ≠ e := by
  obtain ⟨o, e1, c1, _⟩ := p
  obtain ⟨o2, e2, c2, _⟩ := hit
  refine ⟨fun z => ?_, fun z => ?_⟩
  · rw [z, e2] at e1
    cases e1
    rw [c2] at c1
    simp at c1
  · have he : h.get? e = some _ := he
    rw [z, he] at e1
    cases e1
    simp at c1
/-- the tuple at a, each item in a new pair -/
def ItE (K : PySem.W.Frag) (a : Addr) : It :=
  ⟨fun i H => ∃ (xs : List V) (x : V), SqT K H a xs ∧ xs[i]? = some x, fun i H v H' => ∃ T x, v = .ref T ∧ H T = none ∧ H' = upd H T (.tup [.int (i : Nat), x]) ∧ ∀ xs, SqT K H a xs → xs[i]? = some x, fun i H => ∃ xs : List V, SqT K H a xs ∧ xs.length = i⟩
theorem turn {P : Program} {w : World} {K : PySem.W.Frag} {elts : List Expr} {kk : Nat} {tpos : Pos} (a e it : Addr) :
    Turn P w K (.Tuple elts kk tpos) (ItE K a) [e, it] e (fun i h => (∃ old, IsEnum h e it ((i : Nat) : Int) old) ∧ h.IsTupleIter it a i ∧ e ≠ it) where
  mem := by simp
  obj := fun i h st b hb => by
    obtain ⟨⟨old, he⟩, ⟨o, ho, _, hd⟩, _⟩ := st
    simp only [List.mem_cons, List.not_mem_nil, or_false] at hb
    rcases hb with rfl | rfl
    · exact ⟨_, he, fun v q => nomatch q⟩
    · exact ⟨o, ho, fun v q => by rw [hd] at q; cases q⟩
  keep := fun i h h' st k => let ⟨⟨old, he⟩, hi, ne⟩ := st; ⟨⟨old, k e (by simp) _ he⟩, hi.at fun o q => k it (by simp) o q, ne⟩
  item := by
    intro X hP hw hK hc i pins s σ H E I hf st hg
    subst hP hw hK
    obtain ⟨⟨old, he⟩, hit, ne⟩ := st
    obtain ⟨xs, x, hq, hx⟩ := hg
    obtain ⟨its, rv, p, hz⟩ := I.tuple hq
    have p : s.heap.IsTuple a its.toArray := p
    obtain ⟨u, hu, ru⟩ := rv.get hx
    obtain ⟨n1, n2⟩ := apart p hit he
    have le := Heap.lt_size he
    have li : it < s.heap.objs.size := by obtain ⟨_, q, _⟩ := hit; exact Heap.lt_size q
    have lt : i < its.toArray.size := by
      have := (List.getElem?_eq_some_iff.mp hu).1
      simpa using this
    refine wpAny_pyNext_enum_itemD (Draws.tuple (A := X.A.in1) (I.ok.hd hc) it a n1 its.toArray) he ⟨hit, p⟩ lt ne (by simp [ne, Ne.symm n2]) fun x' h1 tk q1 q2 q3 q4 q5 q6 => ?_
    obtain rfl : x' = u := by
      have q1 : its.toArray[i]? = some x' := q1
      rw [List.getElem?_toArray, hu] at q1
      exact (Option.some.inj q1).symm
    refine ⟨_, rfl, wpAny_letOwnedTupleGo_enum (s := { s with heap := h1, toks := tk + 1 }) q2 fun h2 he2 sb => ?_⟩
    have hT : h2.get? s.heap.objs.size = some { cls := .type "tuple", data := .seq #[.int i tk, x'] } := (sb.2 _ (Nat.ne_of_gt le)).trans q4
    have I1 : Inv X pins σ (upd H s.heap.objs.size (.tup [.int (i : Nat), x])) { s with heap := h2, toks := tk + 1 } :=
      I.turnedNew (ch := [e, it]) (fun b ob hb q => (sb.2 b (fun z => hb (by simp [z]))).trans (q6 b ob (fun z => hb (by simp [z])) (fun z => hb (by simp [z])) q)) hf (Nat.le_refl _)
        ⟨by show 2 ≤ sizeLine; decide, [.int i tk, x'], .cons ⟨_, rfl⟩ (.cons ru .nil), ⟨_, hT, rfl, _, rfl⟩⟩
    refine ⟨.ref s.heap.objs.size, _, I1, rfl, ⟨_, x, rfl, I.hok.fresh (Nat.le_refl _), rfl, fun ys hy => by rw [I.tuple_inj hy hq]; exact hx⟩, ⟨⟨x', ?_⟩, q3.1.at fun o q => (sb.2 it (Ne.symm ne)).trans q, ne⟩, fun b hb => ?_⟩
    · rw [show ((i + 1 : Nat) : Int) = (i : Int) + 1 by omega]
      exact he2
    · have lb : b < s.heap.objs.size := by
        have hb' : b = e ∨ b = it := by simpa using hb
        rcases hb' with z | z <;> rw [z] <;> assumption
      rw [upd_ne (Nat.ne_of_lt lb)]
      exact (hf b hb).1
  done := by
    intro X hP hw hK hc i pins s σ H E I hf st hg
    subst hP hw hK
    obtain ⟨⟨old, he⟩, hit, ne⟩ := st
    obtain ⟨xs, hq, hx⟩ := hg
    obtain ⟨its, rv, p, hz⟩ := I.tuple hq
    have p : s.heap.IsTuple a its.toArray := p
    obtain ⟨n1, n2⟩ := apart p hit he
    obtain ⟨f0, f1, f2, f3, f4, f5⟩ := hf it (by simp)
    have e1 : its.toArray.size = i := by
      have := rv.length
      rw [List.size_toArray]
      omega
    exact wpAny_pyNext_enum_endD (Draws.tuple (A := X.A.in1) (I.ok.hd hc) it a n1 its.toArray) he ⟨by rw [e1]; exact hit, p⟩ fun h1 eb => ⟨rfl, I.turned (t' := s.toks) (fun b o hb q => eb b o hb q) f0 f1 f3 f4 f5⟩
  self := fun A i s Q E st h => let ⟨⟨_, he⟩, _⟩ := st; wpAny_pyIter_enum he h
def iEn (K : PySem.W.Frag) (ta : TA) : TI := fun σ H R => ta σ H fun vs H1 => ∃ a xs, vs = [.ref a] ∧ SqT K H1 a xs ∧ R (ItE K a) H1
end En
theorem L2.pi_enumT {X : L2.Cx} {e : PySem.Expr} {ta : L2.TA} {p pos tpos : PySem.Pos} {elts : List PySem.Expr} {kk : Nat} (hg : L2.Gl X "enumerate") (hm : X.mg "enumerate" = none) (ha : L2.PA X [e] ta) (hs : PySem.starEach [e] X.env = [(false, PySem.eval e X.env)] := by rfl) :
    L2.PI X (.Tuple elts kk tpos) (.Call (.Name "enumerate" p) [e] [] pos) (En.iEn X.K ta) := by
  open PySem PySem.Spec PyProof.Rows L2 in
  refine ⟨fun pins s σ H R I h => Call_ (ld_blt I hg hm boot_enumerate (PyProof.Rows.callWith_type1 (thn (ha.run pos pins s σ H _ I h) fun us s1 ⟨vs, H1, I1, r1, a, xs, ex, hq, q⟩ => ?_) hs rfl))⟩
  subst ex
  cases r1 with
  | cons r rr =>
    cases rr
    cases r
    obtain ⟨its, rv, pt, hz⟩ := I1.tuple hq
    refine PySem.en_call (its := its.toArray) pt fun h1 he hit hk => PySem.wpAny_pyIter_enum he ?_
    refine ⟨s1.heap.objs.size + 1, [s1.heap.objs.size + 1, s1.heap.objs.size], _, _, H1, rfl, I1.kept (t' := s1.toks) hk, En.turn a (s1.heap.objs.size + 1) s1.heap.objs.size, ⟨⟨.none, he⟩, hit, Nat.succ_ne_self _⟩, fun b hb => ?_, q⟩
    have le : s1.heap.objs.size ≤ b := by
      have hb' : b = s1.heap.objs.size + 1 ∨ b = s1.heap.objs.size := by simpa using hb
      rcases hb' with z | z <;> rw [z]
      · exact Nat.le_succ _
      · exact Nat.le_refl _
    exact I1.fpOk le (I1.hok.fresh le)
namespace En
open PySem PySem.Spec PyProof.Rows L2
theorem for_en {K : PySem.W.Frag} {a : Addr} {xs : List V} {g : TG} {tb : TS} {D : Ends} {σ : L2.St} {H : Hp} (Pv : Nat → L2.St → Hp → Prop) (h0 : Pv 0 σ H) (hl : ∀ i σ H, i ≤ xs.length → Pv i σ H → SqT K H a xs)
    (hs : ∀ i x σ H T, xs[i]? = some x → Pv i σ H → H T = none → g (.ref T) σ (upd H T (.tup [.int (i : Nat), x])) fun σ2 H2 => tb { D with nx := Pv (i + 1), ct := Pv (i + 1), bk := D.nx } σ2 H2) (hd : ∀ σ H, Pv xs.length σ H → D.nx σ H) :
    ∃ W : Nat → Nat → L2.St → Hp → Prop, (∃ m, W 0 m σ H) ∧ ∀ i m σ H, W i m σ H →
      ((ItE K a).stop i H ∧ D.nx σ H) ∨ ((ItE K a).go i H ∧ ∃ N : L2.St → Hp → Prop, (∀ σ' H', N σ' H' → ∃ m', m' < m ∧ W (i + 1) m' σ' H') ∧ ∀ x H', (ItE K a).yld i H x H' → g x σ H' fun σ2 H2 => tb { D with nx := N, ct := N, bk := D.nx } σ2 H2) := by
  refine ⟨fun i m σ H => i + m = xs.length ∧ Pv i σ H, ⟨xs.length, Nat.zero_add _, h0⟩, fun i m σ H ⟨e, p⟩ => ?_⟩
  have sq := hl i σ H (by omega) p
  cases m with
  | zero =>
    obtain rfl : i = xs.length := by omega
    exact .inl ⟨⟨xs, sq, rfl⟩, hd σ H p⟩
  | succ m =>
    have hx := List.getElem?_eq_getElem (show i < xs.length by omega)
    refine .inr ⟨⟨xs, _, sq, hx⟩, Pv (i + 1), fun σ' H' q => ⟨m, Nat.lt_succ_self m, by omega, q⟩, ?_⟩
    rintro y H' ⟨T, x, rfl, nT, rfl, hy⟩
    exact hs i x σ H T (hy xs sq) p nT
theorem lc_en {K : PySem.W.Frag} {a : Addr} {xs : List V} {g : TG} {tt : TT} {te : TE} {vs : List Nat} {σ : L2.St} {H1 : Hp} {D : Addr} {Qd : Hp → Prop} (Pv : Nat → Hp → Prop) (h0 : Pv 0 (upd H1 D (.lst []))) (hl : ∀ i H, i ≤ xs.length → Pv i H → SqT K H a xs)
    (hs : ∀ i x H T, xs[i]? = some x → Pv i H → H T = none → g (.ref T) (wipe σ vs) (upd H T (.tup [.int (i : Nat), x])) fun σ2 H2 => wipe σ2 vs = wipe σ vs ∧ tt σ2 H2 fun b H3 => if b = true then te σ2 H3 fun y H4 => ∃ acc, H4 D = some (.lst acc) ∧ acc.length < sizeLine ∧ Pv (i + 1) (upd H4 D (.lst (acc ++ [y]))) else Pv (i + 1) H3) (hd : ∀ H, Pv xs.length H → Qd H) :
    ∃ W : Nat → Nat → Hp → Prop, (∃ m, W 0 m (upd H1 D (.lst []))) ∧ ∀ i m H, W i m H →
      ((ItE K a).stop i H ∧ Qd H) ∨ ((ItE K a).go i H ∧ ∃ Nx : Hp → Prop, (∀ H', Nx H' → ∃ m', m' < m ∧ W (i + 1) m' H') ∧ ∀ x H', (ItE K a).yld i H x H' → g x (wipe σ vs) H' fun σ2 H2 => wipe σ2 vs = wipe σ vs ∧ tt σ2 H2 fun b H3 =>
        if b = true then te σ2 H3 fun y H4 => ∃ acc, H4 D = some (.lst acc) ∧ acc.length < sizeLine ∧ Nx (upd H4 D (.lst (acc ++ [y]))) else Nx H3) := by
  refine ⟨fun i m H => i + m = xs.length ∧ Pv i H, ⟨xs.length, Nat.zero_add _, h0⟩, fun i m H ⟨e, p⟩ => ?_⟩
  have sq := hl i H (by omega) p
  cases m with
  | zero =>
    obtain rfl : i = xs.length := by omega
    exact .inl ⟨⟨xs, sq, rfl⟩, hd H p⟩
  | succ m =>
    have hx := List.getElem?_eq_getElem (show i < xs.length by omega)
    refine .inr ⟨⟨xs, _, sq, hx⟩, Pv (i + 1), fun H' q => ⟨m, Nat.lt_succ_self m, by omega, q⟩, ?_⟩
    rintro y H' ⟨T, x, rfl, nT, rfl, hy⟩
    exact hs i x H T (hy xs sq) p nT
end En
namespace Fo
open PySem PySem.Spec PyProof.Rows L2 GxR Nw Dr Kp Se Cl En
abbrev sFal : Stmt := topS 25
abbrev nFal : List Str := ["claim", "held", "say"]
theorem scFal : FnScope nFal ["claim", "held"] (defScope sFal) := ⟨rfl, rfl, rfl, by decide +kernel, rfl, by decide +kernel, by decide +kernel⟩
abbrev sFsy : Stmt := topS 26
abbrev nFsy : List Str := ["claim", "held", "left", "say"]
theorem scFsy : FnScope nFsy ["claim", "held"] (defScope sFsy) := ⟨rfl, rfl, rfl, by decide +kernel, rfl, by decide +kernel, by decide +kernel⟩
abbrev sFfa : Stmt := topS 27
theorem scFfa : FnScope ["claims", "held", "number", "claim"] ["claims", "held"] (defScope sFfa) := ⟨rfl, rfl, rfl, by decide +kernel, rfl, by decide +kernel, by decide +kernel⟩
abbrev sFst : Stmt := topS 28
theorem scFst : FnScope ["claims", "held", "number", "claim", "say"] ["claims", "held"] (defScope sFst) := ⟨rfl, rfl, rfl, by decide +kernel, rfl, by decide +kernel, by decide +kernel⟩
abbrev sFod : Stmt := topS 29
theorem scFod : FnScope ["claims", "says", "held", "steps", "number", "step"] ["claims", "says"] (defScope sFod) := ⟨rfl, rfl, rfl, by decide +kernel, rfl, by decide +kernel, by decide +kernel⟩
/-- the built-ins that stand as they stood -/
structure Zf (mg : Str → Option Value) : Prop where
  z_len : mg "len" = none
  z_list : mg "list" = none
  z_all : mg "all" = none
  z_enumerate : mg "enumerate" = none
theorem ints_flat (cs : List Int) : (cs.map V.int).all flatV = true := by
  rw [List.all_map, List.all_eq_true]
  exact fun _ _ => rfl
theorem at_int {ks : List Int} {i : Nat} {x : V} (hx : (ks.map V.int)[i]? = some x) : ∃ z, ks[i]? = some z ∧ x = V.int z := by
  rw [List.getElem?_map] at hx
  cases e : ks[i]? with
  | none =>
    rw [e] at hx
    cases hx
  | some z =>
    rw [e] at hx
    exact ⟨z, rfl, (Option.some.inj hx).symm⟩
theorem bk_at {H : Hp} {a : Addr} {vs : List V} {css : List (List Int)} {i : Nat} {x : V} (l : vs.length = css.length) (h : ∀ (i : Nat) (x : V) (cs : List Int), vs[i]? = some x → css[i]? = some cs → TupI H x cs) (hx : vs[i]? = some x) : ∃ cs, css[i]? = some cs ∧ TupI H x cs := by
  have li := (List.getElem?_eq_some_iff.mp hx).1
  have e := List.getElem?_eq_getElem (show i < css.length by omega)
  exact ⟨_, e, h i x _ hx e⟩
section
variable {P : Program} {w : World} {K : PySem.W.Frag} {mg : Str → Option Value} {base : Heap}
/-- falls(claim, held) -/
def spFal (Po : Addr) : Sp := fun vs H Q _ => ∃ (v : V) (a : Addr) (cs held : List Int), vs = [v, .ref a] ∧ TupI H v cs ∧ H a = some (.lst (held.map V.int)) ∧ TabG H Po ∧
  ∀ H' b, Ke Nof H H' → (b = true ↔ left cs held = []) → Q (.bl b) H'
theorem ok_fal {f c Po : Addr} {fd : FuncData} {k : Nat} (F : FunC K "falls" "falls" sFal f c fd) (T : Zf mg) (TB : TabB base mg c Po) : FnOk P w K mg base CX0 (k + 3) f fd ["claim", "held"] (spFal Po) := by
  refine F.ok scFal (fun vs H Q E h => ?_) (fun A outer s H vs Q E hr h => ?_)
  · obtain ⟨v, a, cs, held, rfl, _⟩ := h
    rfl
  · obtain ⟨v, b, cs, held, rfl, ⟨a, rfl, ha⟩, hb, tg, q⟩ := h
    refine ⟨_, (pss_one (ps_ret (Gx.pe_all hr (by rfl) T.z_all rfl scFal.nd TB rfl (pi_tup (pv 0)) (own := [("say", 2)]) (g := gName 2) (tt := tYes) (blkOk_by (N := nFal) (sc := defScope sFal) (by decide +kernel)) ⟨rfl, by decide +kernel, rfl⟩ (fun _ _ _ _ _ _ _ => pg_name (i := 2) scFal.nd rfl (.inl rfl)) (fun _ _ _ _ _ _ _ => pts_nil) (fun _ _ _ _ _ _ _ => (pe_cmpR (op_in_seqB (K := K) rfl) (pe_un un_neg (pv 2)) (pv 1) (by rfl)))))), ?_⟩
    refine ⟨_, rfl, a, rfl, ⟨_, .of ha⟩, tg, fun H1 tb => ?_⟩
    have k1 : Ke Nof H H1 := .tabbed tg tb
    refine Gx.aa_tup (xs := cs.map V.int) (Pv := fun i H' => Ke Nof H H' ∧ ∀ s ∈ cs.take i, -s ∈ held) ⟨k1, fun s hs => by simp at hs⟩ (fun i H' _ p => .of (p.1.tups _ _ ha)) ?_ ?_
    · rintro i x H' hx ⟨k2, p⟩
      obtain ⟨z, hz, rfl⟩ := at_int hx
      refine ⟨rfl, _, rfl, _, rfl, _, rfl, b, _, rfl, .inl (.of (k2.lst hb fun z => z)), rfl, ints_flat held, ?_⟩
      cases e : inV (.int (-z)) (held.map V.int) with
      | false =>
        refine .inl ⟨rfl, q H' false k2 ⟨fun y => (nomatch y), fun y => ?_⟩⟩
        have := left_nil.mp y z (List.mem_of_getElem? hz)
        rw [(in_ints _ _).mpr this] at e
        cases e
      | true =>
        refine .inr ⟨rfl, k2, fun s hs => ?_⟩
        rw [List.take_add_one, hz] at hs
        rcases List.mem_append.mp hs with y | y
        · exact p s y
        · have : s = z := by simpa using y
          rw [this]
          exact (in_ints _ _).mp e
    · rintro H' ⟨k2, p⟩
      rw [List.length_map, List.take_length] at p
      exact q H' true k2 ⟨fun _ => left_nil.mpr p, fun _ => rfl⟩
/-- forced_say(claim, held) -/
def spFsy : Sp := fun vs H Q _ => ∃ (v : V) (a : Addr) (cs held : List Int), vs = [v, .ref a] ∧ TupI H v cs ∧ H a = some (.lst (held.map V.int)) ∧ cs.length ≤ 20 ∧
  (∀ H' x, Same H H' → Forces cs held x → Q (.int x) H') ∧ ∀ H', Same H H' → (∀ x, ¬ Forces cs held x) → Q .non H'
theorem ok_fsy {f : Addr} {fd : FuncData} {k : Nat} (F : Fun K "forced_say" "forced_say" sFsy f fd) (T : Zf mg) : FnOk P w K mg base CX0 (k + 1) f fd ["claim", "held"] spFsy := by
  refine F.ok scFsy (fun vs H Q E h => ?_) (fun cdv A outer s H vs Q E hr h => ?_)
  · obtain ⟨v, a, cs, held, rfl, _⟩ := h
    rfl
  · obtain ⟨v, b, cs, held, rfl, ⟨a, rfl, ha⟩, hb, lc, q1, q2⟩ := h
    refine ⟨_, (Evl.pss_cut (ps_setLc (i := 2) (own := [("say", 3)]) (g := (gName 3))  rfl scFsy.nd rfl rfl (sw_true rfl rfl rfl (by decide +kernel)) (pi_tup (pv 0)) (blkOk_by (N := nFsy) (sc := defScope sFsy) (by decide +kernel)) (fun _ _ _ _ _ => (pg_name (i := 3) scFsy.nd rfl (.inl rfl))) (fun _ _ _ _ _ => (pts_one (pt_cmpR (op_notIn_seqB (K := K) rfl) (pe_un un_neg (pv 3)) (pv 1) (by rfl)))) (fun _ _ _ _ _ => (pv 3)))
      (pss_cons (ps_if (PW.pt (pw_and (pt_cmpR op_eq (pe_callB call_len_seq (by rfl) T.z_len (by decide +kernel) (pa_cons (pv 2) pa_nil)) pe_int (nomark _)) (pw_and1 (pt_cmpR op_notIn_seq (pe_ix ix_list (pv 2) pe_int (fun _ _ => rfl)) (pv 1) (by rfl))))) (pss_one (ps_ret (pe_ix ix_list (pv 2) pe_int (fun _ _ => rfl)))) pss_nil)
      (pss_one (ps_ret pe_non)))), ?_⟩
    refine Evl.q_cut (M := fun σ' H' => ∃ D, σ' = [some (.ref a), some (.ref b), some (.ref D), none] ∧ Same H H' ∧ H' D = some (.lst ((left cs held).map V.int))) ?_ ?_
    · refine ⟨_, rfl, a, rfl, ⟨_, .of ha⟩, fun D nD => ?_⟩
      refine lc_tup (xs := cs.map V.int) (Pv := fun i H' => Same H H' ∧ H' D = some (.lst (((cs.take i).filter fun s => !inV (.int (-s)) (held.map V.int)).map V.int))) ⟨same_new nD, upd_same⟩ (fun i H' _ p => .of (p.1 _ _ ha)) ?_ ?_
      · rintro i x H' hx ⟨s1, hD⟩
        obtain ⟨z, hz, rfl⟩ := at_int hx
        have ft := Sl.filter_take (f := fun s => !inV (.int (-s)) (held.map V.int)) hz
        refine ⟨rfl, _, rfl, _, rfl, _, rfl, b, _, rfl, .inl (.of (s1 _ _ hb)), rfl, ints_flat held, _, rfl, ite2 (fun y1 => ?_) (fun y1 => ?_)⟩
        · have y1 : (!inV (.int (-z)) (held.map V.int)) = true := y1
          refine ⟨_, rfl, _, hD, ?_, fun c o y => ?_, ?_⟩
          · rw [List.length_map]
            exact small1000 (Nat.le_trans (List.length_filter_le _ _) (by rw [List.length_take]; omega))
          · rw [upd_ne (ne_of_none y nD)]
            exact s1 _ _ y
          · rw [upd_same, ft, if_pos y1, List.map_append]
            rfl
        · have y1 : ¬ (!inV (.int (-z)) (held.map V.int)) = true := y1
          refine ⟨s1, ?_⟩
          rw [ft, if_neg y1, List.append_nil]
          exact hD
      · rintro H' ⟨s1, hD⟩
        rw [List.length_map, List.take_length] at hD
        exact ⟨D, rfl, s1, hD⟩
    rintro σ' H1 ⟨D, rfl, s1, hD⟩
    have hb1 := s1 _ _ hb
    refine ⟨_, rfl, D, _, rfl, .inl (.of hD), rfl, _, rfl, ite2 (fun e => ?_) (fun e => ?_)⟩
    · have l1 : (left cs held).length = 1 := by
        have := V.int.inj (of_decide_eq_true e)
        rw [List.length_map] at this
        omega
      obtain ⟨x, hx⟩ := List.length_eq_one_iff.mp l1
      rw [hx] at hD
      refine ⟨_, rfl, D, _, 0, .int x, rfl, rfl, .of hD, rfl, _, rfl, b, _, rfl, .inl (.of hb1), rfl, ints_flat held, _, rfl, ite2 (fun e2 => ?_) (fun e2 => ?_)⟩
      · have e2 : (!inV (.int x) (held.map V.int)) = true := e2
        refine ⟨_, rfl, D, _, 0, .int x, rfl, rfl, .of hD, rfl, q1 H1 x s1 ⟨hx, fun z => ?_⟩⟩
        rw [(in_ints _ _).mpr z] at e2
        cases e2
      · have e2 : ¬ (!inV (.int x) (held.map V.int)) = true := e2
        refine q2 H1 s1 fun y ⟨h1, h2⟩ => ?_
        rw [hx] at h1
        cases h1
        cases z : inV (.int x) (held.map V.int) with
        | true => exact h2 ((in_ints _ _).mp z)
        | false =>
          rw [z] at e2
          exact e2 rfl
    · refine q2 H1 s1 fun y ⟨h1, h2⟩ => ?_
      rw [h1] at e
      exact e rfl
/-- first_fall(claims, held) -/
def spFfa (Po : Addr) : Sp := fun vs H Q _ => ∃ (v : V) (a : Addr) (css : List (List Int)) (held : List Int), vs = [v, .ref a] ∧ Bk H v css ∧ H a = some (.lst (held.map V.int)) ∧ TabG H Po ∧
  (∀ H' (n : Nat) cs, Ke Nof H H' → css[n]? = some cs → left cs held = [] → Q (.int n) H') ∧ ∀ H', Ke Nof H H' → (∀ cs ∈ css, left cs held ≠ []) → Q .non H'
theorem ok_ffa {f fF Po : Addr} {fd fdF : FuncData} {k : Nat} (F : Fun K "first_fall" "first_fall" sFfa f fd) (T : Zf mg) (kF : PySem.W.keepIn K (.ref fF) = true) (bF : Binds K fdF ["claim", "held"] []) (gF : mg "falls" = some (.ref fF)) (GF : FnOk P w K mg base CX0 3 fF fdF ["claim", "held"] (spFal Po)) :
    FnOk P w K mg base CX0 (k + 4) f fd ["claims", "held"] (spFfa Po) := by
  refine F.ok scFfa (fun vs H Q E h => ?_) (fun cdv A outer s H vs Q E hr h => ?_)
  · obtain ⟨v, a, css, held, rfl, _⟩ := h
    rfl
  · obtain ⟨v, a, css, held, rfl, ⟨b, vs, rfl, hb, lv, hv⟩, ha, tg, q1, q2⟩ := h
    have hr3 : Room 3 _ := hr.mono (by omega)
    refine ⟨_, (pss_cons (ps_for PassesOwn.never rfl (pi_enumT (by rfl) T.z_enumerate (pa_cons (pv 0) pa_nil)) (pg_tup rfl (pgs_cons (pg_name (i := 2) scFfa.nd rfl (.inl rfl)) (pgs_cons (pg_name (i := 3) scFfa.nd rfl (.inl rfl)) pgs_nil))) (pss_one (ps_if (pt_val (pe_call GF hr3 (by rfl) gF kF bF .nil pass0 (pa_cons (pv 3) (pa_cons (pv 1) pa_nil)))) (pss_one (ps_ret (pv 2))) pss_nil)))
      (pss_one (ps_ret pe_non))), ?_⟩
    refine ⟨_, rfl, b, vs, rfl, .of hb, for_en (K := K) (a := b) (xs := vs) (Pv := fun i σ H' => ∃ y2 y3 : Option V, σ = [some (.ref b), some (.ref a), y2, y3] ∧ Ke Nof H H' ∧ ∀ cs ∈ css.take i, left cs held ≠ []) ?_ (fun i σ H' _ p => ?_) ?_ ?_⟩
    · exact ⟨none, none, rfl, .refl _ _, fun cs hc => by simp at hc⟩
    · obtain ⟨_, _, _, k1, _⟩ := p
      exact .of (k1.tups _ _ hb)
    · rintro i x σ H1 T' hx ⟨y2, y3, rfl, k1, p⟩ nT
      obtain ⟨cs, hc, tx⟩ := bk_at (a := b) lv hv hx
      have k2 : Ke Nof H (upd H1 T' (.tup [.int (i : Nat), x])) := k1.trans (.same (same_new nT))
      refine ⟨T', _, rfl, .of upd_same, rfl, _, _, rfl, _, _, rfl, rfl, ?_⟩
      generalize upd H1 T' (.tup [.int (i : Nat), x]) = H2 at k2
      refine ⟨_, rfl, _, rfl, x, a, cs, held, rfl, tx.ke k2, k2.lst ha fun z => z, k2.tabs _ tg, fun H3 d k3 hd => ⟨d, rfl, ite2 (fun e => ?_) (fun e => ?_)⟩⟩
      · exact ⟨_, rfl, q1 H3 i cs (k2.trans k3) hc (hd.mp e)⟩
      · refine ⟨_, _, rfl, k2.trans k3, fun ds hd2 => ?_⟩
        rw [List.take_add_one, hc] at hd2
        rcases List.mem_append.mp hd2 with y | y
        · exact p ds y
        · have : ds = cs := by simpa using y
          rw [this]
          exact fun z => e (hd.mpr z)
    · rintro σ H1 ⟨y2, y3, rfl, k1, p⟩
      rw [lv, List.take_length] at p
      exact q2 H1 k1 p
/-- first_step(claims, held) -/
def spFst : Sp := fun vs H Q _ => ∃ (v : V) (a : Addr) (css : List (List Int)) (held : List Int), vs = [v, .ref a] ∧ Bk H v css ∧ H a = some (.lst (held.map V.int)) ∧ (∀ cs ∈ css, Sy cs) ∧
  (∀ H' p (n : Nat) x cs, Ke Nof H H' → H' p = some (.tup [.int n, .int x]) → css[n]? = some cs → Forces cs held x → Q (.ref p) H') ∧ ∀ H', Ke Nof H H' → (∀ cs ∈ css, ∀ x, ¬ Forces cs held x) → Q .non H'
theorem ok_fst {f fY : Addr} {fd fdY : FuncData} {k : Nat} (F : Fun K "first_step" "first_step" sFst f fd) (T : Zf mg) (FY : Fun K "forced_say" "forced_say" sFsy fY fdY) (bY : Binds K fdY ["claim", "held"] []) (gY : mg "forced_say" = some (.ref fY)) (GY : FnOk P w K mg base CX0 1 fY fdY ["claim", "held"] spFsy) :
    FnOk P w K mg base CX0 (k + 2) f fd ["claims", "held"] spFst := by
  refine F.ok scFst (fun vs H Q E h => ?_) (fun cdv A outer s H vs Q E hr h => ?_)
  · obtain ⟨v, a, css, held, rfl, _⟩ := h
    rfl
  · obtain ⟨v, a, css, held, rfl, ⟨b, vs, rfl, hb, lv, hv⟩, ha, sy, q1, q2⟩ := h
    have hr1 : Room 1 _ := hr.mono (by omega)
    refine ⟨_, (pss_cons (ps_for PassesOwn.never rfl (pi_enumT (by rfl) T.z_enumerate (pa_cons (pv 0) pa_nil)) (pg_tup rfl (pgs_cons (pg_name (i := 2) scFst.nd rfl (.inl rfl)) (pgs_cons (pg_name (i := 3) scFst.nd rfl (.inl rfl)) pgs_nil))) (pss_cons (ps_set (i := 4) scFst.nd rfl (.inl rfl) (pe_call GY hr1 (by rfl) gY FY.kp bY .nil pass0 (pa_cons (pv 3) (pa_cons (pv 1) pa_nil))))
      (pss_one (ps_if (pt_cmpR op_notN (pv 4) pe_non (nomark _)) (pss_one (ps_ret (pe_tupN (pa_cons (pv 2) (pa_cons (pv 4) pa_nil))))) pss_nil))))
      (pss_one (ps_ret pe_non))), ?_⟩
    refine ⟨_, rfl, b, vs, rfl, .of hb, for_en (K := K) (a := b) (xs := vs) (Pv := fun i σ H' => ∃ y2 y3 y4 : Option V, σ = [some (.ref b), some (.ref a), y2, y3, y4] ∧ Ke Nof H H' ∧ ∀ cs ∈ css.take i, ∀ x, ¬ Forces cs held x) ?_ (fun i σ H' _ p => ?_) ?_ ?_⟩
    · exact ⟨none, none, none, rfl, .refl _ _, fun cs hc => by simp at hc⟩
    · obtain ⟨_, _, _, _, k1, _⟩ := p
      exact .of (k1.tups _ _ hb)
    · rintro i x σ H1 T' hx ⟨y2, y3, y4, rfl, k1, p⟩ nT
      obtain ⟨cs, hc, tx⟩ := bk_at (a := b) lv hv hx
      have k2 : Ke Nof H (upd H1 T' (.tup [.int (i : Nat), x])) := k1.trans (.same (same_new nT))
      refine ⟨T', _, rfl, .of upd_same, rfl, _, _, rfl, _, _, rfl, rfl, ?_⟩
      generalize upd H1 T' (.tup [.int (i : Nat), x]) = H2 at k2
      have lc := (sy cs (List.mem_of_getElem? hc)).len
      refine ⟨_, rfl, _, rfl, x, a, cs, held, rfl, tx.ke k2, k2.lst ha fun z => z, by omega, fun H3 z s3 hz => ?_, fun H3 s3 hn => ?_⟩
      · refine ⟨_, rfl, rfl, _, rfl, iteT ?_⟩
        refine ⟨_, rfl, _, rfl, by show 2 ≤ sizeLine; decide, fun p H4 np s4 hp _ => q1 H4 p i z cs (k2.trans ((Ke.same s3).trans (.same s4))) hp hc hz⟩
      · refine ⟨_, rfl, rfl, _, rfl, iteF ⟨_, _, _, rfl, k2.trans (.same s3), fun ds hd2 => ?_⟩⟩
        rw [List.take_add_one, hc] at hd2
        rcases List.mem_append.mp hd2 with y | y
        · exact p ds y
        · have : ds = cs := by simpa using y
          rw [this]
          exact hn
    · rintro σ H1 ⟨y2, y3, y4, rfl, k1, p⟩
      rw [lv, List.take_length] at p
      exact q2 H1 k1 p
end
end Fo
namespace Fo
open PySem PySem.Spec PyProof.Rows L2 GxR Nw Dr Kp Se Cl En
/-- a list of steps -/
def StL (H : Hp) (vs : List V) (steps : List (Nat × Int)) : Prop := vs.length = steps.length ∧ ∀ (i : Nat) (v : V) (s : Nat × Int), vs[i]? = some v → steps[i]? = some s → ∃ p, v = .ref p ∧ H p = some (.tup [.int (s.1 : Nat), .int s.2])
theorem StL.tups {H H' : Hp} {vs : List V} {steps : List (Nat × Int)} (h : StL H vs steps) (k : ∀ b xs, H b = some (.tup xs) → H' b = some (.tup xs)) : StL H' vs steps := ⟨h.1, fun i v s h1 h2 => by
  obtain ⟨p, e, hp⟩ := h.2 i v s h1 h2
  exact ⟨p, e, k _ _ hp⟩⟩
theorem upd_tup {H : Hp} {p : Addr} {ys : List V} {o : HO} (hp : H p = some (.lst ys)) : ∀ b xs, H b = some (.tup xs) → upd H p o b = some (.tup xs) := fun b xs h => by
  have n : b ≠ p := fun z => by
    rw [z, hp] at h
    cases h
  rw [upd_ne n]
  exact h
theorem StL.snoc {H : Hp} {vs : List V} {steps : List (Nat × Int)} {p : Addr} {n : Nat} {x : Int} (h : StL H vs steps) (hp : H p = some (.tup [.int n, .int x])) : StL H (vs ++ [.ref p]) (steps ++ [(n, x)]) :=
  ⟨by rw [List.length_append, List.length_append, h.1]; rfl, ix_append h.1 h.2 ⟨p, rfl, hp⟩⟩
def NumOk (css : List (List Int)) (held : List Int) (v : V) : Prop := (v = .non ∧ ∀ cs ∈ css, left cs held ≠ []) ∨ ∃ (n : Nat) (cs : List Int), v = .int n ∧ css[n]? = some cs ∧ left cs held = []
def StpOk (H : Hp) (css : List (List Int)) (held : List Int) (v : V) : Prop := (v = .non ∧ ∀ cs ∈ css, ∀ x, ¬ Forces cs held x) ∨ ∃ (p : Addr) (n : Nat) (x : Int) (cs : List Int), v = .ref p ∧ H p = some (.tup [.int n, .int x]) ∧ css[n]? = some cs ∧ Forces cs held x
section
variable {P : Program} {w : World} {K : PySem.W.Frag} {mg : Str → Option Value} {base : Heap}
/-- forced(claims, says) -/
def spFod (Po : Addr) : Sp := fun vs H Q _ => ∃ (v : V) (a : Addr) (css : List (List Int)) (says : List Int), vs = [v, .ref a] ∧ Bk H v css ∧ H a = some (.lst (says.map V.int)) ∧ (∀ cs ∈ css, Sy cs) ∧ Sy says ∧ TabG H Po ∧
  (∀ H' p S us steps (n : Nat) cs, Ke Nof H H' → Frs H S → H' p = some (.tup [.str "falls", .ref S, .int n]) → H' S = some (.lst us) → StL H' us steps → StepsOk css says steps → steps.length ≤ 17 → css[n]? = some cs → left cs (says ++ steps.map (·.2)) = [] → Q (.ref p) H') ∧
  ∀ H' p S us steps, Ke Nof H H' → Frs H S → H' p = some (.tup [.str "stands", .ref S]) → H' S = some (.lst us) → StL H' us steps → StepsOk css says steps → steps.length ≤ 17 → Stand css (says ++ steps.map (·.2)) → Q (.ref p) H'
theorem ok_fod {f fA fS Po : Addr} {fd fdA fdS : FuncData} {k : Nat} (F : Fun K "forced" "forced" sFod f fd) (T : Zf mg)
    (FA : Fun K "first_fall" "first_fall" sFfa fA fdA) (bA : Binds K fdA ["claims", "held"] []) (gA : mg "first_fall" = some (.ref fA)) (GA : FnOk P w K mg base CX0 4 fA fdA ["claims", "held"] (spFfa Po))
    (FS : Fun K "first_step" "first_step" sFst fS fdS) (bS : Binds K fdS ["claims", "held"] []) (gS : mg "first_step" = some (.ref fS)) (GS : FnOk P w K mg base CX0 2 fS fdS ["claims", "held"] spFst) :
    FnOk P w K mg base CX0 (k + 5) f fd ["claims", "says"] (spFod Po) := by
  refine F.ok scFod (fun vs H Q E h => ?_) (fun cdv A outer s H vs Q E hr h => ?_)
  · obtain ⟨v, a, css, says, rfl, _⟩ := h
    rfl
  · obtain ⟨v, a, css, says, rfl, hbk, ha, sy, sa, tg, q1, q2⟩ := h
    obtain ⟨b, rfl⟩ : ∃ b, v = .ref b := by
      obtain ⟨b, _, e, _⟩ := hbk
      exact ⟨b, e⟩
    have hr4 : Room 4 _ := hr.mono (by omega)
    have hr2 : Room 2 _ := hr.mono (by omega)
    refine ⟨_, (Evl.pss_cut (ps_set (i := 2) scFod.nd rfl (.inl rfl) (pe_callTy call_list_ofN (by rfl) T.z_list (by decide +kernel) (pa_cons (pv 1) pa_nil)))
      (Evl.pss_cut (ps_set (i := 3) scFod.nd rfl (.inl rfl) (pe_lstN pa_nil))
      (Evl.pss_cut (ps_set (i := 4) scFod.nd rfl (.inl rfl) (pe_call GA hr4 (by rfl) gA FA.kp bA .nil pass0 (pa_cons (pv 0) (pa_cons (pv 2) pa_nil))))
      (Evl.pss_cut (ps_set (i := 5) scFod.nd rfl (.inl rfl) (pe_call GS hr2 (by rfl) gS FS.kp bS .nil pass0 (pa_cons (pv 0) (pa_cons (pv 2) pa_nil))))
      (Evl.pss_cut (ps_while PassesOwn.never (PW.pt (pw_and (pt_cmpR op_isN (pv 4) pe_non (nomark _)) (pw_and1 (pt_cmpR op_notN (pv 5) pe_non (nomark _))))) (Evl.pss_cut (ps_expr (pe_bm PySem.F.plainAttrs_list PySem.F.slot_list_append PySem.F.type_list_append mt_append (pv 3) (pa_cons (pv 5) pa_nil)))
      (Evl.pss_cut (ps_expr (pe_bm PySem.F.plainAttrs_list PySem.F.slot_list_append PySem.F.type_list_append mt_append (pv 2) (pa_cons (pe_ix ix_tup (pv 5) pe_int (fun _ _ => rfl)) pa_nil)))
      (Evl.pss_cut (ps_set (i := 4) scFod.nd rfl (.inl rfl) (pe_call GA hr4 (by rfl) gA FA.kp bA .nil pass0 (pa_cons (pv 0) (pa_cons (pv 2) pa_nil))))
      (pss_one (ps_set (i := 5) scFod.nd rfl (.inl rfl) (pe_call GS hr2 (by rfl) gS FS.kp bS .nil pass0 (pa_cons (pv 0) (pa_cons (pv 2) pa_nil)))))))))
      (pss_cons (ps_if (pt_cmpR op_isN (pv 4) pe_non (nomark _)) (pss_one (ps_ret (pe_tupN (pa_cons pe_str (pa_cons (pv 3) pa_nil))))) pss_nil)
      (pss_one (ps_ret (pe_tupN (pa_cons pe_str (pa_cons (pv 3) (pa_cons (pv 4) pa_nil)))))))))))), ?_⟩
    refine Evl.q_cut (M := fun σ' H' => ∃ D, σ' = [some (.ref b), some (.ref a), some (.ref D), none, none, none] ∧ H D = none ∧ Same H H' ∧ H' D = some (.lst (says.map V.int))) ?_ ?_
    · exact ⟨_, rfl, a, _, rfl, .inl (.of ha), fun D H1 nD s1 hD _ => ⟨D, rfl, nD, s1, hD⟩⟩
    rintro σ' H1 ⟨D, rfl, nD, s1, hD⟩
    refine Evl.q_cut (M := fun σ' H' => ∃ S, σ' = [some (.ref b), some (.ref a), some (.ref D), some (.ref S), none, none] ∧ H S = none ∧ S ≠ D ∧ Same H H' ∧ H' D = some (.lst (says.map V.int)) ∧ H' S = some (.lst [])) ?_ ?_
    · exact ⟨Nat.zero_le _, fun S H2 nS s2 hS _ => ⟨S, rfl, s1.free nS, Ne.symm (ne_of_none hD nS), s1.trans s2, s2 _ _ hD, hS⟩⟩
    clear hD s1 H1
    rintro σ' H1 ⟨S, rfl, nS, nSD, s1, hD, hS⟩
    have frD : Frs H D := .of nD
    have frS : Frs H S := .of nS
    have k1 : Ke Nof H H1 := .same s1
    refine Evl.q_cut (M := fun σ' H' => ∃ vn, σ' = [some (.ref b), some (.ref a), some (.ref D), some (.ref S), some vn, none] ∧ Ke Nof H1 H' ∧ NumOk css says vn) ?_ ?_
    · exact ⟨_, rfl, _, rfl, .ref b, D, css, says, rfl, hbk.ke k1, hD, k1.tabs _ tg, fun H2 n cs k2 hc hl => ⟨_, rfl, k2, .inr ⟨n, cs, rfl, hc, hl⟩⟩, fun H2 k2 hl => ⟨_, rfl, k2, .inl ⟨rfl, hl⟩⟩⟩
    rintro σ' H2 ⟨vn, rfl, k2, no⟩
    have k12 := k1.trans k2
    have hD2 := k2.lst hD fun z => z
    have hS2 := k2.lst hS fun z => z
    refine Evl.q_cut (M := fun σ' H' => ∃ vs, σ' = [some (.ref b), some (.ref a), some (.ref D), some (.ref S), some vn, some vs] ∧ Ke Nof H2 H' ∧ StpOk H' css says vs) ?_ ?_
    · exact ⟨_, rfl, _, rfl, .ref b, D, css, says, rfl, hbk.ke k12, hD2, sy, fun H3 p n x cs k3 hp hc hl => ⟨_, rfl, k3, .inr ⟨p, n, x, cs, rfl, hp, hc, hl⟩⟩, fun H3 k3 hl => ⟨_, rfl, k3, .inl ⟨rfl, hl⟩⟩⟩
    rintro σ' H3 ⟨vs, rfl, k3, so⟩
    -- the loop
    refine Evl.q_cut (M := fun σ' H' => ∃ (vn vs : V) (us : List V) (steps : List (Nat × Int)), σ' = [some (.ref b), some (.ref a), some (.ref D), some (.ref S), some vn, some vs] ∧ Ke Nof H H' ∧ H' S = some (.lst us) ∧ StL H' us steps ∧ StepsOk css says steps ∧ steps.length ≤ 17 ∧
      ((vn = .non ∧ Stand css (says ++ steps.map (·.2))) ∨ ∃ (n : Nat) (cs : List Int), vn = .int n ∧ css[n]? = some cs ∧ left cs (says ++ steps.map (·.2)) = [])) ?_ ?_
    · refine ⟨fun m σ H' => ∃ (vn vs : V) (us : List V) (steps : List (Nat × Int)), m = 40 - steps.length ∧ σ = [some (.ref b), some (.ref a), some (.ref D), some (.ref S), some vn, some vs] ∧ Ke Nof H H' ∧ H' D = some (.lst ((says ++ steps.map (·.2)).map V.int)) ∧ H' S = some (.lst us) ∧ StL H' us steps ∧ StepsOk css says steps ∧ Sy (says ++ steps.map (·.2)) ∧ NumOk css (says ++ steps.map (·.2)) vn ∧ StpOk H' css (says ++ steps.map (·.2)) vs, ⟨40, vn, vs, [], [], rfl, rfl, k12.trans k3, ?_, k3.lst hS2 fun z => z, ⟨rfl, fun i v s h => by simp at h⟩, .nil, ?_, ?_, ?_⟩, ?_⟩
      · rw [show says ++ ([] : List (Nat × Int)).map (·.2) = says by simp]
        exact k3.lst hD2 fun z => z
      · rw [show says ++ ([] : List (Nat × Int)).map (·.2) = says by simp]
        exact sa
      · rw [show says ++ ([] : List (Nat × Int)).map (·.2) = says by simp]
        exact no
      · rw [show says ++ ([] : List (Nat × Int)).map (·.2) = says by simp]
        exact so
      clear so no k3 k2 k12 hD2 hS2 H2 H3 vs vn hS hD k1 s1 H1
      rintro m σ H1 ⟨vn, vs, us, steps, rfl, rfl, k1, hD, hS, sl, st, sh, no, so⟩
      have l17 := sh.len
      have ls : steps.length ≤ 17 := by
        rw [List.length_append, List.length_map] at l17
        omega
      rcases no with ⟨rfl, no⟩ | ⟨n, cs, rfl, hc, hl⟩
      · refine ⟨_, rfl, rfl, _, rfl, iteT ?_⟩
        rcases so with ⟨rfl, so⟩ | ⟨p, n, x, cs, rfl, hp, hc, hf⟩
        · refine ⟨_, rfl, rfl, _, rfl, iteF ?_⟩
          exact ⟨_, _, us, steps, rfl, k1, hS, sl, st, ls, .inl ⟨rfl, fun cs hc => ⟨no cs hc, so cs hc⟩⟩⟩
        · refine ⟨_, rfl, rfl, _, rfl, iteT ?_⟩
          refine ⟨fun σ' H' => ∃ (vn vs : V) (us : List V), σ' = [some (.ref b), some (.ref a), some (.ref D), some (.ref S), some vn, some vs] ∧ Ke Nof H H' ∧ H' D = some (.lst ((says ++ (steps ++ [(n, x)]).map (·.2)).map V.int)) ∧ H' S = some (.lst us) ∧ StL H' us (steps ++ [(n, x)]) ∧ NumOk css (says ++ (steps ++ [(n, x)]).map (·.2)) vn ∧ StpOk H' css (says ++ (steps ++ [(n, x)]).map (·.2)) vs, ?_, ?_⟩
          · rintro σ' H' ⟨vn, vs, us, rfl, h1, h2, h3, h4, h5, h6⟩
            refine ⟨40 - (steps ++ [(n, x)]).length, by rw [List.length_append]; show 40 - (steps.length + 1) < _; omega, vn, vs, us, _, rfl, rfl, h1, h2, h3, h4, st.snoc hc hf, ?_, h5, h6⟩
            have := sy_snoc sh (sy cs (List.mem_of_getElem? hc)) hf
            rw [List.append_assoc] at this
            rw [List.map_append]
            exact this
          have eh : (says ++ (steps ++ [(n, x)]).map (·.2)) = (says ++ steps.map (·.2)) ++ [x] := by
            rw [List.map_append, ← List.append_assoc]
            rfl
          rw [eh]
          -- steps.append(step)
          refine Evl.q_cut (M := fun σ' H' => σ' = [some (.ref b), some (.ref a), some (.ref D), some (.ref S), some .non, some (.ref p)] ∧ Ke Nof H H' ∧ H' D = some (.lst ((says ++ steps.map (·.2)).map V.int)) ∧ H' S = some (.lst (us ++ [.ref p])) ∧ StL H' (us ++ [.ref p]) (steps ++ [(n, x)]) ∧ H' p = some (.tup [.int (n : Nat), .int x])) ?_ ?_
          · refine ⟨_, rfl, .inl ⟨rfl, _, .of hS⟩, _, rfl, S, _, _, rfl, rfl, hS, small1000 (by rw [sl.1]; omega), rfl, k1.write frS hS, by rw [upd_ne (Ne.symm nSD)]; exact hD, upd_same, (sl.snoc hp).tups (upd_tup hS), upd_tup hS _ _ hp⟩
          clear hp hS hD k1 sl
          rintro σ' H2 ⟨rfl, k2, hD, hS, sl, hp⟩
          -- held.append(step[1])
          refine Evl.q_cut (M := fun σ' H' => σ' = [some (.ref b), some (.ref a), some (.ref D), some (.ref S), some .non, some (.ref p)] ∧ Ke Nof H H' ∧ H' D = some (.lst (((says ++ steps.map (·.2)) ++ [x]).map V.int)) ∧ H' S = some (.lst (us ++ [.ref p])) ∧ StL H' (us ++ [.ref p]) (steps ++ [(n, x)])) ?_ ?_
          · refine ⟨_, rfl, .inl ⟨rfl, _, .of hD⟩, _, rfl, p, _, 1, .int x, rfl, rfl, .of hp, rfl, D, _, _, rfl, rfl, hD, small1000 (by rw [List.length_map]; omega), rfl, k2.write frD hD, by rw [upd_same]; simp, by rw [upd_ne nSD]; exact hS, sl.tups (upd_tup hD)⟩
          clear hp hS hD k2 sl
          rintro σ' H3 ⟨rfl, k3, hD, hS, sl⟩
          refine Evl.q_cut (M := fun σ' H' => ∃ vn, σ' = [some (.ref b), some (.ref a), some (.ref D), some (.ref S), some vn, some (.ref p)] ∧ Ke Nof H3 H' ∧ NumOk css ((says ++ steps.map (·.2)) ++ [x]) vn) ?_ ?_
          · exact ⟨_, rfl, _, rfl, .ref b, D, css, _, rfl, hbk.ke k3, hD, k3.tabs _ tg, fun H2 n cs k2 hc hl => ⟨_, rfl, k2, .inr ⟨n, cs, rfl, hc, hl⟩⟩, fun H2 k2 hl => ⟨_, rfl, k2, .inl ⟨rfl, hl⟩⟩⟩
          rintro σ' H4 ⟨vn, rfl, k4, no'⟩
          have k34 := k3.trans k4
          have hD4 := k4.lst hD fun z => z
          exact ⟨_, rfl, _, rfl, .ref b, D, css, _, rfl, hbk.ke k34, hD4, sy, fun H5 p n x cs k5 hp hc hl => ⟨_, _, _, rfl, k34.trans k5, k5.lst hD4 fun z => z, k5.lst (k4.lst hS fun z => z) fun z => z, (sl.tups k4.tups).tups k5.tups, no', .inr ⟨p, n, x, cs, rfl, hp, hc, hl⟩⟩,
            fun H5 k5 hl => ⟨_, _, _, rfl, k34.trans k5, k5.lst hD4 fun z => z, k5.lst (k4.lst hS fun z => z) fun z => z, (sl.tups k4.tups).tups k5.tups, no', .inl ⟨rfl, hl⟩⟩⟩
      · refine ⟨_, rfl, rfl, _, rfl, iteF ?_⟩
        exact ⟨_, _, us, steps, rfl, k1, hS, sl, st, ls, .inr ⟨n, cs, rfl, hc, hl⟩⟩
    clear so no k3 k2 k12 hD2 hS2 H2 H3 vs vn hS hD k1 s1 H1
    rintro σ' H1 ⟨vn, vs, us, steps, rfl, k1, hS, sl, st, ls, no⟩
    rcases no with ⟨rfl, sd⟩ | ⟨n, cs, rfl, hc, hl⟩
    · refine ⟨_, rfl, rfl, _, rfl, iteT ?_⟩
      exact ⟨_, rfl, by show 2 ≤ sizeLine; decide, fun p H2 np s2 hp _ => q2 H2 p S us steps (k1.trans (.same s2)) frS hp (s2 _ _ hS) (sl.tups fun b xs z => s2 _ _ z) st ls sd⟩
    · refine ⟨_, rfl, rfl, _, rfl, iteF ?_⟩
      exact ⟨_, rfl, _, rfl, by show 3 ≤ sizeLine; decide, fun p H2 np s2 hp _ => q1 H2 p S us steps n cs (k1.trans (.same s2)) frS hp (s2 _ _ hS) (sl.tups fun b xs z => s2 _ _ z) st ls hc hl⟩
end
end Fo
namespace Fo
open PySem PySem.Spec PyProof.Rows L2 GxR Nw Dr Kp Se Cl En
abbrev sWho : Stmt := topS 42
theorem scWho : FnScope ["thing"] ["thing"] (defScope sWho) := ⟨rfl, rfl, rfl, by decide +kernel, rfl, by decide +kernel, by decide +kernel⟩
abbrev sElf : Stmt := topS 45
abbrev nElf : List Str := ["claim", "held", "say"]
theorem scElf : FnScope nElf ["claim", "held"] (defScope sElf) := ⟨rfl, rfl, rfl, by decide +kernel, rfl, by decide +kernel, by decide +kernel⟩
abbrev sClo : Stmt := topS 46
theorem scClo : FnScope ["claims", "says", "held", "many", "claim", "left"] ["claims", "says"] (defScope sClo) := ⟨rfl, rfl, rfl, by decide +kernel, rfl, by decide +kernel, by decide +kernel⟩
abbrev sGon : Stmt := topS 48
theorem scGon : FnScope ["claims", "says", "steps", "held", "step"] ["claims", "says", "steps"] (defScope sGon) := ⟨rfl, rfl, rfl, by decide +kernel, rfl, by decide +kernel, by decide +kernel⟩
abbrev sIsf : Stmt := topS 49
theorem scIsf : FnScope ["claims", "says", "steps", "number", "held"] ["claims", "says", "steps", "number"] (defScope sIsf) := ⟨rfl, rfl, rfl, by decide +kernel, rfl, by decide +kernel, by decide +kernel⟩
abbrev sIss : Stmt := topS 50
theorem scIss : FnScope ["claims", "says", "steps", "held", "claim", "left"] ["claims", "says", "steps"] (defScope sIss) := ⟨rfl, rfl, rfl, by decide +kernel, rfl, by decide +kernel, by decide +kernel⟩
/-- the built-ins that stand as they stood -/
structure Zl (mg : Str → Option Value) : Prop where
  z_len : mg "len" = none
  z_list : mg "list" = none
  z_isinstance : mg "isinstance" = none
  z_int : mg "int" = none
  z_bool : mg "bool" = none
  z_tuple : mg "tuple" = none
theorem eq_nil {l : List Int} : PyData.eqv (.list (l.map PyData.int)) (.list []) = true ↔ l = [] := by
  cases l with
  | nil => exact ⟨fun _ => rfl, fun _ => rfl⟩
  | cons a r => exact ⟨fun h => absurd h (by simp [PyData.eqv, PyData.eqvAll]), fun h => nomatch h⟩
section
variable {P : Program} {w : World} {K : PySem.W.Frag} {mg : Str → Option Value} {base : Heap}
def spWho : Sp := fun vs H Q _ => ∃ k : Int, vs = [.int k] ∧ Q (.bl true) H
theorem ok_who {f : Addr} {fd : FuncData} {k : Nat} (F : Fun K "_law_e_whole" "_law_e_whole" sWho f fd) (T : Zl mg) : FnOk P w K mg base CX0 (k + 1) f fd ["thing"] spWho := by
  refine F.ok scWho (fun vs H Q E h => ?_) (fun cdv A outer s H vs Q E hr h => ?_)
  · obtain ⟨k, rfl, _⟩ := h
    rfl
  · obtain ⟨k, rfl, q⟩ := h
    refine ⟨_, (pss_one (ps_ret (pe_and (pe_callB call_isi (by rfl) T.z_isinstance (by decide +kernel) (pa_cons (pv 0) (pa_cons (pe_bltn (v := .ty "int") (u := .type "int") (by rfl) T.z_int (by decide +kernel) rfl) pa_nil))) (pe_one (pe_not (pe_callB call_isi (by rfl) T.z_isinstance (by decide +kernel) (pa_cons (pv 0) (pa_cons (pe_bltn (v := .ty "bool") (u := .type "bool") (by rfl) T.z_bool (by decide +kernel) rfl) pa_nil)))))))), ?_⟩
    refine ⟨_, rfl, .int k, .ty "int", .type "int", .type "int", true, rfl, .ty _, .base (.int k), kit_ty (by decide +kernel), _, rfl, ?_⟩
    refine ⟨_, rfl, .int k, .ty "bool", .type "int", .type "bool", false, rfl, .ty _, .base (.int k), kit_ty (by decide +kernel), _, rfl, q⟩
/-- left(claim, held) -/
def spElf : Sp := fun vs H Q _ => ∃ (v : V) (a : Addr) (cs held : List Int), vs = [v, .ref a] ∧ TupI H v cs ∧ H a = some (.lst (held.map V.int)) ∧ cs.length ≤ 20 ∧
  ∀ p H', H p = none → Same H H' → H' p = some (.lst ((left cs held).map V.int)) → Q (.ref p) H'
theorem ok_elf {f : Addr} {fd : FuncData} {k : Nat} (F : Fun K "_law_e_left" "_law_e_left" sElf f fd) : FnOk P w K mg base CX0 (k + 1) f fd ["claim", "held"] spElf := by
  refine F.ok scElf (fun vs H Q E h => ?_) (fun cdv A outer s H vs Q E hr h => ?_)
  · obtain ⟨v, a, cs, held, rfl, _⟩ := h
    rfl
  · obtain ⟨v, b, cs, held, rfl, ⟨a, rfl, ha⟩, hb, lc, q⟩ := h
    refine ⟨_, (pss_one (ps_ret (pe_lc (own := [("say", 2)]) (g := (gName 2))  rfl scElf.nd (pi_tup (pv 0)) (blkOk_by (N := nElf) (sc := defScope sElf) (by decide +kernel)) (fun _ _ _ _ _ => (pg_name (i := 2) scElf.nd rfl (.inl rfl))) (fun _ _ _ _ _ => (pts_one (pt_cmpR (op_notIn_seqB (K := K) rfl) (pe_op op_sub pe_int (pv 2)) (pv 1) (by rfl)))) (fun _ _ _ _ _ => (pv 2))))), ?_⟩
    refine ⟨_, rfl, a, rfl, ⟨_, .of ha⟩, fun D nD => ?_⟩
    refine lc_tup (xs := cs.map V.int) (Pv := fun i H' => Same H H' ∧ H' D = some (.lst (((cs.take i).filter fun s => !inV (.int (-s)) (held.map V.int)).map V.int))) ⟨same_new nD, upd_same⟩ (fun i H' _ p => .of (p.1 _ _ ha)) ?_ ?_
    · rintro i x H' hx ⟨s1, hD⟩
      obtain ⟨z, hz, rfl⟩ := at_int hx
      have ft := Sl.filter_take (f := fun s => !inV (.int (-s)) (held.map V.int)) hz
      refine ⟨rfl, _, rfl, _, _, rfl, rfl, _, rfl, b, _, rfl, .inl (.of (s1 _ _ hb)), rfl, ints_flat held, _, rfl, ite2 (fun y1 => ?_) (fun y1 => ?_)⟩
      · have y1 : (!inV (.int (0 - z)) (held.map V.int)) = true := y1
        rw [Int.zero_sub] at y1
        refine ⟨_, rfl, _, hD, ?_, fun c o y => ?_, ?_⟩
        · rw [List.length_map]
          exact small1000 (Nat.le_trans (List.length_filter_le _ _) (by rw [List.length_take]; omega))
        · rw [upd_ne (ne_of_none y nD)]
          exact s1 _ _ y
        · rw [upd_same, ft, if_pos y1, List.map_append]
          rfl
      · have y1 : ¬ (!inV (.int (0 - z)) (held.map V.int)) = true := y1
        rw [Int.zero_sub] at y1
        refine ⟨s1, ?_⟩
        rw [ft, if_neg y1, List.append_nil]
        exact hD
    · rintro H' ⟨s1, hD⟩
      rw [List.length_map, List.take_length] at hD
      exact q D H' nD s1 hD
/-- closed(claims, says) -/
def spClo : Sp := fun vs H Q _ => ∃ (v : V) (a : Addr) (css : List (List Int)) (says : List Int), vs = [v, .ref a] ∧ Bk H v css ∧ H a = some (.lst (says.map V.int)) ∧ (∀ cs ∈ css, Sy cs) ∧ Sy says ∧
  (∀ H', Ke Nof H H' → Fall css says → Q .non H') ∧ ∀ H' p, Ke Nof H H' → ¬ Fall css says → Q (.ref p) H'
theorem ok_clo {f fL : Addr} {fd fdL : FuncData} {k : Nat} (F : Fun K "_law_e_closed" "_law_e_closed" sClo f fd) (T : Zl mg) (FL : Fun K "_law_e_left" "_law_e_left" sElf fL fdL) (bL : Binds K fdL ["claim", "held"] []) (gL : mg "_law_e_left" = some (.ref fL)) (GL : FnOk P w K mg base CX0 1 fL fdL ["claim", "held"] spElf) :
    FnOk P w K mg base CX0 (k + 2) f fd ["claims", "says"] spClo := by
  refine F.ok scClo (fun vs H Q E h => ?_) (fun cdv A outer s H vs Q E hr h => ?_)
  · obtain ⟨v, a, css, says, rfl, _⟩ := h
    rfl
  · obtain ⟨v, a, css, says, rfl, ⟨b, bvs, rfl, hb, lv, hv⟩, ha, sy, sa, q1, q2⟩ := h
    have hr1 : Room 1 _ := hr.mono (by omega)
    refine ⟨_, (Evl.pss_cut (ps_set (i := 2) scClo.nd rfl (.inl rfl) (pe_callTy call_list_ofN (by rfl) T.z_list (by decide +kernel) (pa_cons (pv 1) pa_nil)))
      (Evl.pss_cut (ps_set (i := 3) scClo.nd rfl (.inl rfl) (pe_un un_neg pe_int))
      (Evl.pss_cut (ps_while PassesOwn.never (pt_cmpR op_ne (pv 3) (pe_callB call_len_seq (by rfl) T.z_len (by decide +kernel) (pa_cons (pv 2) pa_nil)) (nomark _)) (Evl.pss_cut (ps_set (i := 3) scClo.nd rfl (.inl rfl) (pe_callB call_len_seq (by rfl) T.z_len (by decide +kernel) (pa_cons (pv 2) pa_nil)))
      (pss_one (ps_for PassesOwn.never rfl (pi_tup (pv 0)) (pg_name (i := 4) scClo.nd rfl (.inl rfl)) (Evl.pss_cut (ps_set (i := 5) scClo.nd rfl (.inl rfl) (pe_call GL hr1 (by rfl) gL FL.kp bL .nil pass0 (pa_cons (pv 4) (pa_cons (pv 2) pa_nil))))
      (Evl.pss_cut (ps_if (pt_cmpR (op_eqD hr.units) (pv 5) (pe_lstN pa_nil) (nomark _)) (pss_one (ps_ret pe_non)) pss_nil)
      (pss_one (ps_if (PW.pt (pw_and (pt_cmpR op_eq (pe_callB call_len_seq (by rfl) T.z_len (by decide +kernel) (pa_cons (pv 5) pa_nil)) pe_int (nomark _)) (pw_and1 (pt_cmpR op_notIn_seq (pe_ix ix_list (pv 5) pe_int (fun _ _ => rfl)) (pv 2) (by rfl))))) (pss_one (ps_expr (pe_bm PySem.F.plainAttrs_list PySem.F.slot_list_append PySem.F.type_list_append mt_append (pv 2) (pa_cons (pe_ix ix_list (pv 5) pe_int (fun _ _ => rfl)) pa_nil)))) pss_nil))))))))
      (pss_one (ps_ret (pv 2)))))), ?_⟩
    refine Evl.q_cut (M := fun σ' H' => ∃ D, σ' = [some (.ref b), some (.ref a), some (.ref D), none, none, none] ∧ H D = none ∧ Same H H' ∧ H' D = some (.lst (says.map V.int))) ?_ ?_
    · exact ⟨_, rfl, a, _, rfl, .inl (.of ha), fun D H1 nD s1 hD _ => ⟨D, rfl, nD, s1, hD⟩⟩
    rintro σ' H1 ⟨D, rfl, nD, s1, hD⟩
    have frD : Frs H D := .of nD
    refine Evl.q_cut (M := fun σ' H' => σ' = [some (.ref b), some (.ref a), some (.ref D), some (.int (-1)), none, none] ∧ H' = H1) ?_ ?_
    · exact ⟨_, rfl, rfl, rfl⟩
    rintro σ' H1' ⟨rfl, rfl⟩
    refine Evl.q_cut (M := fun σ' H' => ∃ y3 y4 y5, σ' = [some (.ref b), some (.ref a), some (.ref D), y3, y4, y5] ∧ Ke Nof H H' ∧ ¬ Fall css says) ?_ ?_
    · refine ⟨fun m σ H' => ∃ (many : Int) (hd : List Int) (y4 y5 : Option V), m = 2 * (18 - hd.length) + (if many = hd.length then 0 else 1) ∧ σ = [some (.ref b), some (.ref a), some (.ref D), some (.int many), y4, y5] ∧ Ke Nof H H' ∧ H' D = some (.lst (hd.map V.int)) ∧ Sy hd ∧ (∀ s ∈ says, s ∈ hd) ∧ (∀ x ∈ hd, Der css says x) ∧ (many = hd.length → Stand css hd), ⟨_, -1, says, none, none, rfl, rfl, .same s1, hD, sa, fun s hs => hs, fun x hx => .base hx, fun z => by omega⟩, ?_⟩
      clear hD s1 H1'
      rintro m σ H1 ⟨many, hd, y4, y5, rfl, rfl, k1, hD, sh, sub, der, std⟩
      have l17 := sh.len
      refine ⟨_, rfl, _, rfl, D, _, rfl, .inl (.of hD), rfl, _, rfl, ite2 (fun e => ?_) (fun e => ?_)⟩
      · have ne : many ≠ hd.length := fun z => by
          rw [z, List.length_map] at e
          simp at e
        refine ⟨fun σ' H' => ∃ (hd' : List Int) (y4 y5 : Option V), σ' = [some (.ref b), some (.ref a), some (.ref D), some (.int (hd.length : Nat)), y4, y5] ∧ Ke Nof H H' ∧ H' D = some (.lst (hd'.map V.int)) ∧ Sy hd' ∧ (∀ s ∈ says, s ∈ hd') ∧ (∀ x ∈ hd', Der css says x) ∧ hd.length ≤ hd'.length ∧ (hd'.length = hd.length → Stand css hd'), ?_, ?_⟩
        · rintro σ' H' ⟨hd', z4, z5, rfl, h1, h2, h3, h4, h5, h6, h7⟩
          have l17' := h3.len
          refine ⟨_, ?_, (hd.length : Nat), hd', z4, z5, rfl, rfl, h1, h2, h3, h4, h5, fun z => h7 (by omega)⟩
          rw [if_neg ne]
          split <;> omega
        -- many = len(held)
        refine Evl.q_cut (M := fun σ' H' => σ' = [some (.ref b), some (.ref a), some (.ref D), some (.int (hd.length : Nat)), y4, y5] ∧ H' = H1) ?_ ?_
        · exact ⟨_, rfl, D, _, rfl, .inl (.of hD), by rw [List.length_map]; exact ⟨rfl, rfl⟩⟩
        rintro σ' H1' ⟨rfl, rfl⟩
        have hb1 := k1.tups _ _ hb
        refine ⟨_, rfl, b, rfl, ⟨_, .of hb1⟩, for_tup (K := K) (a := b) (xs := bvs) (Pv := fun i σ H' => ∃ (hd' : List Int) (y4 y5 : Option V), σ = [some (.ref b), some (.ref a), some (.ref D), some (.int (hd.length : Nat)), y4, y5] ∧ Ke Nof H H' ∧ H' D = some (.lst (hd'.map V.int)) ∧ Sy hd' ∧ (∀ s ∈ says, s ∈ hd') ∧ (∀ x ∈ hd', Der css says x) ∧ hd.length ≤ hd'.length ∧ (hd'.length = hd.length → ∀ cs ∈ css.take i, left cs hd' ≠ [] ∧ ∀ x, ¬ Forces cs hd' x)) ?_ (fun i σ H' _ p => ?_) ?_ ?_⟩
        · exact ⟨hd, y4, y5, rfl, k1, hD, sh, sub, der, Nat.le_refl _, fun _ cs hc => by simp at hc⟩
        · obtain ⟨_, _, _, _, k2, _⟩ := p
          exact .of (k2.tups _ _ hb)
        · rintro i x σ H2 hx ⟨hd', z4, z5, rfl, k2, hD2, sh2, sub2, der2, le2, std2⟩
          obtain ⟨cs, hc, tx⟩ := bk_at (a := b) lv hv hx
          have hcm := List.mem_of_getElem? hc
          have lcs := (sy cs hcm).len
          -- left
          refine Evl.q_cut (M := fun σ' H' => ∃ L, σ' = [some (.ref b), some (.ref a), some (.ref D), some (.int (hd.length : Nat)), some x, some (.ref L)] ∧ Same H2 H' ∧ H' L = some (.lst ((left cs hd').map V.int))) ?_ ?_
          · exact ⟨_, rfl, _, rfl, x, D, cs, hd', rfl, tx.ke k2, hD2, by omega, fun L H3 nL s3 hL => ⟨L, rfl, s3, hL⟩⟩
          rintro σ' H3 ⟨L, rfl, s3, hL⟩
          -- if left == []
          refine Evl.q_cut (M := fun σ' H' => σ' = [some (.ref b), some (.ref a), some (.ref D), some (.int (hd.length : Nat)), some x, some (.ref L)] ∧ Same H3 H' ∧ left cs hd' ≠ []) ?_ ?_
          · refine ⟨_, rfl, Nat.zero_le _, fun p5 H5 np5 s5 hp5 _ => ?_⟩
            refine ⟨_, _, .lst (.of (s5 _ _ hL)) (dp_ints _), .lst (.of hp5) .nil, shaped_list (flat_ints _), shaped_list rfl, _, rfl, ite2 (fun e => ?_) (fun e => ?_)⟩
            · exact q1 H5 (k2.trans (.same (s3.trans s5))) (fall_of der2 hcm (eq_nil.mp e))
            · exact ⟨rfl, s5, fun z => e (eq_nil.mpr z)⟩
          rintro σ' H4 ⟨rfl, s4, nl⟩
          have s34 := s3.trans s4
          have k4 : Ke Nof H H4 := k2.trans (.same s34)
          have hD4 := s34 _ _ hD2
          have hL4 := s4 _ _ hL
          have tk : ∀ cs', cs' ∈ css.take (i + 1) → cs' ∈ css.take i ∨ cs' = cs := fun cs' h' => by
            rw [List.take_add_one, hc] at h'
            rcases List.mem_append.mp h' with y | y
            · exact .inl y
            · exact .inr (by simpa using y)
          -- if len(left) == 1 and ..
          refine ⟨_, rfl, L, _, rfl, .inl (.of hL4), rfl, _, rfl, ite2 (fun e => ?_) (fun e => ?_)⟩
          · have l1 : (left cs hd').length = 1 := by
              have := V.int.inj (of_decide_eq_true e)
              rw [List.length_map] at this
              omega
            obtain ⟨y, hy⟩ := List.length_eq_one_iff.mp l1
            rw [hy] at hL4
            refine ⟨_, rfl, L, _, 0, .int y, rfl, rfl, .of hL4, rfl, _, rfl, D, _, rfl, .inl (.of hD4), rfl, ints_flat hd', _, rfl, ite2 (fun e2 => ?_) (fun e2 => ?_)⟩
            · have e2 : (!inV (.int y) (hd'.map V.int)) = true := e2
              have fo : Forces cs hd' y := ⟨hy, fun z => by
                rw [(in_ints _ _).mpr z] at e2
                cases e2⟩
              have l17' := sh2.len
              refine ⟨_, rfl, .inl ⟨rfl, _, .of hD4⟩, _, rfl, L, _, 0, .int y, rfl, rfl, .of hL4, rfl, D, _, _, rfl, rfl, hD4, small1000 (by rw [List.length_map]; omega), ?_⟩
              refine ⟨hd' ++ [y], _, _, rfl, k4.write frD hD4, by rw [upd_same]; simp, sy_snoc sh2 (sy cs hcm) fo, fun s hs => List.mem_append_left _ (sub2 s hs), fun z hz => ?_, by rw [List.length_append]; omega, fun z => ?_⟩
              · rcases List.mem_append.mp hz with u | u
                · exact der2 z u
                · rw [List.mem_singleton.mp u]
                  exact der_of der2 hcm fo
              · rw [List.length_append, List.length_singleton] at z
                omega
            · have e2 : ¬ (!inV (.int y) (hd'.map V.int)) = true := e2
              refine ⟨hd', _, _, rfl, k4, hD4, sh2, sub2, der2, le2, fun z cs' h' => ?_⟩
              rcases tk cs' h' with u | rfl
              · exact std2 z cs' u
              · refine ⟨nl, fun x' ⟨h1, h2⟩ => ?_⟩
                rw [hy] at h1
                cases h1
                cases z : inV (.int y) (hd'.map V.int) with
                | true => exact h2 ((in_ints _ _).mp z)
                | false =>
                  rw [z] at e2
                  exact e2 rfl
          · refine ⟨hd', _, _, rfl, k4, hD4, sh2, sub2, der2, le2, fun z cs' h' => ?_⟩
            rcases tk cs' h' with u | rfl
            · exact std2 z cs' u
            · refine ⟨nl, fun x' ⟨h1, h2⟩ => ?_⟩
              rw [h1] at e
              exact e rfl
        · rintro σ H2 ⟨hd', z4, z5, rfl, k2, hD2, sh2, sub2, der2, le2, std2⟩
          rw [lv, List.take_length] at std2
          exact ⟨hd', z4, z5, rfl, k2, hD2, sh2, sub2, der2, le2, std2⟩
      · have em : many = hd.length := by
          have e : ¬ (!decide (V.int many = V.int ((hd.map V.int).length : Nat))) = true := e
          rw [List.length_map] at e
          exact Classical.byContradiction fun z => e (by rw [decide_eq_false fun u => z (V.int.inj u)]; rfl)
        exact ⟨_, _, _, rfl, k1, (std em).no (fun cs hc => (sy cs hc).nd) sub⟩
    rintro σ' H2 ⟨y3, y4, y5, rfl, k2, nf⟩
    exact ⟨_, rfl, q2 H2 D k2 nf⟩
end
end Fo
namespace L2
open PySem PySem.Spec PyProof.Rows
theorem pe_bmB {X : Cx} {K : PySem.W.Frag} {T : String} {name : Str} {id : String} {r : V → List V → Hp → VK → Prop} {o e : Expr} {es : List Expr} {to : TE} {t : TA} {apos cpos : Pos} (hK : X.K = K) (pa : PlainAttrs T) (slot : Slot T name id) (hty : typeOf (.builtin id) = pure (.type "method_descriptor")) (hm : MtR X id r) (ho : PE X o to) (ha : PA X (e :: es) t)
    (hbase : attributeBase o name X.env (eval o X.env) = eval o X.env := by rfl)
    (hfew : ((backTo cpos (starEach (e :: es) X.env)).all (fun x => !x.1) && (backToKw cpos (keywordEach [] X.env)).all (fun x => x.1.isSome)
      && decide ((e :: es).length + ([] : List Keyword).length + (if ([] : List Keyword).isEmpty then 0 else 1) < 30)) = true := by rfl)
    (hline : (apos.endLine == cpos.line) = true := by rfl) (hs : starEach (e :: es) X.env = (false, eval e X.env) :: starEach es X.env := by rfl) (hplain : (backTo cpos (starEach es X.env)).any (·.1) = false := by rfl) :
    PE X (.Call (.Attribute o name apos) (e :: es) [] cpos) (tBM K T r to t) := by
  subst hK
  exact pe_bm pa slot hty hm ho ha hbase hfew hline hs hplain
end L2
namespace Nw
open PySem PySem.Spec PyProof.Rows L2
theorem call_tuple_ofNB {X : Cx} {K : PySem.W.Frag} (h : X.K = K) : CallR X (.type "tuple") (fun xs H Q => ∃ p ys, xs = [.ref p] ∧ SqL K H p ys ∧ New H (.tup ys) Q) := by subst h; exact call_tuple_ofN
theorem cr_sortedNB {X : Cx} {K : PySem.W.Frag} (h : X.K = K) : CallR X (.builtin "sorted") (fun vs H Q => ∃ (a : Addr) (ns : List Int), vs = [V.ref a] ∧ SqL K H a (ns.map V.int) ∧ ∀ ns' : List Int, ns'.Perm ns → ns'.Pairwise (· ≤ ·) → New H (.lst (ns'.map V.int)) Q) := by subst h; exact cr_sortedN
end Nw
namespace Fd
open PySem PySem.Spec PyProof.Rows L2 GxR Nw Dr Kp Se Cl En Fo
theorem _root_.Kp.Ke.upd' {F : Addr → Prop} {H H1 : Hp} {p : Addr} {o : HO} (k : Ke F H H1) (fr : Frs H p) (n : H1 p = none) : Ke F H (L2.upd H1 p o) := k.trans (.same (same_new n))
theorem perm_popV {α : Type} : ∀ {l : List α} {d : Nat} {y : α}, l[d]? = some y → (y :: l.eraseIdx d).Perm l
  | [], _, _, h => by simp at h
  | a :: r, 0, y, h => by
    have e : a = y := Option.some.inj h
    subst e
    exact .refl _
  | a :: r, d + 1, y, h => by
    have ih := perm_popV (l := r) (d := d) (y := y) h
    exact (List.Perm.swap a y _).trans (.cons a ih)
/-- each of the values is a claim -/
def GoodL (H : Hp) (vs : List V) : Prop := ∀ v ∈ vs, ∃ cs, TupI H v cs ∧ Sy cs
theorem GoodL.tups {H H' : Hp} {vs : List V} (h : GoodL H vs) (k : ∀ b xs, H b = some (.tup xs) → H' b = some (.tup xs)) : GoodL H' vs := fun v hv => by
  obtain ⟨cs, ⟨a, e, ha⟩, sy⟩ := h v hv
  exact ⟨cs, ⟨a, e, k _ _ ha⟩, sy⟩
theorem good_css {H : Hp} : ∀ {vs : List V}, GoodL H vs → ∃ css : List (List Int), vs.length = css.length ∧ (∀ (i : Nat) (x : V) (cs : List Int), vs[i]? = some x → css[i]? = some cs → TupI H x cs) ∧ ∀ cs ∈ css, Sy cs
  | [], _ => ⟨[], rfl, fun i x cs h => by simp at h, fun cs h => nomatch h⟩
  | v :: r, h => by
    obtain ⟨css, l, t, s⟩ := good_css (vs := r) fun u hu => h u (List.mem_cons_of_mem _ hu)
    obtain ⟨cs, tv, sv⟩ := h v List.mem_cons_self
    refine ⟨cs :: css, by rw [List.length_cons, List.length_cons, l], fun i x ds h1 h2 => ?_, fun ds hd => ?_⟩
    · cases i with
      | zero =>
        cases h1
        cases h2
        exact tv
      | succ i => exact t i x ds h1 h2
    · rcases List.mem_cons.mp hd with e | e
      · rw [e]
        exact sv
      · exact s ds e
theorem good_of {H : Hp} {vs : List V} {css : List (List Int)} (l : vs.length = css.length) (h : ∀ (i : Nat) (x : V) (cs : List Int), vs[i]? = some x → css[i]? = some cs → TupI H x cs) (s : ∀ cs ∈ css, Sy cs) : GoodL H vs := fun v hv => by
  obtain ⟨i, hi, e⟩ := List.getElem_of_mem hv
  have h2 := List.getElem?_eq_getElem (show i < css.length by omega)
  exact ⟨_, h i v _ (by rw [List.getElem?_eq_getElem hi, e]) h2, s _ (List.getElem_mem _)⟩
theorem sy_perm {ns ms : List Int} (p : ns.Perm ms) (h : Sy ms) : Sy ns := ⟨p.nodup_iff.mpr h.nd, fun s hs => h.bd s (p.mem_iff.mp hs)⟩
/-- eight says of eight things -/
structure Od (ord : List Int) : Prop where
  len : ord.length = 8
  nd : (ord.map fun s => (s.natAbs : Int)).Nodup
  bd : ∀ s ∈ ord, 1 ≤ (s.natAbs : Int) ∧ (s.natAbs : Int) ≤ 8
theorem Od.two {ord : List Int} (h : Od ord) {i j : Nat} {a b : Int} (hi : ord[i]? = some a) (hj : ord[j]? = some b) (ne : i ≠ j) : a.natAbs ≠ b.natAbs := fun e => ne (by
  have li := (List.getElem?_eq_some_iff.mp hi).1
  have lj := (List.getElem?_eq_some_iff.mp hj).1
  have z : (ord.map fun s => (s.natAbs : Int))[i]'(by rw [List.length_map]; exact li) = (ord.map fun s => (s.natAbs : Int))[j]'(by rw [List.length_map]; exact lj) := by
    rw [List.getElem_map, List.getElem_map, (List.getElem?_eq_some_iff.mp hi).2, (List.getElem?_eq_some_iff.mp hj).2, e]
  exact (List.getElem_inj h.nd).mp z)
theorem sy_two {x y : Int} (h : x ≠ y) (hx : -8 ≤ x ∧ x ≤ 8) (hy : -8 ≤ y ∧ y ≤ 8) : Sy [x, y] := by
  refine ⟨List.nodup_cons.mpr ⟨fun z => h (List.mem_singleton.mp z), by simp⟩, fun s hs => ?_⟩
  rcases List.mem_cons.mp hs with e | e
  · rw [e]
    exact hx
  · rw [List.mem_singleton.mp e]
    exact hy
theorem sy_one {x : Int} (hx : -8 ≤ x ∧ x ≤ 8) : Sy [x] := ⟨by simp, fun s hs => by rw [List.mem_singleton.mp hs]; exact hx⟩
theorem small1000' {n : Nat} (h : n ≤ 1000) : n ≤ sizeLine := Nat.le_trans h (by decide)
theorem cut_to (xs : List V) (n : Nat) : cutV xs none (some (n : Int)) = xs.take n := by
  unfold cutV
  rw [HT.sIx_none, HT.sIx_nat, List.drop_zero, Nat.sub_zero]
  by_cases h : n ≤ xs.length
  · rw [Nat.min_eq_left h]
  · rw [Nat.min_eq_right (by omega), List.take_length, List.take_of_length_le (by omega)]
end Fd
namespace Te
open PySem PySem.Spec PyProof.Rows L2 GxR Nw Dr Kp Se Cl En Fo Fd
abbrev sOpp : Stmt := topS 32
abbrev nOpp : List Str := ["claim", "say"]
theorem scOpp : FnScope nOpp ["claim"] (defScope sOpp) := ⟨rfl, rfl, rfl, by decide +kernel, rfl, by decide +kernel, by decide +kernel⟩
abbrev sFbf : Stmt := topS 33
theorem scFbf : FnScope ["claims", "claim"] ["claims", "claim"] (defScope sFbf) := ⟨rfl, rfl, rfl, by decide +kernel, rfl, by decide +kernel, by decide +kernel⟩
abbrev sWrg : Stmt := topS 34
theorem scWrg : FnScope ["book", "telling", "number", "claim"] ["book", "telling"] (defScope sWrg) := ⟨rfl, rfl, rfl, by decide +kernel, rfl, by decide +kernel, by decide +kernel⟩
abbrev sEfa : Stmt := topS 47
abbrev nEfa : List Str := ["claims", "claim", "say"]
theorem scEfa : FnScope nEfa ["claims", "claim"] (defScope sEfa) := ⟨rfl, rfl, rfl, by decide +kernel, rfl, by decide +kernel, by decide +kernel⟩
abbrev sEwr : Stmt := topS 54
theorem scEwr : FnScope ["book", "telling", "at"] ["book", "telling"] (defScope sEwr) := ⟨rfl, rfl, rfl, by decide +kernel, rfl, by decide +kernel, by decide +kernel⟩
structure Zt (mg : Str → Option Value) : Prop where
  z_len : mg "len" = none
  z_tuple : mg "tuple" = none
  z_range : mg "range" = none
  z_enumerate : mg "enumerate" = none
theorem for_enl {K : PySem.W.Frag} {a : Addr} {xs : List V} {g : TG} {tb : TS} {D : Ends} {σ : L2.St} {H : Hp} (Pv : Nat → L2.St → Hp → Prop) (h0 : Pv 0 σ H) (hl : ∀ i σ H, i ≤ xs.length → Pv i σ H → SqL K H a xs)
    (hs : ∀ i x σ H T, xs[i]? = some x → Pv i σ H → H T = none → g (.ref T) σ (upd H T (.tup [.int (i : Nat), x])) fun σ2 H2 => tb { D with nx := Pv (i + 1), ct := Pv (i + 1), bk := D.nx } σ2 H2) (hd : ∀ σ H, Pv xs.length σ H → D.nx σ H) :
    ∃ W : Nat → Nat → L2.St → Hp → Prop, (∃ m, W 0 m σ H) ∧ ∀ i m σ H, W i m σ H →
      ((Ite K a).stop i H ∧ D.nx σ H) ∨ ((Ite K a).go i H ∧ ∃ N : L2.St → Hp → Prop, (∀ σ' H', N σ' H' → ∃ m', m' < m ∧ W (i + 1) m' σ' H') ∧ ∀ x H', (Ite K a).yld i H x H' → g x σ H' fun σ2 H2 => tb { D with nx := N, ct := N, bk := D.nx } σ2 H2) := by
  refine ⟨fun i m σ H => i + m = xs.length ∧ Pv i σ H, ⟨xs.length, Nat.zero_add _, h0⟩, fun i m σ H ⟨e, p⟩ => ?_⟩
  have sq := hl i σ H (by omega) p
  cases m with
  | zero =>
    obtain rfl : i = xs.length := by omega
    exact .inl ⟨⟨xs, sq, Nat.le_refl _⟩, hd σ H p⟩
  | succ m =>
    have hx := List.getElem?_eq_getElem (show i < xs.length by omega)
    refine .inr ⟨⟨xs, _, sq, hx⟩, Pv (i + 1), fun σ' H' q => ⟨m, Nat.lt_succ_self m, by omega, q⟩, ?_⟩
    rintro y H' ⟨T, x, rfl, nT, rfl, hy⟩
    exact hs i x σ H T (hy xs sq) p nT
/-! ### what is told by claims alone -/
def neg (cs : List Int) : List Int := cs.map fun s => -s
theorem sy_neg {cs : List Int} (h : Sy cs) : Sy (neg cs) := by
  refine ⟨List.pairwise_map.mpr (h.nd.imp fun {a b} z e => z (by omega)), fun s hs => ?_⟩
  obtain ⟨t, ht, rfl⟩ := List.mem_map.mp hs
  have := h.bd t ht
  omega
/-- the claim i follows by force -/
def Foll (css tss : List (List Int)) (i : Nat) : Prop := ∀ cs, tss[i]? = some cs → Fall (css ++ tss.take i) (neg cs)
def Wr (css tss : List (List Int)) (n : Nat) : Prop := (∃ cs, tss[n]? = some cs ∧ ¬ Fall (css ++ tss.take n) (neg cs)) ∧ ∀ i < n, Foll css tss i
def NoWr (css tss : List (List Int)) : Prop := ∀ i < tss.length, Foll css tss i
theorem Wr.one {css tss : List (List Int)} {n m : Nat} (a : Wr css tss n) (b : Wr css tss m) : n = m := by
  obtain ⟨⟨c1, h1, f1⟩, g1⟩ := a
  obtain ⟨⟨c2, h2, f2⟩, g2⟩ := b
  rcases Nat.lt_trichotomy n m with z | z | z
  · exact absurd (g2 n z c1 h1) f1
  · exact z
  · exact absurd (g1 m z c2 h2) f2
theorem Wr.no {css tss : List (List Int)} {n : Nat} (a : Wr css tss n) (b : NoWr css tss) : False := by
  obtain ⟨⟨c1, h1, f1⟩, g1⟩ := a
  exact f1 (b n (List.getElem?_eq_some_iff.mp h1).1 c1 h1)
/-- a list of claims -/
def Lc (H : Hp) (t : Addr) (tvs : List V) (tss : List (List Int)) : Prop := H t = some (.lst tvs) ∧ tvs.length = tss.length ∧ ∀ (i : Nat) (x : V) (cs : List Int), tvs[i]? = some x → tss[i]? = some cs → TupI H x cs
theorem bk_cat {H : Hp} {p : Addr} {bvs tvs : List V} {css tss : List (List Int)} (hp : H p = some (.tup (bvs ++ tvs))) (l1 : bvs.length = css.length) (h1 : ∀ (i : Nat) (x : V) (cs : List Int), bvs[i]? = some x → css[i]? = some cs → TupI H x cs)
    (l2 : tvs.length = tss.length) (h2 : ∀ (i : Nat) (x : V) (cs : List Int), tvs[i]? = some x → tss[i]? = some cs → TupI H x cs) : Bk H (.ref p) (css ++ tss) := by
  refine ⟨p, _, rfl, hp, by rw [List.length_append, List.length_append, l1, l2], fun i x cs e1 e2 => ?_⟩
  by_cases hi : i < bvs.length
  · rw [List.getElem?_append_left hi] at e1
    rw [List.getElem?_append_left (by omega)] at e2
    exact h1 i x cs e1 e2
  · rw [List.getElem?_append_right (by omega)] at e1
    rw [List.getElem?_append_right (by omega), ← l1] at e2
    exact h2 _ x cs e1 e2
theorem take_at {α : Type} {l : List α} {n i : Nat} {x : α} (h : (l.take n)[i]? = some x) : l[i]? = some x := by
  rw [List.getElem?_take] at h
  split at h
  · exact h
  · cases h
section
variable {P : Program} {w : World} {K : PySem.W.Frag} {mg : Str → Option Value} {base : Heap}
def spOpp : Sp := fun vs H Q _ => ∃ (v : V) (cs : List Int), vs = [v] ∧ TupI H v cs ∧ cs.length ≤ 20 ∧ ∀ p H', H p = none → Same H H' → H' p = some (.lst ((neg cs).map V.int)) → Q (.ref p) H'
theorem ok_opp {f : Addr} {fd : FuncData} {k : Nat} (F : Fun K "opposites" "opposites" sOpp f fd) : FnOk P w K mg base CX0 (k + 1) f fd ["claim"] spOpp := by
  refine F.ok scOpp (fun vs H Q E h => ?_) (fun cdv A outer s H vs Q E hr h => ?_)
  · obtain ⟨v, cs, rfl, _⟩ := h
    rfl
  · obtain ⟨v, cs, rfl, ⟨a, rfl, ha⟩, lc, q⟩ := h
    refine ⟨_, (pss_one (ps_ret (pe_lc (own := [("say", 1)]) (g := (gName 1)) (tt := tYes) rfl scOpp.nd (pi_tup (pv 0)) (blkOk_by (N := nOpp) (sc := defScope sOpp) (by decide +kernel)) (fun _ _ _ _ _ => (pg_name (i := 1) scOpp.nd rfl (.inl rfl))) (fun _ _ _ _ _ => pts_nil) (fun _ _ _ _ _ => (pe_un un_neg (pv 1)))))), ?_⟩
    refine ⟨_, rfl, a, rfl, ⟨_, .of ha⟩, fun D nD => ?_⟩
    refine lc_tup (xs := cs.map V.int) (Pv := fun i H' => Same H H' ∧ H' D = some (.lst ((neg (cs.take i)).map V.int))) ⟨same_new nD, upd_same⟩ (fun i H' _ p => .of (p.1 _ _ ha)) ?_ ?_
    · rintro i x H' hx ⟨s1, hD⟩
      obtain ⟨z, hz, rfl⟩ := at_int hx
      refine ⟨rfl, _, rfl, _, rfl, _, hD, ?_, fun c o y => ?_, ?_⟩
      · unfold neg
        rw [List.length_map, List.length_map, List.length_take]
        exact small1000 (by omega)
      · rw [upd_ne (ne_of_none y nD)]
        exact s1 _ _ y
      · rw [upd_same, List.take_add_one, hz]
        simp [neg]
    · rintro H' ⟨s1, hD⟩
      rw [List.length_map, List.take_length] at hD
      exact q D H' nD s1 hD
/-- follows_by_force(claims, claim), falls(claims, claim) -/
def spFbf (Po : Addr) : Sp := fun vs H Q _ => ∃ (v u : V) (css : List (List Int)) (cs : List Int), vs = [v, u] ∧ Bk H v css ∧ TupI H u cs ∧ (∀ cs ∈ css, Sy cs) ∧ Sy cs ∧ TabG H Po ∧ ∀ H' b, Ke Nof H H' → (b = true ↔ Fall css (neg cs)) → Q (.bl b) H'
theorem ok_fbf {f fF fO Po : Addr} {fd fdF fdO : FuncData} {k : Nat} (F : Fun K "follows_by_force" "follows_by_force" sFbf f fd)
    (FF : Fun K "forced" "forced" sFod fF fdF) (bF : Binds K fdF ["claims", "says"] []) (gF : mg "forced" = some (.ref fF)) (GF : FnOk P w K mg base CX0 5 fF fdF ["claims", "says"] (spFod Po))
    (FO : Fun K "opposites" "opposites" sOpp fO fdO) (bO : Binds K fdO ["claim"] []) (gO : mg "opposites" = some (.ref fO)) (GO : FnOk P w K mg base CX0 1 fO fdO ["claim"] spOpp) :
    FnOk P w K mg base CX0 (k + 6) f fd ["claims", "claim"] (spFbf Po) := by
  refine F.ok scFbf (fun vs H Q E h => ?_) (fun cdv A outer s H vs Q E hr h => ?_)
  · obtain ⟨v, u, css, cs, rfl, _⟩ := h
    rfl
  · obtain ⟨v, u, css, cs, rfl, hb, hu, sy, sc, tg, q⟩ := h
    have hr5 : Room 5 _ := hr.mono (by omega)
    have hr1 : Room 1 _ := hr.mono (by omega)
    have lc := sc.len
    refine ⟨_, (pss_one (ps_ret (pe_cmpR op_eq (pe_ix ix_tup (pe_call GF hr5 (by rfl) gF FF.kp bF .nil pass0 (pa_cons (pv 0) (pa_cons (pe_call GO hr1 (by rfl) gO FO.kp bO .nil pass0 (pa_cons (pv 1) pa_nil)) pa_nil))) pe_int (fun _ _ => rfl)) pe_str (nomark _)))), ?_⟩
    refine ⟨_, rfl, _, rfl, u, cs, rfl, hu, by omega, fun L H1 nL s1 hL => ?_⟩
    have k1 : Ke Nof H H1 := .same s1
    refine ⟨v, L, css, neg cs, rfl, hb.ke k1, hL, sy, sy_neg sc, k1.tabs _ tg, fun H2 p S us steps n ds k2 fr hp hS sl st ls hc hl => ?_, fun H2 p S us steps k2 fr hp hS sl st ls sd => ?_⟩
    · exact ⟨p, _, 0, .str "falls", rfl, rfl, .of hp, rfl, rfl, q H2 _ (k1.trans k2) ⟨fun _ => fall_of st.all (List.mem_of_getElem? hc) hl, fun _ => rfl⟩⟩
    · refine ⟨p, _, 0, .str "stands", rfl, rfl, .of hp, rfl, rfl, q H2 _ (k1.trans k2) ⟨fun z => ?_, fun z => ?_⟩⟩
      · exact absurd z (by decide)
      · exact absurd z (sd.no (fun cs hc => (sy cs hc).nd) fun s hs => List.mem_append_left _ hs)
/-- wrong_at(book, telling), wrong(book, telling) -/
def spWrg (Po : Addr) : Sp := fun vs H Q _ => ∃ (v : V) (t : Addr) (tvs : List V) (css tss : List (List Int)), vs = [v, .ref t] ∧ Bk H v css ∧ Lc H t tvs tss ∧ (∀ cs ∈ css, Sy cs) ∧ (∀ cs ∈ tss, Sy cs) ∧ css.length ≤ 40 ∧ tss.length ≤ 40 ∧ TabG H Po ∧
  (∀ H' n, Ke Nof H H' → Wr css tss n → n ≤ 40 → Q (.int (n : Nat)) H') ∧ ∀ H', Ke Nof H H' → NoWr css tss → Q .non H'
theorem ok_wrg {f fB Po : Addr} {fd fdB : FuncData} {k : Nat} (F : Fun K "wrong_at" "wrong_at" sWrg f fd) (T : Zt mg)
    (FB : Fun K "follows_by_force" "follows_by_force" sFbf fB fdB) (bB : Binds K fdB ["claims", "claim"] []) (gB : mg "follows_by_force" = some (.ref fB)) (GB : FnOk P w K mg base CX0 6 fB fdB ["claims", "claim"] (spFbf Po)) :
    FnOk P w K mg base CX0 (k + 7) f fd ["book", "telling"] (spWrg Po) := by
  refine F.ok scWrg (fun vs H Q E h => ?_) (fun cdv A outer s H vs Q E hr h => ?_)
  · obtain ⟨v, t, tvs, css, tss, rfl, _⟩ := h
    rfl
  · obtain ⟨v, t, tvs, css, tss, rfl, ⟨b, bvs, rfl, hb, lv, hv⟩, ⟨ht, lt, tt⟩, sb, st, l1, l2, tg, q1, q2⟩ := h
    have hr6 : Room 6 _ := hr.mono (by omega)
    refine ⟨_, (pss_cons (ps_for PassesOwn.never rfl (pi_enum (by rfl) T.z_enumerate (pa_cons (pv 1) pa_nil)) (pg_tup rfl (pgs_cons (pg_name (i := 2) scWrg.nd rfl (.inl rfl)) (pgs_cons (pg_name (i := 3) scWrg.nd rfl (.inl rfl)) pgs_nil))) (pss_one (ps_if (pt_not (pt_val (pe_call GB hr6 (by rfl) gB FB.kp bB .nil pass0 (pa_cons (pe_op op_catTN (pv 0) (pe_callTy call_tuple_ofN (by rfl) T.z_tuple (by decide +kernel) (pa_cons (pe_slice sl_listN (pv 1) po_none (po_some (pv 2))) pa_nil))) (pa_cons (pv 3) pa_nil))))) (pss_one (ps_ret (pv 2))) pss_nil)))
      (pss_one (ps_ret pe_non))), ?_⟩
    refine ⟨_, rfl, t, tvs, rfl, .of ht, for_enl (K := K) (a := t) (xs := tvs) (Pv := fun i σ H' => ∃ y2 y3 : Option V, σ = [some (.ref b), some (.ref t), y2, y3] ∧ Ke Nof H H' ∧ ∀ j < i, Foll css tss j) ?_ (fun i σ H' _ p => ?_) ?_ ?_⟩
    · exact ⟨none, none, rfl, .refl _ _, fun j hj => absurd hj (Nat.not_lt_zero _)⟩
    · obtain ⟨_, _, _, k1, _⟩ := p
      exact .of (k1.lst ht fun z => z)
    · rintro i x σ H1 T' hx ⟨y2, y3, rfl, k1, p⟩ nT
      have li := (List.getElem?_eq_some_iff.mp hx).1
      obtain ⟨cs, hc, tx⟩ := bk_at (a := b) lt tt hx
      have k2 : Ke Nof H (upd H1 T' (.tup [.int (i : Nat), x])) := k1.trans (.same (same_new nT))
      refine ⟨T', _, rfl, .of upd_same, rfl, _, _, rfl, _, _, rfl, rfl, ?_⟩
      generalize upd H1 T' (.tup [.int (i : Nat), x]) = H2 at k2
      refine ⟨_, rfl, _, rfl, _, rfl, (i : Nat), rfl, t, _, rfl, .of (k2.lst ht fun z => z), fun L H3 nL s3 hL _ => ?_⟩
      rw [cut_to] at hL
      refine ⟨L, _, rfl, .of hL, fun U H4 nU s4 hU _ => ?_⟩
      have s24 := s3.trans s4
      refine ⟨b, U, _, _, rfl, rfl, s24 _ _ (k2.tups _ _ hb), hU, small1000' (by rw [List.length_take]; omega), fun p5 H5 s5 hp5 => ?_⟩
      have k5 : Ke Nof H H5 := k2.trans (.same (s24.trans s5))
      have bk5 : Bk H5 (.ref p5) (css ++ tss.take i) := bk_cat hp5 lv (fun j y ds e1 e2 => (hv j y ds e1 e2).ke k5) (by rw [List.length_take, List.length_take, lt]) (fun j y ds e1 e2 => (tt j y ds (take_at e1) (take_at e2)).ke k5)
      refine ⟨_, rfl, .ref p5, x, _, cs, rfl, bk5, tx.ke k5, fun ds hd => ?_, st cs (List.mem_of_getElem? hc), k5.tabs _ tg, fun H6 d k6 hd => ⟨d, rfl, ?_⟩⟩
      · rcases List.mem_append.mp hd with z | z
        · exact sb ds z
        · exact st ds (List.mem_of_mem_take z)
      cases d with
      | false => exact ⟨_, rfl, q1 H6 i (k5.trans k6) ⟨⟨cs, hc, fun z => (nomatch hd.mpr z)⟩, p⟩ (by omega)⟩
      | true =>
        refine ⟨_, _, rfl, k5.trans k6, fun j hj => ?_⟩
        by_cases e : j = i
        · subst e
          intro ds hds
          rw [hc] at hds
          cases hds
          exact hd.mp rfl
        · exact p j (by omega)
    · rintro σ H1 ⟨y2, y3, rfl, k1, p⟩
      rw [lt] at p
      exact q2 H1 k1 p
theorem ok_efa {f fC Po : Addr} {fd fdC : FuncData} {k : Nat} (F : Fun K "_law_e_falls" "_law_e_falls" sEfa f fd)
    (FC : Fun K "_law_e_closed" "_law_e_closed" sClo fC fdC) (bC : Binds K fdC ["claims", "says"] []) (gC : mg "_law_e_closed" = some (.ref fC)) (GC : FnOk P w K mg base CX0 2 fC fdC ["claims", "says"] spClo) :
    FnOk P w K mg base CX0 (k + 3) f fd ["claims", "claim"] (spFbf Po) := by
  refine F.ok scEfa (fun vs H Q E h => ?_) (fun cdv A outer s H vs Q E hr h => ?_)
  · obtain ⟨v, u, css, cs, rfl, _⟩ := h
    rfl
  · obtain ⟨v, u, css, cs, rfl, hb, ⟨a, rfl, ha⟩, sy, sc, tg, q⟩ := h
    have hr2 : Room 2 _ := hr.mono (by omega)
    have lc := sc.len
    refine ⟨_, (pss_one (ps_ret (pe_cmpR op_isN (pe_call GC hr2 (by rfl) gC FC.kp bC .nil pass0 (pa_cons (pv 0) (pa_cons (pe_lc (own := [("say", 2)]) (g := (gName 2)) (tt := tYes) rfl scEfa.nd (pi_tup (pv 1)) (blkOk_by (N := nEfa) (sc := defScope sEfa) (by decide +kernel)) (fun _ _ _ _ _ => (pg_name (i := 2) scEfa.nd rfl (.inl rfl))) (fun _ _ _ _ _ => pts_nil) (fun _ _ _ _ _ => (pe_op op_sub pe_int (pv 2)))) pa_nil))) pe_non (nomark _)))), ?_⟩
    refine ⟨_, rfl, _, rfl, a, rfl, ⟨_, .of ha⟩, fun D nD => ?_⟩
    refine lc_tup (xs := cs.map V.int) (Pv := fun i H' => Same H H' ∧ H' D = some (.lst ((neg (cs.take i)).map V.int))) ⟨same_new nD, upd_same⟩ (fun i H' _ p => .of (p.1 _ _ ha)) ?_ ?_
    · rintro i x H' hx ⟨s1, hD⟩
      obtain ⟨z, hz, rfl⟩ := at_int hx
      refine ⟨rfl, _, rfl, _, _, rfl, rfl, _, hD, ?_, fun c o y => ?_, ?_⟩
      · unfold neg
        rw [List.length_map, List.length_map, List.length_take]
        exact small1000 (by omega)
      · rw [upd_ne (ne_of_none y nD)]
        exact s1 _ _ y
      · rw [upd_same, List.take_add_one, hz]
        simp [neg]
    · rintro H1 ⟨s1, hD⟩
      rw [List.length_map, List.take_length] at hD
      have k1 : Ke Nof H H1 := .same s1
      refine ⟨v, D, css, neg cs, rfl, hb.ke k1, hD, sy, sy_neg sc, fun H2 k2 fa => ?_, fun H2 p2 k2 nf => ?_⟩
      · exact ⟨rfl, q H2 _ (k1.trans k2) ⟨fun _ => fa, fun _ => rfl⟩⟩
      · exact ⟨rfl, q H2 _ (k1.trans k2) ⟨fun z => (nomatch of_decide_eq_true z), fun z => absurd z nf⟩⟩
theorem ok_ewr {f fE Po : Addr} {fd fdE : FuncData} {k : Nat} (F : Fun K "_law_e_wrong" "_law_e_wrong" sEwr f fd) (T : Zt mg)
    (FE : Fun K "_law_e_falls" "_law_e_falls" sEfa fE fdE) (bE : Binds K fdE ["claims", "claim"] []) (gE : mg "_law_e_falls" = some (.ref fE)) (GE : FnOk P w K mg base CX0 3 fE fdE ["claims", "claim"] (spFbf Po)) :
    FnOk P w K mg base CX0 (k + 4) f fd ["book", "telling"] (spWrg Po) := by
  refine F.ok scEwr (fun vs H Q E h => ?_) (fun cdv A outer s H vs Q E hr h => ?_)
  · obtain ⟨v, t, tvs, css, tss, rfl, _⟩ := h
    rfl
  · obtain ⟨v, t, tvs, css, tss, rfl, ⟨b, bvs, rfl, hb, lv, hv⟩, ⟨ht, lt, tt⟩, sb, st, l1, l2, tg, q1, q2⟩ := h
    have hr3 : Room 3 _ := hr.mono (by omega)
    refine ⟨_, (pss_cons (ps_for PassesOwn.never rfl (pi_range1 (by rfl) T.z_range (pa_cons (pe_callB call_len_seq (by rfl) T.z_len (by decide +kernel) (pa_cons (pv 1) pa_nil)) pa_nil)) (pg_name (i := 2) scEwr.nd rfl (.inl rfl)) (pss_one (ps_if (pt_not (pt_val (pe_call GE hr3 (by rfl) gE FE.kp bE .nil pass0 (pa_cons (pe_op op_catTN (pv 0) (pe_callTy call_tuple_ofN (by rfl) T.z_tuple (by decide +kernel) (pa_cons (pe_slice sl_listN (pv 1) po_none (po_some (pv 2))) pa_nil))) (pa_cons (pe_ix ix_list (pv 1) (pv 2) (fun _ _ => rfl)) pa_nil))))) (pss_one (ps_ret (pv 2))) pss_nil)))
      (pss_one (ps_ret pe_non))), ?_⟩
    refine ⟨_, rfl, t, _, rfl, .inl (.of ht), (tvs.length : Nat), rfl, by omega, by omega, for_range (Pv := fun i σ H' => ∃ y2 : Option V, σ = [some (.ref b), some (.ref t), y2] ∧ Ke Nof H H' ∧ ∀ j < i, Foll css tss j) ?_ ?_ ?_⟩
    · exact ⟨none, rfl, .refl _ _, fun j hj => absurd hj (Nat.not_lt_zero _)⟩
    · rintro i σ H2 hi ⟨y2, rfl, k2, p⟩
      have hi : i < ((tvs.length : Nat) : Int).toNat := hi
      have li : i < tvs.length := by omega
      have hx := List.getElem?_eq_getElem li
      obtain ⟨cs, hc, tx⟩ := bk_at (a := b) lt tt hx
      generalize tvs[i] = x at hx tx
      have ht2 := k2.lst ht fun z => z
      have e0 : (0 : Int) + (i : Nat) = (i : Nat) := Int.zero_add _
      rw [e0]
      refine ⟨_, rfl, _, rfl, _, rfl, (i : Nat), rfl, t, _, rfl, .of ht2, fun L H3 nL s3 hL _ => ?_⟩
      rw [cut_to] at hL
      refine ⟨L, _, rfl, .of hL, fun U H4 nU s4 hU _ => ?_⟩
      have s24 := s3.trans s4
      refine ⟨b, U, _, _, rfl, rfl, s24 _ _ (k2.tups _ _ hb), hU, small1000' (by rw [List.length_take]; omega), fun p5 H5 s5 hp5 => ?_⟩
      have k5 : Ke Nof H H5 := k2.trans (.same (s24.trans s5))
      have bk5 : Bk H5 (.ref p5) (css ++ tss.take i) := bk_cat hp5 lv (fun j y ds e1 e2 => (hv j y ds e1 e2).ke k5) (by rw [List.length_take, List.length_take, lt]) (fun j y ds e1 e2 => (tt j y ds (take_at e1) (take_at e2)).ke k5)
      refine ⟨_, rfl, _, rfl, t, _, _, x, rfl, rfl, .of (k5.lst ht fun z => z), at_of (j := i) rfl hx, .ref p5, x, _, cs, rfl, bk5, tx.ke k5, fun ds hd => ?_, st cs (List.mem_of_getElem? hc), k5.tabs _ tg, fun H6 d k6 hd => ⟨d, rfl, ?_⟩⟩
      · rcases List.mem_append.mp hd with z | z
        · exact sb ds z
        · exact st ds (List.mem_of_mem_take z)
      cases d with
      | false => exact ⟨_, rfl, q1 H6 i (k5.trans k6) ⟨⟨cs, hc, fun z => (nomatch hd.mpr z)⟩, p⟩ (by omega)⟩
      | true =>
        refine ⟨_, rfl, k5.trans k6, fun j hj => ?_⟩
        by_cases e : j = i
        · subst e
          intro ds hds
          rw [hc] at hds
          cases hds
          exact hd.mp rfl
        · exact p j (by omega)
    · rintro σ H1 ⟨y2, rfl, k1, p⟩
      refine q2 H1 k1 fun i hi => p i ?_
      show i < ((tvs.length : Nat) : Int).toNat
      omega
end
end Te
namespace Mw
open PySem PySem.Spec PyProof.Rows L2 GxR Nw Dr Kp Se Ct Lr Fo Te
/-! ### tellings made whole: the fall, gone back step by step (k53) -/
variable {css dss : List (List Int)} {says held cs c : List Int} {x : Int}
theorem der_sub (w : ∀ c ∈ css, ∃ d ∈ dss, ∀ y ∈ d, y ∈ c) (h : Der css says x) : Fall dss says ∨ Der dss says x := by
  induction h with
  | base h => exact .inr (.base h)
  | @step cs x hc hx _ ih =>
    by_cases fl : Fall dss says
    · exact .inl fl
    · obtain ⟨d, hd, sub⟩ := w cs hc
      by_cases hxd : x ∈ d
      · exact .inr (.step hd hxd fun y hy ne => (ih y (sub y hy) ne).resolve_left fl)
      · exact .inl ⟨d, hd, fun y hy => (ih y (sub y hy) fun e => hxd (e ▸ hy)).resolve_left fl⟩
theorem fall_sub (w : ∀ c ∈ css, ∃ d ∈ dss, ∀ y ∈ d, y ∈ c) (h : Fall css says) : Fall dss says := by
  obtain ⟨cs, hc, g⟩ := h
  by_cases fl : Fall dss says
  · exact fl
  · obtain ⟨d, hd, sub⟩ := w cs hc
    exact ⟨d, hd, fun y hy => (der_sub w (g y (sub y hy))).resolve_left fl⟩
/-- what is held: no two opposite -/
structure Cons (held : List Int) : Prop where
  nd : held.Nodup
  bd : ∀ y ∈ held, y ≠ 0 ∧ -8 ≤ y ∧ y ≤ 8
  opp : ∀ y ∈ held, -y ∉ held
theorem mem_neg {y : Int} {l : List Int} : y ∈ neg l ↔ -y ∈ l := by
  unfold neg
  rw [List.mem_map]
  constructor
  · rintro ⟨z, hz, rfl⟩
    rw [Int.neg_neg]
    exact hz
  · exact fun h => ⟨-y, h, Int.neg_neg y⟩
theorem cons_neg (h : IsCl c) : Cons (neg c) := by
  refine ⟨(sy_neg (Sy.of h)).nd, fun y hy => ?_, fun y hy z => ?_⟩
  · have := h.says _ (mem_neg.mp hy)
    omega
  · exact h.opp _ (mem_neg.mp hy) (mem_neg.mp z)
theorem forces_no (f : Forces cs held x) : -x ∉ held := (mem_left.mp (by rw [f.1]; exact List.mem_singleton_self x : x ∈ left cs held)).2
theorem forces_else (f : Forces cs held x) {y : Int} (hy : y ∈ cs) (ne : y ≠ x) : -y ∈ held := Classical.byContradiction fun z => ne (by
  have := mem_left.mpr ⟨hy, z⟩
  rw [f.1] at this
  exact List.mem_singleton.mp this)
theorem cons_snoc (h : Cons held) (hc : IsCl cs) (f : Forces cs held x) : Cons (held ++ [x]) := by
  have no := forces_no f
  have hx := hc.says x f.mem
  refine ⟨List.nodup_append.mpr ⟨h.nd, by simp, fun a ha b hb e => f.2 (by rw [← List.mem_singleton.mp hb, ← e]; exact ha)⟩, fun y hy => ?_, fun y hy z => ?_⟩
  · rcases List.mem_append.mp hy with m | m
    · exact h.bd y m
    · rw [List.mem_singleton.mp m]
      exact hx
  · rcases List.mem_append.mp hy with m | m
    · rcases List.mem_append.mp z with k | k
      · exact h.opp y m k
      · have e := List.mem_singleton.mp k
        rw [← e, Int.neg_neg] at no
        exact no m
    · have e := List.mem_singleton.mp m
      subst e
      rcases List.mem_append.mp z with k | k
      · exact no k
      · have := List.mem_singleton.mp k
        omega
theorem cons_len (h : Cons held) : held.length ≤ 8 := by
  have nd : (held.map fun s => (s.natAbs : Int)).Nodup := List.pairwise_map.mpr (h.nd.imp_of_mem fun {a b} ha hb hab e => by
    have : a = b ∨ a = -b := by omega
    rcases this with z | z
    · exact hab z
    · exact h.opp b hb (by rw [← z]; exact ha))
  have := len_sub _ [1, 2, 3, 4, 5, 6, 7, 8] nd fun x hx => by
    obtain ⟨s, hs, rfl⟩ := List.mem_map.mp hx
    have := h.bd s hs
    simp only [List.mem_cons, List.not_mem_nil, or_false]
    omega
  rw [List.length_map] at this
  exact this
theorem cons_steps {steps : List (Nat × Int)} (hc : ∀ c ∈ css, IsCl c) (h : Cons says) (st : StepsOk css says steps) : ∀ n, Cons (says ++ (steps.take n).map (·.2))
  | 0 => by simpa using h
  | n + 1 => by
    have ih := cons_steps hc h st n
    cases e : steps[n]? with
    | none =>
      rw [List.take_add_one, e]
      simpa using ih
    | some s =>
      obtain ⟨cs, h1, f⟩ := st n s e
      have := cons_snoc ih (hc cs (List.mem_of_getElem? h1)) f
      rw [List.take_add_one, e, List.map_append, ← List.append_assoc]
      exact this
theorem steps_len {steps : List (Nat × Int)} (hc : ∀ c ∈ css, IsCl c) (h : Cons says) (st : StepsOk css says steps) : steps.length ≤ 8 := by
  have := cons_len (cons_steps hc h st steps.length)
  rw [List.take_length, List.length_append, List.length_map] at this
  omega
theorem rise_of {Q : Int → Prop} (b : ∀ j, Q j → -8 ≤ j ∧ j ≤ 8) : ∃ ns : List Int, ns.Pairwise (· < ·) ∧ ∀ j, j ∈ ns ↔ Q j := by
  classical
  refine ⟨((List.range 17).map fun i : Nat => (i : Int) - 8).filter fun j => decide (Q j), ?_, fun j => ?_⟩
  · refine List.Pairwise.filter _ (List.pairwise_map.mpr ?_)
    exact List.pairwise_lt_range.imp fun {a b} h => by omega
  · rw [List.mem_filter, decide_eq_true_eq, List.mem_map]
    constructor
    · exact fun h => h.2
    · intro h
      have := b j h
      exact ⟨⟨(j + 8).toNat, List.mem_range.mpr (by omega), by omega⟩, h⟩
theorem comes_mk {a b : List Int} {k : Int} (ha : IsCl a) (hb : IsCl b) (k1 : 1 ≤ k) (ka : k ∈ a) (kb : -k ∈ b) (h : Cons held) (cov : ∀ j, Bes a b k j → -j ∈ held) : ∃ ns, Comes a b k ns ∧ ∀ y ∈ ns, -y ∈ held := by
  obtain ⟨ns, up, me⟩ := rise_of (Q := Bes a b k) fun j hj => by
    rcases hj.1 with m | m
    · exact (ha.says j m).2
    · exact (hb.says j m).2
  refine ⟨ns, ⟨k1, ka, kb, fun j h1 h2 => ?_, up, me⟩, fun y hy => cov y ((me y).mp hy)⟩
  exact h.opp _ (cov j h1) (cov _ h2)
/-- a say that a step forced is cut off by the claim that forced it -/
theorem back (hc : IsCl c) (hs : IsCl cs) (h : Cons held) (f : Forces cs held x) (cov : ∀ y ∈ c, -y ∈ held ++ [x]) (m : -x ∈ c) :
    (0 < -x → ∃ ns, Comes c cs (-x) ns ∧ ∀ y ∈ ns, -y ∈ held) ∧ (¬ 0 < -x → ∃ ns, Comes cs c x ns ∧ ∀ y ∈ ns, -y ∈ held) := by
  have hx := hs.says x f.mem
  have cc : ∀ y ∈ c, y.natAbs ≠ x.natAbs → -y ∈ held := fun y hy ne => by
    rcases List.mem_append.mp (cov y hy) with z | z
    · exact z
    · have := List.mem_singleton.mp z
      omega
  have cd : ∀ y ∈ cs, y.natAbs ≠ x.natAbs → -y ∈ held := fun y hy ne => forces_else f hy fun e => ne (by rw [e])
  refine ⟨fun p => ?_, fun p => ?_⟩
  · refine comes_mk hc hs (by omega) m (by rw [Int.neg_neg]; exact f.mem) h fun j hj => ?_
    have n : j.natAbs ≠ x.natAbs := fun e => hj.2 (by omega)
    exact hj.1.elim (fun z => cc j z n) fun z => cd j z n
  · refine comes_mk hs hc (by omega) f.mem m h fun j hj => ?_
    have n : j.natAbs ≠ x.natAbs := fun e => hj.2 (by omega)
    exact hj.1.elim (fun z => cd j z n) fun z => cc j z n
theorem skip (cov : ∀ y ∈ c, -y ∈ held ++ [x]) (m : -x ∉ c) : ∀ y ∈ c, -y ∈ held := fun y hy => by
  rcases List.mem_append.mp (cov y hy) with z | z
  · exact z
  · have := List.mem_singleton.mp z
    rw [← this, Int.neg_neg] at m
    exact absurd hy m
theorem wide_of (cov : ∀ y ∈ c, -y ∈ neg cs) : ∀ y ∈ c, y ∈ cs := fun y hy => by
  have := mem_neg.mp (cov y hy)
  rw [Int.neg_neg] at this
  exact this
end Mw
namespace Mp
open PySem PySem.Spec PyProof.Rows L2 GxR Nw Dr Kp Se Ct Lr Lp Fo Te Mw RT
/-! ### rows put by tellings (k53) -/
theorem ke_wr {F : Addr → Prop} {H H1 : Hp} {p : Addr} {xs : List V} {o : HO} (k : Ke F H H1) (fp : F p) (h1 : H1 p = some (.lst xs)) : Ke F H (upd H1 p o) := by
  refine ⟨fun b x e t m => ?_, fun Q hQ => ?_, fun b ys e => ?_⟩
  · rw [upd_ne (fun z => m (by rw [z]; exact fp))]
    exact k.keep b x e t m
  · obtain ⟨qs, e2, t2⟩ := k.tabs Q hQ
    have n : Q ≠ p := fun z => by
      rw [z, h1] at e2
      cases e2
    exact ⟨qs, by rw [upd_ne n]; exact e2, t2⟩
  · have e2 := k.tups b ys e
    rw [upd_ne (fun z => by rw [z, h1] at e2; cases e2)]
    exact e2
theorem rw_snoc {H : Hp} {D : Addr} {vs : List V} {rows : List Rw} {x : V} {r : Rw} (hD : H D = some (.lst vs)) (h : All2 (RowAt H) vs rows) (hx : RowAt H x r) : RwL (upd H D (.lst (vs ++ [x]))) D (rows ++ [r]) :=
  ⟨_, upd_same, (h.imp fun _ _ r => RowAt.wr r hD).snoc (RowAt.wr hx hD)⟩
abbrev Rc (R C : Addr) : Addr → Prop := fun a => a = R ∨ a = C
/-- rows as they are put, with their claims -/
structure Pv (b : V) (R C : Addr) (css : List (List Int)) (rows : List Rw) (cls : List (List Int)) (H : Hp) : Prop where
  bk : Bk H b css
  rw : RwL H R rows
  cl : ClL H C cls
  ld : Lad css rows cls
  ib : ∀ c ∈ css, IsCl c
  ne : R ≠ C
theorem Pv.ke {F : Addr → Prop} {b : V} {R C : Addr} {css cls : List (List Int)} {rows : List Rw} {H H' : Hp} (x : Pv b R C css rows cls H) (k : Ke F H H') (n1 : ¬ F R) (n2 : ¬ F C) : Pv b R C css rows cls H' := ⟨x.bk.ke k, x.rw.ke k n1, x.cl.ke k n2, x.ld, x.ib, x.ne⟩
theorem Pv.no {b : V} {R C : Addr} {css cls : List (List Int)} {rows : List Rw} {H H' : Hp} (x : Pv b R C css rows cls H) (k : Ke Nof H H') : Pv b R C css rows cls H' := x.ke k (fun z => z) fun z => z
theorem same_wr {H H1 : Hp} {D : Addr} {o : HO} (s : Same H H1) (n : H D = none) : Same H (upd H1 D o) := fun b x e => by
  rw [upd_ne (ne_of_none e n)]
  exact s b x e
theorem getD_at {α : Type} {l : List α} {i : Nat} {x d : α} (h : l[i]? = some x) : l.getD i d = x := by
  rw [List.getD_eq_getElem?_getD, h]
  rfl
structure Za (mg : Str → Option Value) : Prop where
  z_len : mg "len" = none
  z_tuple : mg "tuple" = none
  z_reversed : mg "reversed" = none
section
variable {P : Program} {w : World} {K : PySem.W.Frag} {mg : Str → Option Value} {base : Heap}
abbrev sPut : Stmt := topS 22
theorem scPut : FnScope ["book", "rows", "claims", "row"] ["book", "rows", "claims", "row"] (defScope sPut) := ⟨rfl, rfl, rfl, by decide +kernel, rfl, by decide +kernel, by decide +kernel⟩
def spPut (Po : Addr) : Sp := fun vs H Q _ => ∃ (b v : V) (R C : Addr) (css cls : List (List Int)) (rows : List Rw) (r : Rw) (c : List Int), vs = [b, .ref R, .ref C, v] ∧ Pv b R C css rows cls H ∧ RowAt H v r ∧ RowCl css cls r c ∧ rows.length ≤ 400 ∧ TabG H Po ∧ ∀ H', Ke (Rc R C) H H' → Pv b R C css (rows ++ [r]) (cls ++ [c]) H' → Q (.int (rows.length : Nat)) H'
theorem ok_put {f fR Po : Addr} {fd fdR : FuncData} {k : Nat} (F : Fun K "put_row" "put_row" sPut f fd) (T : Za mg) (FR : Fun K "claim_of_row" "claim_of_row" sRow fR fdR) (bR : Binds K fdR ["book", "claims", "row"] []) (gR : mg "claim_of_row" = some (.ref fR)) (GR : FnOk P w K mg base CX0 5 fR fdR ["book", "claims", "row"] (spRow Po)) :
    FnOk P w K mg base CX0 (k + 6) f fd ["book", "rows", "claims", "row"] (spPut Po) := by
  refine F.ok scPut (fun vs H Q E h => ?_) (fun cdv A outer s H vs Q E hr h => ?_)
  · obtain ⟨b, v, R, C, css, cls, rows, r, c, rfl, _⟩ := h
    rfl
  · obtain ⟨b, v, R, C, css, cls, rows, r, c, rfl, x, rv, rc, l4, tg, q⟩ := h
    have hr5 : Room 5 _ := hr.mono (by omega)
    refine ⟨_, (Evl.pss_cut (ps_expr (pe_bm PySem.F.plainAttrs_list PySem.F.slot_list_append PySem.F.type_list_append mt_append (pv 2) (pa_cons (pe_call GR hr5 (by rfl) gR FR.kp bR .nil pass0 (pa_cons (pv 0) (pa_cons (pv 2) (pa_cons (pv 3) pa_nil)))) pa_nil)))
      (Evl.pss_cut (ps_expr (pe_bm PySem.F.plainAttrs_list PySem.F.slot_list_append PySem.F.type_list_append mt_append (pv 1) (pa_cons (pv 3) pa_nil)))
      (pss_one (ps_ret (pe_op op_sub (pe_callB call_len_seq (by rfl) T.z_len (by decide +kernel) (pa_cons (pv 1) pa_nil)) pe_int))))), ?_⟩
    have lc := x.ld.1
    -- its claim
    refine Evl.q_cut (M := fun σ' H' => σ' = [some b, some (.ref R), some (.ref C), some v] ∧ Ke (Rc R C) H H' ∧ RwL H' R rows ∧ ClL H' C (cls ++ [c])) ?_ ?_
    · obtain ⟨cvs, hC, aC⟩ := x.cl
      have la := aC.1
      refine ⟨_, rfl, .inl ⟨rfl, _, .of hC⟩, _, rfl, _, rfl, _, rfl, b, v, C, css, cls, r, rfl, x.bk, x.cl, rv, x.ib, x.ld.isCl x.ib, tg, fun H1 k1 no => absurd rc (no c), fun c' p H1 k1 rc' hp => ?_⟩
      have e := rc.one rc'
      subst e
      have hC1 := k1.lst hC fun z => z
      refine ⟨C, _, _, rfl, rfl, hC1, small1000 (by omega), ?_⟩
      have kk : Ke (Rc R C) H (upd H1 C (.lst (cvs ++ [.ref p]))) := ke_wr k1.all (.inr rfl) hC1
      refine ⟨rfl, kk, ?_, cl_snoc hC1 (aC.imp fun _ _ t => t.ke k1) ⟨p, rfl, hp⟩⟩
      obtain ⟨rvs, hR, aR⟩ := x.rw.ke k1 fun z => z
      exact ⟨rvs, by rw [upd_ne x.ne]; exact hR, aR.imp fun _ _ t => RowAt.wr t hC1⟩
    rintro σ' H1 ⟨rfl, k1, ⟨rvs, hR, aR⟩, hC⟩
    have la := aR.1
    refine Evl.q_cut (M := fun σ' H' => σ' = [some b, some (.ref R), some (.ref C), some v] ∧ Ke (Rc R C) H H' ∧ RwL H' R (rows ++ [r]) ∧ ClL H' C (cls ++ [c])) ?_ ?_
    · refine ⟨_, rfl, .inl ⟨rfl, _, .of hR⟩, _, rfl, R, _, _, rfl, rfl, hR, small1000 (by omega), ?_⟩
      refine ⟨rfl, ke_wr k1 (.inl rfl) hR, rw_snoc hR aR (rv.ke k1), ?_⟩
      obtain ⟨cvs, hC, aC⟩ := hC
      exact ⟨cvs, by rw [upd_ne (Ne.symm x.ne)]; exact hC, aC.imp fun _ _ t => TupI.wr t hR⟩
    clear hC hR aR la k1 H1
    rintro σ' H1 ⟨rfl, k1, hR, hC⟩
    obtain ⟨rvs', hR', aR⟩ := id hR
    have la := aR.1
    rw [List.length_append, List.length_singleton] at la
    have q := q H1 k1 ⟨x.bk.ke k1, hR, hC, x.ld.snoc rc, x.ib, x.ne⟩
    refine ⟨_, rfl, R, _, rfl, .inl (.of hR'), _, _, rfl, rfl, ?_⟩
    rw [show ((rows.length : Nat) : Int) = ((rvs'.length : Nat) : Int) - 1 by omega] at q
    exact q
abbrev sCof : Stmt := topS 23
theorem scCof : FnScope ["place", "other", "say"] ["place", "other", "say"] (defScope sCof) := ⟨rfl, rfl, rfl, by decide +kernel, rfl, by decide +kernel, by decide +kernel⟩
def spCof : Sp := fun vs H Q _ => ∃ (p o : Nat) (s : Int), vs = [.int (p : Nat), .int (o : Nat), .int s] ∧ ∀ v H', Same H H' → RowAt H' v (if 0 < s then .cut p o s else .cut o p (-s)) → Q v H'
theorem ok_cof {f : Addr} {fd : FuncData} {k : Nat} (F : Fun K "cut_off" "cut_off" sCof f fd) : FnOk P w K mg base CX0 (k + 1) f fd ["place", "other", "say"] spCof := by
  refine F.ok scCof (fun vs H Q E h => ?_) (fun cdv A outer s H vs Q E hr h => ?_)
  · obtain ⟨p, o, s, rfl, _⟩ := h
    rfl
  · obtain ⟨p, o, s, rfl, q⟩ := h
    refine ⟨_, (pss_cons (ps_if (pt_cmpR op_gt (pv 2) pe_int (nomark _)) (pss_one (ps_ret (pe_tupN (pa_cons pe_str (pa_cons (pv 0) (pa_cons (pv 1) (pa_cons (pv 2) pa_nil))))))) pss_nil)
      (pss_one (ps_ret (pe_tupN (pa_cons pe_str (pa_cons (pv 1) (pa_cons (pv 0) (pa_cons (pe_un un_neg (pv 2)) pa_nil)))))))), ?_⟩
    refine ⟨_, rfl, _, _, rfl, rfl, _, rfl, ite2 (fun e => ?_) (fun e => ?_)⟩
    · have e : 0 < s := of_decide_eq_true e
      rw [if_pos e] at q
      exact ⟨_, rfl, _, rfl, _, rfl, by show 4 ≤ sizeLine; decide, fun t H1 nt s1 ht _ => q _ H1 s1 ⟨t, rfl, ht⟩⟩
    · have e : ¬ 0 < s := fun z => e (decide_eq_true z)
      rw [if_neg e] at q
      exact ⟨_, rfl, _, rfl, _, rfl, _, rfl, by show 4 ≤ sizeLine; decide, fun t H1 nt s1 ht _ => q _ H1 s1 ⟨t, rfl, ht⟩⟩
abbrev sPtd : Stmt := topS 36
abbrev nPtd : List Str := ["book", "rows", "claims", "places", "claim", "ahead", "told", "place", "number", "say"]
theorem scPtd : FnScope nPtd ["book", "rows", "claims", "places", "claim"] (defScope sPtd) := ⟨rfl, rfl, rfl, by decide +kernel, rfl, by decide +kernel, by decide +kernel⟩
def spPtd (Ph Po : Addr) : Sp := fun vs H Q _ => ∃ (b v : V) (R C P' : Addr) (css cls : List (List Int)) (rows : List Rw) (ps : List Nat) (c : List Int), vs = [b, .ref R, .ref C, .ref P', v] ∧ Pv b R C css rows cls H ∧ H P' = some (.lst (ps.map fun n : Nat => V.int n)) ∧ P' ≠ R ∧ P' ≠ C ∧
  (∀ p ∈ ps, p < cls.length) ∧ ps.length ≤ 40 ∧ TupI H v c ∧ IsCl c ∧ Fall (ps.map fun p => cls.getD p []) (neg c) ∧ rows.length ≤ 300 ∧ TabG H Ph ∧ TabG H Po ∧
  ∀ (n : Nat) (H' : Hp) (rows' : List Rw) (cls' : List (List Int)), Ke (Rc R C) H H' → Pv b R C css (rows ++ rows') (cls ++ cls') H' → rows'.length ≤ 8 → (∃ d, (cls ++ cls')[n]? = some d ∧ ∀ y ∈ d, y ∈ c) → Q (.int n) H'
theorem ok_ptd {f fF fO fP fC Ph Po : Addr} {fd fdF fdO fdP fdC : FuncData} {k : Nat} (F : Fun K "put_told" "put_told" sPtd f fd) (T : Za mg)
    (FF : Fun K "forced" "forced" sFod fF fdF) (bF : Binds K fdF ["claims", "says"] []) (gF : mg "forced" = some (.ref fF)) (GF : FnOk P w K mg base CX0 5 fF fdF ["claims", "says"] (spFod Ph))
    (FO : Fun K "opposites" "opposites" sOpp fO fdO) (bO : Binds K fdO ["claim"] []) (gO : mg "opposites" = some (.ref fO)) (GO : FnOk P w K mg base CX0 1 fO fdO ["claim"] spOpp)
    (FP : Fun K "put_row" "put_row" sPut fP fdP) (bP : Binds K fdP ["book", "rows", "claims", "row"] []) (gP : mg "put_row" = some (.ref fP)) (GP : FnOk P w K mg base CX0 6 fP fdP ["book", "rows", "claims", "row"] (spPut Po))
    (FC : Fun K "cut_off" "cut_off" sCof fC fdC) (bC : Binds K fdC ["place", "other", "say"] []) (gC : mg "cut_off" = some (.ref fC)) (GC : FnOk P w K mg base CX0 1 fC fdC ["place", "other", "say"] spCof) :
    FnOk P w K mg base CX0 (k + 7) f fd ["book", "rows", "claims", "places", "claim"] (spPtd Ph Po) := by
  refine F.ok scPtd (fun vs H Q E h => ?_) (fun cdv A outer s H vs Q E hr h => ?_)
  · obtain ⟨b, v, R, C, P', css, cls, rows, ps, c, rfl, _⟩ := h
    rfl
  · obtain ⟨b, v, R, C, P', css, cls, rows, ps, c, rfl, x, hP, nPR, nPC, lps, l40, hv, ic, fl, l300, tg, to, q⟩ := h
    have hr1 : Room 1 _ := hr.mono (by omega)
    have hr5 : Room 5 _ := hr.mono (by omega)
    have hr6 : Room 6 _ := hr.mono (by omega)
    refine ⟨_, (Evl.pss_cut (ps_set (i := 5) scPtd.nd rfl (.inl rfl) (pe_callTy call_tuple_ofN (by rfl) T.z_tuple (by decide +kernel) (pa_cons (pe_lc (own := [("place", 7)]) (g := (gName 7)) (tt := tYes) rfl scPtd.nd (pi_list (pv 3)) (blkOk_by (N := nPtd) (sc := defScope sPtd) (by decide +kernel)) (fun _ _ _ _ _ => (pg_name (i := 7) scPtd.nd rfl (.inl rfl))) (fun _ _ _ _ _ => pts_nil) (fun _ _ _ _ _ => (pe_ix (ix_listB (K := K) rfl) (pv 2) (pv 7) (fun _ _ => rfl)))) pa_nil)))
      (Evl.pss_cut (ps_set (i := 6) scPtd.nd rfl (.inl rfl) (pe_call GF hr5 (by rfl) gF FF.kp bF .nil pass0 (pa_cons (pv 5) (pa_cons (pe_call GO hr1 (by rfl) gO FO.kp bO .nil pass0 (pa_cons (pv 4) pa_nil)) pa_nil))))
      (Evl.pss_cut (ps_set (i := 7) scPtd.nd rfl (.inl rfl) (pe_ix ix_list (pv 3) (pe_ix ix_tup (pv 6) pe_int (fun _ _ => rfl)) (fun _ _ => rfl)))
      (Evl.pss_cut (ps_for PassesOwn.never rfl (pi_revA (by rfl) T.z_reversed (pe_ix ix_tup (pv 6) pe_int (fun _ _ => rfl))) (pg_tup rfl (pgs_cons (pg_name (i := 8) scPtd.nd rfl (.inl rfl)) (pgs_cons (pg_name (i := 9) scPtd.nd rfl (.inl rfl)) pgs_nil))) (pss_one (ps_if (pt_cmpR op_in_seq (pe_un un_neg (pv 9)) (pe_ix ix_list (pv 2) (pv 7) (fun _ _ => rfl)) (by rfl)) (pss_one (ps_set (i := 7) scPtd.nd rfl (.inl rfl) (pe_call GP hr6 (by rfl) gP FP.kp bP .nil pass0 (pa_cons (pv 0) (pa_cons (pv 1) (pa_cons (pv 2) (pa_cons (pe_call GC hr1 (by rfl) gC FC.kp bC .nil pass0 (pa_cons (pv 7) (pa_cons (pe_ix ix_list (pv 3) (pv 8) (fun _ _ => rfl)) (pa_cons (pe_un un_neg (pv 9)) pa_nil)))) pa_nil))))))) pss_nil)))
      (pss_one (ps_ret (pv 7))))))), ?_⟩
    have icl := x.ld.isCl x.ib
    obtain ⟨as, eas⟩ : ∃ as, as = ps.map fun p => cls.getD p [] := ⟨_, rfl⟩
    rw [← eas] at fl
    have las : as.length = ps.length := by rw [eas, List.length_map]
    have at_ : ∀ (i : Nat) (d : List Int), as[i]? = some d → ∃ p, ps[i]? = some p ∧ cls[p]? = some d := fun i d hd => by
      rw [eas, List.getElem?_map] at hd
      obtain ⟨p, hp, e⟩ := Option.map_eq_some_iff.mp hd
      have lp := lps p (List.mem_of_getElem? hp)
      refine ⟨p, hp, ?_⟩
      rw [← e, getD_at (List.getElem?_eq_getElem lp)]
      exact List.getElem?_eq_getElem lp
    have ica : ∀ d ∈ as, IsCl d := fun d hd => by
      obtain ⟨i, hi⟩ := List.getElem?_of_mem hd
      obtain ⟨p, _, e⟩ := at_ i d hi
      exact icl d (List.mem_of_getElem? e)
    -- ahead
    refine Evl.q_cut (M := fun σ' G => ∃ (t : Addr) (z : Option V), σ' = [some b, some (.ref R), some (.ref C), some (.ref P'), some v, some (.ref t), none, z, none, none] ∧ Same H G ∧ Bk G (.ref t) as) ?_ ?_
    · obtain ⟨cvs, hC, aC⟩ := x.cl
      refine ⟨_, rfl, P', rfl, ⟨_, .of hP⟩, fun D nD => ?_⟩
      refine lc_list (xs := ps.map fun n : Nat => V.int n) (Pv := fun u G => Same H G ∧ ∃ us, G D = some (.lst us) ∧ All2 (TupI H) us (as.take u)) ⟨same_new nD, [], upd_same, .nil⟩ (fun u G _ z => .of (z.1 _ _ hP)) ?_ ?_
      · rintro u y G hy ⟨s1, us, hD, au⟩
        rw [List.getElem?_map] at hy
        obtain ⟨p, hp, rfl⟩ := Option.map_eq_some_iff.mp hy
        have lu := (List.getElem?_eq_some_iff.mp hp).1
        have lp := lps p (List.mem_of_getElem? hp)
        have hc := List.getElem?_eq_getElem lp
        obtain ⟨cv, hcv, tc⟩ := aC.atR hc
        have ha : as[u]? = some cls[p] := by
          rw [eas, List.getElem?_map, hp]
          show some (cls.getD p []) = _
          rw [getD_at hc]
        have lau := au.1
        refine ⟨rfl, _, rfl, _, rfl, C, _, _, cv, rfl, rfl, .of (s1 _ _ hC), at_of (j := p) rfl hcv, ?_⟩
        refine ⟨_, hD, small1000 (by rw [lau, List.length_take]; omega), same_wr s1 nD, _, upd_same, ?_⟩
        rw [List.take_add_one, ha]
        exact au.snoc tc
      · rintro G ⟨s1, us, hD, au⟩
        rw [List.length_map, ← las, List.take_length] at au
        exact ⟨D, _, rfl, .of hD, fun t G2 nt s2 ht _ => ⟨t, _, rfl, s1.trans s2, t, us, rfl, ht, au.1, fun i y d h1 h2 => (au.2 i y d h1 h2).ke (.same (s1.trans s2)) (F := Nof)⟩⟩
    rintro σ' H1 ⟨t, z7, rfl, s1, hb⟩
    have x1 := x.no (.same s1)
    have hP1 := s1 _ _ hP
    -- told
    refine Evl.q_cut (M := fun σ' G => ∃ (p S : Addr) (us : List V) (steps : List (Nat × Int)) (n : Nat) (d : List Int), σ' = [some b, some (.ref R), some (.ref C), some (.ref P'), some v, some (.ref t), some (.ref p), z7, none, none] ∧ Ke Nof H1 G ∧ G p = some (.tup [.str "falls", .ref S, .int n]) ∧ G S = some (.lst us) ∧ Frs H1 S ∧ StL G us steps ∧ StepsOk as (neg c) steps ∧ as[n]? = some d ∧ left d (neg c ++ steps.map (·.2)) = []) ?_ ?_
    · refine ⟨_, rfl, _, rfl, v, c, rfl, hv.ke (.same s1) (F := Nof), by have := ic.len; omega, fun L G nL s2 hL => ?_⟩
      have k2 : Ke Nof H1 G := .same s2
      have t1 := (Ke.same (F := Nof) (s1.trans s2)).tabs _ tg
      refine ⟨.ref t, L, as, neg c, rfl, hb.ke k2, hL, fun d hd => Sy.of (ica d hd), sy_neg (Sy.of ic), t1, fun G2 p S us steps n d k3 fr hp hS sl st _ hd hl => ?_, fun G2 p S us steps k3 fr hp hS sl st _ sd => ?_⟩
      · exact ⟨p, S, us, steps, n, d, rfl, k2.trans k3, hp, hS, fr.ke0 k2, sl, st, hd, hl⟩
      · exact absurd fl (sd.no (fun d hd => (Sy.of (ica d hd)).nd) fun s hs => List.mem_append_left _ hs)
    rintro σ' H2 ⟨p, S, us, steps, n, d, rfl, k2, hp, hS, frS, sl, st, hd, hl⟩
    have x2 := x1.no k2
    have hP2 := k2.lst hP1 fun z => z
    have to2 := ((Ke.same (F := Nof) s1).trans k2).tabs _ to
    have k02 : Ke Nof H H2 := (Ke.same s1).trans k2
    have l8 := steps_len ica (cons_neg ic) st
    have lus := sl.1
    have nSR : S ≠ R := by
      obtain ⟨rvs, hR, _⟩ := x1.rw
      exact Ne.symm (frS R _ hR fun ps z => by cases z)
    have nSC : S ≠ C := by
      obtain ⟨rvs, hC, _⟩ := x1.cl
      exact Ne.symm (frS C _ hC fun ps z => by cases z)
    -- place
    obtain ⟨p0, hp0, hc0⟩ := at_ n d hd
    refine Evl.q_cut (M := fun σ' G => σ' = [some b, some (.ref R), some (.ref C), some (.ref P'), some v, some (.ref t), some (.ref p), some (.int (p0 : Nat)), none, none] ∧ H2 = G) ?_ ?_
    · exact ⟨_, rfl, _, rfl, p, _, 2, _, rfl, rfl, .of hp, rfl, P', _, _, _, rfl, rfl, .of hP2, at_of (j := n) rfl (by rw [List.getElem?_map, hp0]; rfl), rfl, rfl⟩
    rintro σ' G ⟨rfl, rfl⟩
    -- step by step back
    refine Evl.q_cut (M := fun σ' G => ∃ (n : Nat) (y8 y9 : Option V) (rows' : List Rw) (cls' : List (List Int)), σ' = [some b, some (.ref R), some (.ref C), some (.ref P'), some v, some (.ref t), some (.ref p), some (.int (n : Nat)), y8, y9] ∧ Ke (Rc R C) H2 G ∧ Pv b R C css (rows ++ rows') (cls ++ cls') G ∧ rows'.length ≤ 8 ∧ ∃ d, (cls ++ cls')[n]? = some d ∧ ∀ y ∈ d, -y ∈ neg c) ?_ ?_
    · refine ⟨_, rfl, p, _, 1, _, rfl, rfl, .of hp, rfl, S, us, rfl, .inl ⟨.of hS, for_Itv (xs := us) (Pv := fun i σ G => ∃ (n : Nat) (y8 y9 : Option V) (rows' : List Rw) (cls' : List (List Int)), i ≤ us.length ∧ σ = [some b, some (.ref R), some (.ref C), some (.ref P'), some v, some (.ref t), some (.ref p), some (.int (n : Nat)), y8, y9] ∧ Ke (Rc R C) H2 G ∧ Pv b R C css (rows ++ rows') (cls ++ cls') G ∧ rows'.length ≤ i ∧ ∃ d, (cls ++ cls')[n]? = some d ∧ ∀ y ∈ d, -y ∈ neg c ++ (steps.take (us.length - i)).map (·.2)) ?_ (fun i σ G z => ?_) ?_ ?_⟩⟩
      · refine ⟨p0, none, none, [], [], Nat.zero_le _, rfl, .refl _ _, by rw [List.append_nil, List.append_nil]; exact x2, Nat.zero_le _, d, by rw [List.append_nil]; exact hc0, fun y hy => ?_⟩
        rw [Nat.sub_zero, lus, List.take_length]
        exact left_nil.mp hl y hy
      · obtain ⟨_, _, _, _, _, _, _, z, _⟩ := z
        exact .of (z.lst hS fun y => y.elim nSR nSC)
      · rintro i u σ G hi hu ⟨n', y8, y9, rows', cls', li, rfl, kG, xG, lr', e, he, cov⟩
        obtain ⟨j, ej⟩ : ∃ j, us.length - i = j + 1 := ⟨us.length - i - 1, by omega⟩
        rw [show us.length - 1 - i = j by omega] at hu
        have hsj := List.getElem?_eq_getElem (show j < steps.length by omega)
        generalize steps[j]'(by omega) = sj at hsj
        obtain ⟨sp, rfl, hsp⟩ := sl.2 j u sj hu hsj
        obtain ⟨m, xx⟩ := sj
        obtain ⟨cs, hcs, fo⟩ := st j (m, xx) hsj
        have hcs : as[m]? = some cs := hcs
        have fo : Forces cs (neg c ++ (steps.take j).map (·.2)) xx := fo
        obtain ⟨pm, hpm, hcm⟩ := at_ m cs hcs
        have con := cons_steps ica (cons_neg ic) st j
        have hcls := xG.cl
        have icG := xG.ld.isCl xG.ib
        have ie := icG e (List.mem_of_getElem? he)
        have ics := ica cs (List.mem_of_getElem? hcs)
        rw [ej, List.take_add_one, hsj, List.map_append, ← List.append_assoc] at cov
        have cov : ∀ y ∈ e, -y ∈ (neg c ++ (steps.take j).map (·.2)) ++ [xx] := cov
        have hcm' : (cls ++ cls')[pm]? = some cs := by
          rw [List.getElem?_append_left (List.getElem?_eq_some_iff.mp hcm).1]
          exact hcm
        obtain ⟨cvs, hC, aC⟩ := id hcls
        obtain ⟨ev, hev, ea, rfl, hea⟩ := aC.atR he
        refine ⟨sp, _, rfl, .of (kG.tups _ _ hsp), rfl, _, _, rfl, _, _, rfl, rfl, ?_⟩
        refine ⟨_, rfl, _, rfl, _, rfl, _, rfl, C, _, _, .ref ea, rfl, rfl, .of hC, at_of (j := n') rfl hev, ea, _, rfl, .inr (.of hea), rfl, Fo.ints_flat e, _, rfl, ite2 (fun z => ?_) (fun z => ?_)⟩
        · have m1 : -xx ∈ e := (Fo.in_ints _ _).mp z
          obtain ⟨b1, b2⟩ := back ie ics con fo cov m1
          refine ⟨_, rfl, _, rfl, _, rfl, _, rfl, _, rfl, _, rfl, P', _, _, _, rfl, rfl, .of (kG.lst hP2 fun y => y.elim nPR nPC), at_of (j := m) rfl (by rw [List.getElem?_map, hpm]; rfl), _, rfl, _, rfl, n', pm, -xx, rfl, fun rv G2 s2 hrv => ?_⟩
          have xG2 := xG.no (.same s2)
          have put : ∀ (r : Rw) (ns : List Int), RowAt G2 rv r → RowCl css (cls ++ cls') r ns → (∀ y ∈ ns, -y ∈ neg c ++ (steps.take j).map (·.2)) → spPut Po [b, .ref R, .ref C, rv] G2 (fun v' G' => ∃ (n : Nat) (y8 y9 : Option V) (rows' : List Rw) (cls' : List (List Int)), i + 1 ≤ us.length ∧ [some b, some (.ref R), some (.ref C), some (.ref P'), some v, some (.ref t), some (.ref p), some v', some (.int (m : Nat)), some (.int xx)] = [some b, some (.ref R), some (.ref C), some (.ref P'), some v, some (.ref t), some (.ref p), some (.int (n : Nat)), y8, y9] ∧ Ke (Rc R C) H2 G' ∧ Pv b R C css (rows ++ rows') (cls ++ cls') G' ∧ rows'.length ≤ i + 1 ∧ ∃ d, (cls ++ cls')[n]? = some d ∧ ∀ y ∈ d, -y ∈ neg c ++ (steps.take (us.length - (i + 1))).map (·.2)) E := by
            intro r ns hr_ rc cv
            refine ⟨b, rv, R, C, css, cls ++ cls', rows ++ rows', r, ns, rfl, xG2, hr_, rc, by rw [List.length_append]; omega, (kG.trans (.same s2)).tabs _ to2, fun G3 k3 x3 => ?_⟩
            refine ⟨(rows ++ rows').length, _, _, rows' ++ [r], cls' ++ [ns], by omega, rfl, (kG.trans (.same s2)).trans k3, by rw [← List.append_assoc, ← List.append_assoc]; exact x3, by rw [List.length_append, List.length_singleton]; omega, ns, ?_, ?_⟩
            · rw [← List.append_assoc, xG.ld.1, List.getElem?_append_right (Nat.le_refl _), Nat.sub_self]
              rfl
            · rw [show us.length - (i + 1) = j by omega]
              exact cv
          by_cases ps' : 0 < -xx
          · obtain ⟨ns, co, cv⟩ := b1 ps'
            rw [if_pos ps'] at hrv
            exact put _ ns hrv ⟨e, cs, he, hcm', co⟩ cv
          · obtain ⟨ns, co, cv⟩ := b2 ps'
            rw [if_neg ps', Int.neg_neg] at hrv
            exact put _ ns hrv ⟨cs, e, hcm', he, co⟩ cv
        · have m1 : -xx ∉ e := fun y => z ((Fo.in_ints _ _).mpr y)
          refine ⟨n', _, _, rows', cls', by omega, rfl, kG, xG, by omega, e, he, ?_⟩
          rw [show us.length - (i + 1) = j by omega]
          exact skip cov m1
      · rintro σ G ⟨n', y8, y9, rows', cls', li, rfl, kG, xG, lr', e, he, cov⟩
        rw [Nat.sub_self, List.take_zero] at cov
        exact ⟨n', y8, y9, rows', cls', rfl, kG, xG, by omega, e, he, fun y hy => by simpa using cov y hy⟩
    rintro σ' G ⟨n', y8, y9, rows', cls', rfl, kG, xG, lr', e, he, cov⟩
    exact ⟨_, rfl, q n' G rows' cls' (k02.all.trans kG) xG lr' ⟨e, he, wide_of cov⟩⟩
end
end Mp
namespace Fo
open PySem L2
theorem bl_t {b : Bool} (h : b = true) : V.bl b = V.bl true := by rw [h]
theorem bl_f {b : Bool} (h : b = false) : V.bl b = V.bl false := by rw [h]
end Fo
namespace Rn
open PySem PySem.Spec PyProof.Rows L2
/-- repr of a whole number or None -/
def rRep : List V → Hp → VK → Prop := fun xs H Q => (∃ i : Int, xs = [.int i] ∧ i.natAbs.log2 < 1920 ∧ Q (.str (toString i)) H) ∨ (xs = [.non] ∧ Q (.str "None") H)
theorem cr_repNI {X : Cx} : CallR X (.builtin "repr") rRep := by
  intro pins s σ H xs us Q I r h
  rcases h with ⟨i, rfl, hz, q⟩ | ⟨rfl, q⟩
  · obtain ⟨u, rfl, t, rfl⟩ := vals1 r
    exact PySem.P.repr_of_int hz ⟨.str _, H, I.tok _, ⟨_, rfl⟩, q⟩
  · obtain ⟨u, rfl, ru⟩ := vals1 r
    obtain rfl : u = .none := ru
    exact PySem.P.repr_of_none ⟨.str _, H, I.tok _, ⟨_, rfl⟩, q⟩
set_option exponentiation.threshold 2000 in
theorem small_log {n : Nat} (h : n ≤ 1000) : ((n : Int)).natAbs.log2 < 1920 := by
  have e : ((n : Int)).natAbs = n := Int.natAbs_natCast n
  rw [e]
  by_cases z : n = 0
  · subst z
    decide
  · exact (Nat.log2_lt z).mpr (Nat.lt_of_le_of_lt h (Nat.lt_of_lt_of_le (by decide : 1000 < 2 ^ 10) (Nat.pow_le_pow_right (by decide) (by decide))))
end Rn
namespace Te
open PySem PySem.Spec PyProof.Rows L2 GxR Nw Dr Kp Se Cl En Fo Fd
/-! ### tellings, and what can be left out of them -/
theorem Der.mono {css dss : List (List Int)} {says : List Int} (h : ∀ c ∈ css, c ∈ dss) {x : Int} (d : Der css says x) : Der dss says x := by
  induction d with
  | base hs => exact .base hs
  | step hc hx _ ih => exact .step (h _ hc) hx ih
theorem Fall.mono {css dss : List (List Int)} {says : List Int} (h : ∀ c ∈ css, c ∈ dss) (f : Fall css says) : Fall dss says := by
  obtain ⟨cs, hc, d⟩ := f
  exact ⟨cs, h _ hc, fun y hy => Der.mono h (d y hy)⟩
def Tell (css : List (List Int)) : List (List Int) → List (List Int) → Prop
  | _, [] => True
  | pre, c :: r => Fall (css ++ pre) (neg c) ∧ Tell css (pre ++ [c]) r
theorem Tell.mono {css : List (List Int)} : ∀ {r pre pre' : List (List Int)}, (∀ c ∈ pre, c ∈ pre') → Tell css pre r → Tell css pre' r
  | [], _, _, _, _ => trivial
  | c :: r, pre, pre', h, ⟨a, b⟩ => by
    refine ⟨Fall.mono (fun d hd => ?_) a, Tell.mono (fun d hd => ?_) b⟩
    · rcases List.mem_append.mp hd with z | z
      · exact List.mem_append_left _ z
      · exact List.mem_append_right _ (h d z)
    · rcases List.mem_append.mp hd with z | z
      · exact List.mem_append_left _ (h d z)
      · exact List.mem_append_right _ z
theorem tell_cat {css : List (List Int)} : ∀ {a pre b : List (List Int)}, Tell css pre (a ++ b) ↔ Tell css pre a ∧ Tell css (pre ++ a) b
  | [], pre, b => by
    rw [List.append_nil]
    exact ⟨fun h => ⟨trivial, h⟩, fun h => h.2⟩
  | c :: r, pre, b => by
    have ih := tell_cat (css := css) (a := r) (pre := pre ++ [c]) (b := b)
    rw [List.append_assoc] at ih
    constructor
    · rintro ⟨h1, h2⟩
      obtain ⟨h3, h4⟩ := ih.mp h2
      exact ⟨⟨h1, h3⟩, h4⟩
    · rintro ⟨⟨h1, h3⟩, h4⟩
      exact ⟨h1, ih.mpr ⟨h3, h4⟩⟩
theorem tell_iff {css : List (List Int)} : ∀ {tss pre : List (List Int)}, Tell css pre tss ↔ ∀ i cs, tss[i]? = some cs → Fall (css ++ (pre ++ tss.take i)) (neg cs)
  | [], pre => ⟨fun _ i cs h => by simp at h, fun _ => trivial⟩
  | c :: r, pre => by
    have ih := tell_iff (css := css) (tss := r) (pre := pre ++ [c])
    constructor
    · rintro ⟨h1, h2⟩ i cs h
      cases i with
      | zero =>
        cases h
        simpa using h1
      | succ i =>
        have := ih.mp h2 i cs h
        rw [List.append_assoc] at this
        exact this
    · intro h
      refine ⟨by simpa using h 0 c rfl, ih.mpr fun i cs hi => ?_⟩
      have := h (i + 1) cs hi
      rw [List.append_assoc]
      exact this
theorem nowr_iff {css tss : List (List Int)} : NoWr css tss ↔ Tell css [] tss := by
  rw [tell_iff]
  constructor
  · intro h i cs hi
    rw [List.nil_append]
    exact h i (List.getElem?_eq_some_iff.mp hi).1 cs hi
  · intro h i _ cs hi
    have := h i cs hi
    rw [List.nil_append] at this
    exact this
theorem wr_not {css tss : List (List Int)} {n : Nat} (h : Wr css tss n) : ¬ NoWr css tss := fun z => h.no z
/-- none of K but the last one can be left out behind A -/
def Fast (css A K : List (List Int)) : Prop := ∀ K1 x K2, K = K1 ++ x :: K2 → K2 ≠ [] → ¬ Tell css [] (A ++ (K1 ++ K2))
theorem Fast.one {css A : List (List Int)} {x : List Int} : Fast css A [x] := fun K1 y K2 e n => by
  cases K1 with
  | nil => cases e; exact absurd rfl n
  | cons a r =>
    have := congrArg List.length e
    simp at this
theorem Fast.out {css A K : List (List Int)} {a : List Int} (h : Fast css (A ++ [a]) K) (ta : Tell css [] (A ++ [a])) : Fast css A K := fun K1 x K2 e n t => h K1 x K2 e n (by
  refine tell_cat.mpr ⟨ta, ?_⟩
  have := (tell_cat.mp t).2
  refine Tell.mono (fun d hd => ?_) this
  rw [List.nil_append] at hd ⊢
  exact List.mem_append_left _ hd)
theorem Fast.kept {css A K : List (List Int)} {a : List Int} (h : Fast css (A ++ [a]) K) (no : ¬ Tell css [] (A ++ K)) : Fast css A (a :: K) := fun K1 x K2 e n t => by
  cases K1 with
  | nil =>
    cases e
    exact no t
  | cons b r =>
    obtain ⟨rfl, e2⟩ := List.cons.inj e
    refine h r x K2 e2 n ?_
    rw [List.append_assoc]
    exact t
theorem take_snoc {α : Type} {l : List α} {i : Nat} {x : α} (h : l[i]? = some x) : l.take (i + 1) = l.take i ++ [x] := by
  rw [List.take_add_one, h]
  rfl
/-- K is a part of the behind of T, in order, with its last one -/
structure Part (T : List (List Int)) (m : Nat) (K : List (List Int)) : Prop where
  sub : K.Sublist (T.drop m)
  last : ∃ x, K.getLast? = some x ∧ T.getLast? = some x
theorem pw_out {H : Hp} {lvs : List V} {lss : List (List Int)} {n : Nat} (l : lvs.length = lss.length) (h : ∀ (i : Nat) (x : V) (cs : List Int), lvs[i]? = some x → lss[i]? = some cs → TupI H x cs) :
    (lvs.take n ++ lvs.drop (n + 1)).length = (lss.take n ++ lss.drop (n + 1)).length ∧ ∀ (i : Nat) (x : V) (cs : List Int), (lvs.take n ++ lvs.drop (n + 1))[i]? = some x → (lss.take n ++ lss.drop (n + 1))[i]? = some cs → TupI H x cs := by
  refine ⟨by rw [List.length_append, List.length_append, List.length_take, List.length_take, List.length_drop, List.length_drop, l], fun i x cs e1 e2 => ?_⟩
  by_cases hi : i < (lvs.take n).length
  · rw [List.getElem?_append_left hi] at e1
    rw [List.getElem?_append_left (by rw [List.length_take] at hi ⊢; omega)] at e2
    exact h i x cs (take_at e1) (take_at e2)
  · rw [List.getElem?_append_right (by omega), List.getElem?_drop] at e1
    rw [List.getElem?_append_right (by rw [List.length_take] at hi ⊢; omega), List.getElem?_drop] at e2
    have e : (lss.take n).length = (lvs.take n).length := by rw [List.length_take, List.length_take, l]
    rw [e] at e2
    exact h _ x cs e1 e2
end Te
namespace Gx2
open PySem PySem.Spec PyProof.Rows L2
/-! ### promises for calls made while nothing is being shown, with refusals: for defs that show lists or tuples and are called by others -/
structure FnX (P : Program) (w : World) (K : PySem.W.Frag) (mg : Str → Option Value) (base : Heap) (CX : CXT) (k : Nat) (f : Addr) (fd : FuncData) (ps : List Str) (sp : Sp) : Prop where
  len : ∀ us H Q E, sp us H Q E → us.length = ps.length
  run : ∀ (A : Around) (outer : List Env) (s : Shared) (H : Hp) (args : Args) (us : List Value) (vs : List V) (Q : VK) (E : XK), A.guards = some [] → Room k A → Env0 P w K mg base A outer s H → BindsTo s fd args (ps.zip us) → Vals vs us → sp vs H Q E → codeAny (model P w) A (.call (.ref f) args) (CR CX outer P w H s Q E) s
section
variable {P : Program} {w : World} {K : PySem.W.Frag} {mg : Str → Option Value} {base : Heap} {CX : CXT}
theorem of_ok {k : Nat} {f : Addr} {fd : FuncData} {ps : List Str} {sp : Sp} (F : FnOk P w K mg base CX k f fd ps sp) : FnX P w K mg base CX k f fd ps sp := ⟨F.len, fun A outer s H args us vs Q E _ => F.run A outer s H args us vs Q E⟩
theorem okX {x qual : Str} {st : Stmt} {f : Addr} {fd : FuncData} {N ps : List Str} {k : Nat} {sp : Sp} (F : Fun K x qual st f fd) (S : FnScope N ps (defScope st)) (ln : ∀ us H Q E, sp us H Q E → us.length = ps.length)
    (body : ∀ (cdv : Value) (A : Around) (outer : List Env) (s : Shared) (H : Hp) (vs : List V) (Q : VK) (E : XK), A.guards = some [] → Room k (A.deeper (envOfC qual (defScope st) s.heap.objs.size f cdv)) → sp vs H Q E →
      ∃ t, PSs (cxOf CX P w K mg base N qual (defScope st) f cdv A outer s H E) (defBody st) t ∧ t { nx := fun _ H' => Q .non H', rt := Q } (start N vs) H) : FnX P w K mg base CX (k + 1) f fd ps sp := by
  obtain ⟨oc, od, kV, doc, pm, an, cdv, ct, osl, rfl, lk, hcd⟩ := F.ex
  refine ⟨ln, fun A outer s H args us vs Q E gd room env bind rel ask => ?_⟩
  have inS : K.In s.heap := env.mod.kin.keeps fun b o e => (env.bs b o e).1
  have noL : s.heap.NoLimit := env.mod.nolimit.keeps fun b o e => (env.bs b o e).1
  refine codeAny_call_function room.depth (inS _ _ lk) rfl S.co S.gen rfl (PySem.W.codeRec_of inS hcd) (bind _ _ _ _ (wpAny_newFunctionEnv_cells S.kind (fun y hy => ?_) fun env' he s1 z => ?_))
  · rcases S.par y.1 (List.of_mem_zip (a := y.1) (b := y.2) hy).1 with q | q
    · exact Or.inl q
    · exact Or.inr ⟨q, PySem.W.cellsFrom_some _ _ _ (Or.inl q)⟩
  · subst he
    obtain ⟨t, h1, h2⟩ := body cdv A outer s H vs Q E gd (room.deeper _) ask
    have J := inv_start (CX := CX) (E := E) S room.hd env (ln _ _ _ _ ask) rel z
    refine ⟨noL.keeps z.toInCall.keep, codeAny_func (wpAny_mono (h1.run [] s1 _ H _ J h2) (fun fl s' r => ?_) fun _ _ r => r)⟩
    match fl, r with
    | .ret u, r =>
      obtain ⟨v, σ', H', I, rv, q⟩ := r
      exact ⟨v, H', I.os, I.bare, I.base, I.hok, rv, q⟩
    | .next, r =>
      obtain ⟨σ', H', I, q⟩ := r
      exact ⟨.non, H', I.os, I.bare, I.base, I.hok, rfl, q⟩
    | .brk, r =>
      obtain ⟨_, _, _, q⟩ := r
      exact q.elim
    | .cont, r =>
      obtain ⟨_, _, _, q⟩ := r
      exact q.elim
end
section
variable {X : Cx} {CX : CXT} {k : Nat} {f : Addr} {fd : FuncData} {ps : List Str} {sp : Sp} {dvs : List V} {ds : List Value} {E : XK}
theorem runX {pins : List (Addr × Obj)} {σ : L2.St} {H : Hp} {s : Shared} {Q : VK} {us : List Value} {vs : List V} (F : FnX X.prog X.w X.K X.mg X.base CX k f fd ps sp) (gd : X.A.guards = some []) (room : Room k X.A) (bind : Binds X.K fd ps ds) (dv : Vals dvs ds) (pass : Passes CX X E)
    (I : Inv X pins σ H s) (rel : Vals vs us) (ask : sp (vs ++ dvs) H Q E) : wpAny (model X.prog X.w) X.A (call (.ref f) us) (EP X pins σ Q) X.xe s := by
  have r2 : Vals (vs ++ dvs) (us ++ ds) := rel.append dv
  have ll : (us ++ ds).length = ps.length := r2.length.symm.trans (F.len _ _ _ _ ask)
  refine wpAny_call (codeAny_mono (F.run X.A X.stack s H ⟨us, []⟩ _ _ Q E gd room I.env0 (bind s us I.kIn ll) r2 ask) fun r s' z => ?_)
  match r, z with
  | .error e, z => exact pass pins σ H s e s' I z
  | .ok (.ret u), z => exact I.after z
  | .ok .next, z => exact z.elim
  | .ok .brk, z => exact z.elim
  | .ok .cont, z => exact z.elim
/-- f(..) where nothing is being shown -/
theorem pe_callX {x : Str} {p pos : Pos} {e : Expr} {es : List Expr} {t : TA} (F : FnX X.prog X.w X.K X.mg X.base CX k f fd ps sp) (gd : X.A.guards = some []) (room : Room k X.A) (gl : Gl X x) (at_ : X.mg x = some (.ref f)) (kp : PySem.W.keepIn X.K (.ref f) = true) (bind : Binds X.K fd ps ds) (dv : Vals dvs ds) (pass : Passes CX X E)
    (ha : PA X (e :: es) t) (hdb : (x == ("__debug__" : Str)) = false := by decide) (he : starEach (e :: es) X.env = (false, eval e X.env) :: starEach es X.env := by rfl) (hpl : (backTo pos (starEach es X.env)).any (·.1) = false := by rfl) :
    PE X (.Call (.Name x p) (e :: es) [] pos) (tCall sp dvs E t) :=
  ⟨fun pins s σ H Q I h => wpAny_Call_Name_kw (ld_glob I gl at_ (PySem.W.callWith_K (h₀ := X.base) I.ok.mod.kin kp (thn (ha.run pos pins s σ H _ I h) fun us s1 ⟨vs, H1, I1, r, q⟩ => ⟨I1.kIn, runX F gd room bind dv pass I1 r q⟩) he hpl) hdb)⟩
end
end Gx2
namespace Te
open PySem PySem.Spec PyProof.Rows L2 GxR Nw Dr Kp Se Cl En Fo Fd
abbrev veB : List Value := [.type "ValueError", .type "Exception", .type "BaseException", .type "object"]
abbrev sChk : Stmt := topS 35
theorem scChk : FnScope ["book", "telling"] ["book", "telling"] (defScope sChk) := ⟨rfl, rfl, rfl, by decide +kernel, rfl, by decide +kernel, by decide +kernel⟩
/-- what is known of the class NoTelling -/
structure CT (K : PySem.W.Frag) (mg : Str → Option Value) (C : Addr) : Prop where
  xP : PySem.W.excIn K C veB "ValueError.__new__" = true
  gP : mg "NoTelling" = some (.ref C)
  kP : PySem.W.keepIn K (.ref C) = true
  bP : PySem.W.subIn K (.ref C) (.type "BaseException") = some true
  tP : PySem.W.typeIn K (.ref C) = some (.type "type")
structure Zv (mg : Str → Option Value) : Prop where
  z_len : mg "len" = none
  z_list : mg "list" = none
  z_range : mg "range" = none
  z_reversed : mg "reversed" = none
section
variable {P : Program} {w : World} {K : PySem.W.Frag} {mg : Str → Option Value} {base : Heap}
/-- check_telling(book, telling) -/
def spChk (C Po : Addr) : Sp := fun vs H Q E => ∃ (v : V) (t : Addr) (tvs : List V) (css tss : List (List Int)), vs = [v, .ref t] ∧ Bk H v css ∧ Lc H t tvs tss ∧ (∀ cs ∈ css, Sy cs) ∧ (∀ cs ∈ tss, Sy cs) ∧ css.length ≤ 40 ∧ tss ≠ [] ∧ tss.length ≤ 12 ∧ TabG H Po ∧
  (∀ H', Ke Nof H H' → NoWr css tss → Q .non H') ∧ ∀ H', Ke Nof H H' → ¬ NoWr css tss → E (.ref C) none H'
theorem ok_chk {f fW C Po : Addr} {fd fdW : FuncData} {tk : Tok} (F : Fun K "check_telling" "check_telling" sChk f fd) (T : Zv mg) (C' : CT K mg C) (M12 : mg "MOST_TOLD" = some (.int 12 tk))
    (FW : Fun K "wrong_at" "wrong_at" sWrg fW fdW) (bW : Binds K fdW ["book", "telling"] []) (gW : mg "wrong_at" = some (.ref fW)) (GW : FnOk P w K mg base CX0 7 fW fdW ["book", "telling"] (spWrg Po)) :
    FnOk P w K mg base (L2.CX P w) 8 f fd ["book", "telling"] (spChk C Po) := by
  refine F.okX scChk (fun vs H Q E h => ?_) (fun cdv A outer s H vs Q E hr h => ?_)
  · obtain ⟨v, t, tvs, css, tss, rfl, _⟩ := h
    rfl
  · obtain ⟨v, t, tvs, css, tss, rfl, hb, hl, sb, st, l1, n2, l2, tg, q1, q2⟩ := h
    have hr7 : Room 7 _ := hr
    have l0 := List.length_pos_iff.mpr n2
    have lt := hl.2.1
    refine ⟨_, (pss_one (ps_if (PW.pt (pw_or (pt_not (pt_chain op_le op_le pe_int (pe_callB call_len_seq (by rfl) T.z_len (by decide +kernel) (pa_cons (pv 1) pa_nil)) (pe_glob (v := .int 12) rfl M12 ⟨_, rfl⟩))) (pw_or1 (pt_cmpR op_notN (pe_call GW hr7 (by rfl) gW FW.kp bW .nil pass0 (pa_cons (pv 0) (pa_cons (pv 1) pa_nil))) pe_non (nomark _))))) (pss_one (ps_raise rfl (takes_of rfl rfl rfl rfl) (pmk_own PySem.F.excBase_ValueError C'.xP C'.gP C'.kP (raises_own C'.bP C'.tP) rfl))) pss_nil)), ?_⟩
    refine ⟨_, rfl, t, _, rfl, .inl (.of hl.1), _, _, rfl, rfl, true, bl_t (decide_eq_true (by omega)), ?_⟩
    refine ⟨_, _, rfl, rfl, true, bl_t (decide_eq_true (by omega)), ?_⟩
    refine ⟨_, rfl, _, rfl, v, t, tvs, css, tss, rfl, hb, hl, sb, st, l1, by omega, tg, fun H1 n k1 wn _ => ?_, fun H1 k1 nw => ?_⟩
    · exact ⟨rfl, true, rfl, q2 H1 k1 (wr_not wn)⟩
    · exact ⟨rfl, false, rfl, q1 H1 k1 nw⟩
/-- spared(book, telling) -/
def spSpa (C Po : Addr) : Sp := fun vs H Q E => ∃ (v : V) (t : Addr) (tvs : List V) (css tss : List (List Int)), vs = [v, .ref t] ∧ Bk H v css ∧ Lc H t tvs tss ∧ (∀ cs ∈ css, Sy cs) ∧ (∀ cs ∈ tss, Sy cs) ∧ css.length ≤ 40 ∧ tss ≠ [] ∧ tss.length ≤ 12 ∧ TabG H Po ∧
  (∀ H' p rvs rss, Ke Nof H H' → Frs H p → Lc H' p rvs rss → Part tss 0 rss → NoWr css tss → NoWr css rss → Fast css [] rss → Q (.ref p) H') ∧ ∀ H', Ke Nof H H' → ¬ NoWr css tss → E (.ref C) none H'
theorem Lc.ke {H H' : Hp} {t : Addr} {tvs : List V} {tss : List (List Int)} (h : Lc H t tvs tss) (k : Ke Nof H H') : Lc H' t tvs tss := ⟨k.lst h.1 fun z => z, h.2.1, fun i x cs e1 e2 => (h.2.2 i x cs e1 e2).ke k⟩
theorem Part.ne {T : List (List Int)} {m : Nat} {K : List (List Int)} (h : Part T m K) : K ≠ [] := fun z => by
  obtain ⟨x, h1, _⟩ := h.last
  rw [z] at h1
  cases h1
end
end Te
namespace Mp
open PySem PySem.Spec PyProof.Rows L2 GxR Nw Dr Kp Se Ct Lr Lp Fo Te Mw RT
/-! ### tellings made whole (k53) -/
theorem cut_from (xs : List V) (n : Nat) : cutV xs (some (n : Int)) none = xs.drop n := by
  unfold cutV
  rw [HT.sIx_none, HT.sIx_nat]
  by_cases h : n ≤ xs.length
  · rw [Nat.min_eq_left h]
    exact List.take_of_length_le (by rw [List.length_drop]; exact Nat.le_refl _)
  · rw [Nat.min_eq_right (by omega), List.drop_of_length_le (by omega : xs.length ≤ n), List.drop_of_length_le (Nat.le_refl _), List.take_nil]
theorem ix_last {n : Nat} (h : 0 < n) : ixN n (-1) = some (n - 1) := by
  unfold ixN
  rw [if_neg (by decide), if_pos (by omega)]
  congr 1
  omega
theorem at_last {α : Type} {xs : List α} {x : α} (h : xs[xs.length - 1]? = some x) : atI xs (-1) = some x := by
  have l := (List.getElem?_eq_some_iff.mp h).1
  unfold atI
  rw [ix_last (by omega)]
  exact h
theorem rg_nat (n : Nat) : rgV 0 (n : Int) = (List.range n).map fun i : Nat => V.int (i : Nat) := by
  unfold rgV
  rw [show ((n : Int) - 0).toNat = n by omega]
  exact List.map_congr_left fun i _ => by rw [Int.zero_add]
theorem row_more {css cls : List (List Int)} {r : Rw} {c : List Int} {n : Nat} (h : RowCl css (cls.take n) r c) : RowCl css cls r c := by
  have t : ∀ {i : Nat} {x : List Int}, (cls.take n)[i]? = some x → cls[i]? = some x := fun {i x} h => by
    rw [List.getElem?_take] at h
    split at h
    · exact h
    · cases h
  cases r with
  | book m => exact h
  | cut i j k =>
    obtain ⟨x, y, h1, h2, h3⟩ := h
    exact ⟨x, y, t h1, t h2, h3⟩
theorem lad_book {css : List (List Int)} : Lad css ((List.range css.length).map Rw.book) css := by
  refine ⟨by rw [List.length_map, List.length_range], fun i r c h1 h2 => ?_⟩
  rw [List.getElem?_map] at h1
  obtain ⟨j, hj, rfl⟩ := Option.map_eq_some_iff.mp h1
  have lj := (List.getElem?_eq_some_iff.mp hj).1
  rw [List.length_range] at lj
  rw [List.getElem?_range lj] at hj
  cases hj
  exact h2
/-- each claim has a row that is as wide -/
def Cov (ps : List Nat) (cls tss : List (List Int)) : Prop := ∀ (i : Nat) (c : List Int) (p : Nat), tss[i]? = some c → ps[i]? = some p → ∃ d, cls[p]? = some d ∧ ∀ y ∈ d, y ∈ c
theorem Cov.more {ps : List Nat} {cls cls' tss : List (List Int)} (h : Cov ps cls tss) : Cov ps (cls ++ cls') tss := fun i c p h1 h2 => by
  obtain ⟨d, hd, w⟩ := h i c p h1 h2
  exact ⟨d, by rw [List.getElem?_append_left (List.getElem?_eq_some_iff.mp hd).1]; exact hd, w⟩
theorem Cov.snoc {ps : List Nat} {cls tss : List (List Int)} {n : Nat} (h : Cov ps cls tss) (g : ∀ c, tss[ps.length]? = some c → ∃ d, cls[n]? = some d ∧ ∀ y ∈ d, y ∈ c) : Cov (ps ++ [n]) cls tss := fun i c p h1 h2 => by
  by_cases l : i < ps.length
  · rw [List.getElem?_append_left l] at h2
    exact h i c p h1 h2
  · have e : i = ps.length := by
      have := (List.getElem?_eq_some_iff.mp h2).1
      rw [List.length_append, List.length_singleton] at this
      omega
    subst e
    rw [List.getElem?_append_right (Nat.le_refl _), Nat.sub_self] at h2
    cases h2
    exact g c h1
theorem Ke.two {F : Addr → Prop} {H H1 H' : Hp} (s : Same H H1) (k : Ke F H1 H') (fr : ∀ a, F a → Frs H a) : Ke Nof H H' := by
  have k0 : Ke Nof H H1 := .same s
  refine ⟨fun b o e t _ => k.keep b o (s _ _ e) t fun z => fr b z b o e t rfl, fun P h => k.tabs P (k0.tabs P h), fun b xs e => k.tups b xs (s _ _ e)⟩
structure Zb (mg : Str → Option Value) : Prop where
  z_len : mg "len" = none
  z_list : mg "list" = none
  z_range : mg "range" = none
section
variable {P : Program} {w : World} {K : PySem.W.Frag} {mg : Str → Option Value} {base : Heap}
abbrev sMwh : Stmt := topS 37
abbrev nMwh : List Str := ["book", "telling", "rows", "claims", "places", "claim", "number"]
theorem scMwh : FnScope nMwh ["book", "telling"] (defScope sMwh) := ⟨rfl, rfl, rfl, by decide +kernel, rfl, by decide +kernel, by decide +kernel⟩
def spMwh (C Ph Po : Addr) : Sp := fun vs H Q E => ∃ (v : V) (t : Addr) (tvs : List V) (css tss : List (List Int)), vs = [v, .ref t] ∧ Bk H v css ∧ Lc H t tvs tss ∧ (∀ c ∈ css, IsCl c) ∧ (∀ c ∈ tss, IsCl c) ∧ 1 ≤ css.length ∧ css.length ≤ 16 ∧ tss ≠ [] ∧ tss.length ≤ 12 ∧ TabG H Ph ∧ TabG H Po ∧
  (∀ (H' : Hp) (p R N : Addr) (rows : List Rw) (cls : List (List Int)) (ns : List Nat), Ke Nof H H' → NoWr css tss → H' p = some (.tup [.ref R, .ref N]) → Frs H R → Frs H N → R ≠ N → RwL H' R rows → H' N = some (.lst (ns.map fun n : Nat => V.int n)) → Lad css rows cls → rows.length ≤ 200 → ns.length = tss.length →
    Cov ns cls tss → ns[ns.length - 1]? = some (rows.length - 1) → 1 ≤ rows.length → Q (.ref p) H') ∧ ∀ H', Ke Nof H H' → ¬ NoWr css tss → E (.ref C) none H'
theorem ok_mwh {f fK fT fP C' Ph Po : Addr} {fd fdK fdT fdP : FuncData} (F : Fun K "made_whole" "made_whole" sMwh f fd) (T : Zb mg)
    (FK : Fun K "check_telling" "check_telling" sChk fK fdK) (bK : Binds K fdK ["book", "telling"] []) (gK : mg "check_telling" = some (.ref fK)) (GK : FnOk P w K mg base (L2.CX P w) 8 fK fdK ["book", "telling"] (spChk C' Ph))
    (FT : Fun K "put_told" "put_told" sPtd fT fdT) (bT : Binds K fdT ["book", "rows", "claims", "places", "claim"] []) (gT : mg "put_told" = some (.ref fT)) (GT : FnOk P w K mg base CX0 7 fT fdT ["book", "rows", "claims", "places", "claim"] (spPtd Ph Po))
    (FP : Fun K "put_row" "put_row" sPut fP fdP) (bP : Binds K fdP ["book", "rows", "claims", "row"] []) (gP : mg "put_row" = some (.ref fP)) (GP : FnOk P w K mg base CX0 6 fP fdP ["book", "rows", "claims", "row"] (spPut Po)) :
    FnOk P w K mg base (L2.CX P w) 9 f fd ["book", "telling"] (spMwh C' Ph Po) := by
  refine F.okX scMwh (fun vs H Q E h => ?_) (fun cdv A outer s H vs Q E hr h => ?_)
  · obtain ⟨v, t, tvs, css, tss, rfl, _⟩ := h
    rfl
  · obtain ⟨v, t, tvs, css, tss, rfl, hb, hl, ib, it, c1, c16, n2, l12, tg, to, q1, q2⟩ := h
    have hr8 : Room 8 _ := hr
    have hr7 : Room 7 _ := hr.mono (by decide)
    have hr6 : Room 6 _ := hr.mono (by decide)
    have lt0 := List.length_pos_iff.mpr n2
    refine ⟨_, (pss_cons (ps_expr (pe_call GK hr8 (by rfl) gK FK.kp bK .nil (passes_call (takes_of rfl rfl rfl rfl) (fun _ _ _ _ h => h)) (pa_cons (pv 0) (pa_cons (pv 1) pa_nil)))) (PSs.nox (Evl.pss_cut (ps_setLc (i := 2) (own := [("number", 6)]) (g := (gName 6)) (tt := tYes) rfl scMwh.nd rfl rfl (sw_true rfl rfl rfl (by decide +kernel)) (pi_range1 (by rfl) T.z_range (pa_cons (pe_callB call_len_seq (by rfl) T.z_len (by decide +kernel) (pa_cons (pv 0) pa_nil)) pa_nil)) (blkOk_by (N := nMwh) (sc := defScope sMwh) (by decide +kernel)) (fun _ _ _ _ _ => (pg_name (i := 6) scMwh.nd rfl (.inl rfl))) (fun _ _ _ _ _ => pts_nil) (fun _ _ _ _ _ => (pe_tupN (pa_cons pe_str (pa_cons (pv 6) pa_nil)))))
      (Evl.pss_cut (ps_set (i := 3) scMwh.nd rfl (.inl rfl) (pe_callTy call_list_ofN (by rfl) T.z_list (by decide +kernel) (pa_cons (pv 0) pa_nil)))
      (Evl.pss_cut (ps_set (i := 4) scMwh.nd rfl (.inl rfl) (pe_listRgN rfl (by rfl) T.z_list (prg_1 (by rfl) T.z_range (pe_callB call_len_seq (by rfl) T.z_len (by decide +kernel) (pa_cons (pv 0) pa_nil)))))
      (Evl.pss_cut (ps_for PassesOwn.never rfl (pi_list (pv 1)) (pg_name (i := 5) scMwh.nd rfl (.inl rfl)) (pss_one (ps_expr (pe_bm PySem.F.plainAttrs_list PySem.F.slot_list_append PySem.F.type_list_append mt_append (pv 4) (pa_cons (pe_call GT hr7 (by rfl) gT FT.kp bT .nil pass0 (pa_cons (pv 0) (pa_cons (pv 2) (pa_cons (pv 3) (pa_cons (pv 4) (pa_cons (pv 5) pa_nil)))))) pa_nil)))))
      (Evl.pss_cut (ps_if (pt_cmpR op_ne (pe_ix ix_list (pv 4) (pe_un un_neg pe_int) (fun _ _ => rfl)) (pe_op op_sub (pe_callB call_len_seq (by rfl) T.z_len (by decide +kernel) (pa_cons (pv 2) pa_nil)) pe_int) (nomark _)) (pss_one (ps_asg (pe_call GP hr6 (by rfl) gP FP.kp bP .nil pass0 (pa_cons (pv 0) (pa_cons (pv 2) (pa_cons (pv 3) (pa_cons (pe_ix ix_list (pv 2) (pe_ix ix_list (pv 4) (pe_un un_neg pe_int) (fun _ _ => rfl)) (fun _ _ => rfl)) pa_nil))))) (pg_sub (pv 4) (pe_un un_neg pe_int) set_list))) pss_nil)
      (pss_one (ps_ret (pe_tupN (pa_cons (pv 2) (pa_cons (pe_slice sl_listN (pv 4) (po_some (pe_callB call_len_seq (by rfl) T.z_len (by decide +kernel) (pa_cons (pv 0) pa_nil))) po_none) pa_nil)))))))))))), ?_⟩
    refine ⟨_, rfl, _, rfl, v, t, tvs, css, tss, rfl, hb, hl, fun c hc => Sy.of (ib c hc), fun c hc => Sy.of (it c hc), by omega, n2, l12, tg, fun H1 k1 nw => ?_, fun H1 k1 nn => q2 H1 k1 nn⟩
    obtain ⟨ba, bvs, rfl, hB, lB, aB⟩ := hb.ke k1
    obtain ⟨ht, ltv, at_⟩ := hl
    have ht1 := k1.lst ht fun z => z
    -- rows
    refine Evl.q_cut (M := fun σ' G => ∃ (R : Addr) (z : Option V), σ' = [some (.ref ba), some (.ref t), some (.ref R), none, none, none, z] ∧ H1 R = none ∧ Same H1 G ∧ RwL G R ((List.range css.length).map Rw.book)) ?_ ?_
    · refine ⟨_, rfl, ba, _, rfl, .inr (.of hB), ((bvs.length : Nat) : Int), rfl, by omega, by omega, fun D nD => ?_⟩
      refine lc_range (lo := 0) (n := ((bvs.length : Nat) : Int).toNat) (Pv := fun i G => Same H1 G ∧ RwL G D ((List.range i).map Rw.book)) ⟨same_new nD, [], upd_same, .nil⟩ ?_ ?_
      · rintro i G hi ⟨s1, us, hD, au⟩
        have hi : i < ((bvs.length : Nat) : Int).toNat := hi
        have lau := au.1
        rw [List.length_map, List.length_range] at lau
        refine ⟨rfl, _, rfl, by show 2 ≤ sizeLine; decide, fun p G2 np s2 hp _ => ?_⟩
        have hD2 := s2 _ _ hD
        refine ⟨_, hD2, small1000 (by omega), same_wr (s1.trans s2) nD, ?_⟩
        rw [List.range_succ, List.map_append]
        refine rw_snoc hD2 (au.imp fun _ _ r => r.ke (.same s2) (F := Nof)) ⟨p, rfl, ?_⟩
        rw [hp, Int.zero_add]
        rfl
      · rintro G ⟨s1, hD⟩
        rw [show ((bvs.length : Nat) : Int).toNat = css.length by omega] at hD
        exact ⟨D, _, rfl, nD, s1, hD⟩
    rintro σ' H2 ⟨R, z, rfl, nR, s2, hR2⟩
    -- claims
    refine Evl.q_cut (M := fun σ' G => ∃ (C : Addr), σ' = [some (.ref ba), some (.ref t), some (.ref R), some (.ref C), none, none, z] ∧ H2 C = none ∧ Same H2 G ∧ G C = some (.lst bvs)) ?_ ?_
    · exact ⟨_, rfl, ba, _, rfl, .inr (.of (s2 _ _ hB)), fun C G nC s3 hC _ => ⟨C, rfl, nC, s3, hC⟩⟩
    rintro σ' H3 ⟨C, rfl, nC, s3, hC3⟩
    -- places
    refine Evl.q_cut (M := fun σ' G => ∃ (P' : Addr), σ' = [some (.ref ba), some (.ref t), some (.ref R), some (.ref C), some (.ref P'), none, z] ∧ H3 P' = none ∧ Same H3 G ∧ G P' = some (.lst ((List.range css.length).map fun i : Nat => V.int (i : Nat)))) ?_ ?_
    · refine ⟨_, rfl, ba, _, rfl, .inr (.of ((s2.trans s3) _ _ hB)), ((bvs.length : Nat) : Int), rfl, .of_le (by omega) (by omega) (by omega) (by omega), fun P' G nP s4 hP _ => ⟨P', rfl, nP, s4, ?_⟩⟩
      rw [hP, rg_nat, lB]
    rintro σ' H4 ⟨P', rfl, nP, s4, hP4⟩
    have s14 := s2.trans (s3.trans s4)
    have nRC : R ≠ C := by
      obtain ⟨us, h, _⟩ := hR2
      exact ne_of_none h nC
    have nPR : P' ≠ R := by
      obtain ⟨us, h, _⟩ := hR2
      exact Ne.symm (ne_of_none (s3 _ _ h) nP)
    have nPC : P' ≠ C := Ne.symm (ne_of_none hC3 nP)
    have ntR : t ≠ R := ne_of_none ht1 nR
    have ntC : t ≠ C := ne_of_none (s2 _ _ ht1) nC
    have ntP : t ≠ P' := ne_of_none ((s2.trans s3) _ _ ht1) nP
    have frR : Frs H R := (Frs.of nR).ke0 k1
    have frC : Frs H C := (Frs.of (s2.free nC)).ke0 k1
    have frP : Frs H P' := (Frs.of ((s2.trans s3).free nP)).ke0 k1
    have frs : ∀ a, (a = R ∨ a = C ∨ a = P') → Frs H1 a := fun a z => by
      rcases z with rfl | rfl | rfl
      · exact .of nR
      · exact .of (s2.free nC)
      · exact .of ((s2.trans s3).free nP)
    have ht4 := s14 _ _ ht1
    have k04 : Ke Nof H H4 := k1.trans (.same s14)
    have tg4 := k04.tabs _ tg
    have to4 := k04.tabs _ to
    have x0 : Pv (.ref ba) R C css ((List.range css.length).map Rw.book) css H4 := ⟨⟨ba, bvs, rfl, s14 _ _ hB, lB, fun i y c e1 e2 => (aB i y c e1 e2).ke (.same s14) (F := Nof)⟩, by
      obtain ⟨us, h, au⟩ := hR2
      exact ⟨us, (s3.trans s4) _ _ h, au.imp fun _ _ r => r.ke (.same (s3.trans s4)) (F := Nof)⟩, ⟨bvs, s4 _ _ hC3, lB, fun i y c e1 e2 => (aB i y c e1 e2).ke (.same s14) (F := Nof)⟩, lad_book, ib, nRC⟩
    have at4 : ∀ (i : Nat) (y : V) (c : List Int), tvs[i]? = some y → tss[i]? = some c → TupI H4 y c := fun i y c e1 e2 => (at_ i y c e1 e2).ke k04
    -- the claims of the telling
    refine Evl.q_cut (M := fun σ' G => ∃ (y5 : Option V) (rows : List Rw) (cls : List (List Int)) (ps : List Nat), σ' = [some (.ref ba), some (.ref t), some (.ref R), some (.ref C), some (.ref P'), y5, z] ∧ Ke (fun a => a = R ∨ a = C ∨ a = P') H4 G ∧ Pv (.ref ba) R C css rows cls G ∧ G P' = some (.lst (ps.map fun i : Nat => V.int (i : Nat))) ∧ ps.length = css.length + tss.length ∧ (∀ p ∈ ps, p < cls.length) ∧ Cov ps cls (css ++ tss) ∧ rows.length ≤ 16 + 8 * 12) ?_ ?_
    · refine ⟨_, rfl, t, rfl, ⟨_, .of ht4⟩, for_list (xs := tvs) (Pv := fun u σ G => ∃ (y5 : Option V) (rows : List Rw) (cls : List (List Int)) (ps : List Nat), u ≤ tss.length ∧ σ = [some (.ref ba), some (.ref t), some (.ref R), some (.ref C), some (.ref P'), y5, z] ∧ Ke (fun a => a = R ∨ a = C ∨ a = P') H4 G ∧ Pv (.ref ba) R C css rows cls G ∧ G P' = some (.lst (ps.map fun i : Nat => V.int (i : Nat))) ∧ ps.length = css.length + u ∧ (∀ p ∈ ps, p < cls.length) ∧ Cov ps cls (css ++ tss) ∧ rows.length ≤ 16 + 8 * u) ?_ (fun u σ G _ y => ?_) ?_ ?_⟩
      · refine ⟨none, _, css, List.range css.length, Nat.zero_le _, rfl, .refl _ _, x0, hP4, by rw [List.length_range]; rfl, fun p hp => List.mem_range.mp hp, fun i c p e1 e2 => ?_, by rw [List.length_map, List.length_range]; omega⟩
        have li := (List.getElem?_eq_some_iff.mp e2).1
        rw [List.length_range] at li
        rw [List.getElem?_range li] at e2
        cases e2
        rw [List.getElem?_append_left li] at e1
        exact ⟨c, e1, fun y hy => hy⟩
      · obtain ⟨_, _, _, _, _, _, k, _⟩ := y
        exact .of (k.lst ht4 fun y => y.elim ntR fun y => y.elim ntC ntP)
      · rintro u y σ G hy ⟨y5, rows, cls, ps, lu, rfl, kG, xG, hP, lps, bps, cov, lr⟩
        have ly := (List.getElem?_eq_some_iff.mp hy).1
        have hc := List.getElem?_eq_getElem (show u < tss.length by omega)
        generalize tss[u]'(by omega) = c at hc
        have tc := (at4 u y c hy hc).ke kG
        have ll := xG.ld.1
        have fall := nw u (List.getElem?_eq_some_iff.mp hc).1 c hc
        refine ⟨_, rfl, .inl ⟨rfl, _, .of hP⟩, _, rfl, _, rfl, _, rfl, _, rfl, _, rfl, .ref ba, y, R, C, P', css, cls, rows, ps, c, rfl, xG, hP, nPR, nPC, bps, by omega, tc, it c (List.mem_of_getElem? hc), fall_sub (fun x hx => ?_) fall, by omega, kG.tabs _ tg4, kG.tabs _ to4, fun n G2 rows' cls' k2 x2 l8 wd => ?_⟩
        · obtain ⟨i, hi⟩ := List.getElem?_of_mem hx
          have li := (List.getElem?_eq_some_iff.mp hi).1
          rw [List.length_append, List.length_take] at li
          have hi' : (css ++ tss)[i]? = some x := by
            by_cases l : i < css.length
            · rw [List.getElem?_append_left l] at hi ⊢
              exact hi
            · rw [List.getElem?_append_right (by omega)] at hi ⊢
              exact take_at hi
          have hp := List.getElem?_eq_getElem (show i < ps.length by omega)
          obtain ⟨d, hd, wd⟩ := cov i x _ hi' hp
          refine ⟨d, List.mem_map.mpr ⟨_, List.mem_of_getElem? hp, getD_at hd⟩, wd⟩
        · have hP2 := k2.lst hP fun z => z.elim nPR nPC
          refine ⟨P', _, _, rfl, rfl, hP2, small1000 (by rw [List.length_map]; omega), ?_⟩
          have hn := (List.getElem?_eq_some_iff.mp wd.choose_spec.1).1
          refine ⟨_, rows ++ rows', cls ++ cls', ps ++ [n], by omega, rfl, ke_wr (kG.trans (k2.mono fun a y => y.elim .inl fun y => .inr (.inl y))) (.inr (.inr rfl)) hP2, ?_, ?_, ?_, fun p hp => ?_, ?_, ?_⟩
          · refine ⟨?_, ?_, ?_, x2.ld, x2.ib, x2.ne⟩
            · obtain ⟨a, us, e, h, l, r⟩ := x2.bk
              exact ⟨a, us, e, by rw [upd_ne (fun y => by rw [y, hP2] at h; cases h)]; exact h, l, fun i v' c' e1 e2 => TupI.wr (r i v' c' e1 e2) hP2⟩
            · obtain ⟨us, h, au⟩ := x2.rw
              exact ⟨us, by rw [upd_ne (Ne.symm nPR)]; exact h, au.imp fun _ _ r => RowAt.wr r hP2⟩
            · obtain ⟨us, h, au⟩ := x2.cl
              exact ⟨us, by rw [upd_ne (Ne.symm nPC)]; exact h, au.imp fun _ _ r => TupI.wr r hP2⟩
          · rw [upd_same, List.map_append]
            rfl
          · rw [List.length_append, List.length_singleton, lps]
            omega
          · rcases List.mem_append.mp hp with m | m
            · have := bps p m
              rw [List.length_append]
              omega
            · rw [List.mem_singleton.mp m]
              exact hn
          · refine cov.more.snoc fun c' hc' => ?_
            rw [lps, List.getElem?_append_right (by omega), show css.length + u - css.length = u by omega, hc] at hc'
            cases hc'
            exact wd
          · rw [List.length_append]
            omega
      · rintro σ G ⟨y5, rows, cls, ps, lu, rfl, kG, xG, hP, lps, bps, cov, lr⟩
        exact ⟨y5, rows, cls, ps, rfl, kG, xG, hP, by omega, bps, cov, by omega⟩
    rintro σ' H5 ⟨y5, rows, cls, ps, rfl, k5, x5, hP5, lps, bps, cov, lr⟩
    have lps0 : 0 < ps.length := by omega
    have hla := List.getElem?_eq_getElem (show ps.length - 1 < ps.length by omega)
    generalize ps[ps.length - 1]'(by omega) = la at hla
    have bla := bps la (List.mem_of_getElem? hla)
    have ll5 := x5.ld.1
    have hlaV : (ps.map fun i : Nat => V.int (i : Nat))[(ps.map fun i : Nat => V.int (i : Nat)).length - 1]? = some (.int (la : Nat)) := by
      rw [List.length_map, List.getElem?_map, hla]
      rfl
    -- the last one
    refine Evl.q_cut (M := fun σ' G => ∃ (rows : List Rw) (cls : List (List Int)) (ps : List Nat), σ' = [some (.ref ba), some (.ref t), some (.ref R), some (.ref C), some (.ref P'), y5, z] ∧ Ke (fun a => a = R ∨ a = C ∨ a = P') H4 G ∧ Pv (.ref ba) R C css rows cls G ∧ G P' = some (.lst (ps.map fun i : Nat => V.int (i : Nat))) ∧ ps.length = css.length + tss.length ∧ Cov ps cls (css ++ tss) ∧ rows.length ≤ 200 ∧ ps[ps.length - 1]? = some (rows.length - 1) ∧ 1 ≤ rows.length) ?_ ?_
    · obtain ⟨rvs, hR5, aR5⟩ := x5.rw
      have lrv := aR5.1
      refine ⟨_, rfl, _, rfl, P', _, _, _, rfl, rfl, .of hP5, at_last hlaV, _, rfl, R, _, rfl, .inl (.of hR5), _, _, rfl, rfl, rfl, _, rfl, ite2 (fun e => ?_) (fun e => ?_)⟩
      · have hr := List.getElem?_eq_getElem (show la < rows.length by omega)
        generalize rows[la]'(by omega) = r at hr
        have hd := List.getElem?_eq_getElem (show la < cls.length by omega)
        generalize cls[la]'(by omega) = d at hd
        obtain ⟨rv, hrv, trv⟩ := aR5.atR hr
        refine ⟨_, rfl, _, rfl, _, rfl, _, rfl, _, rfl, _, rfl, P', _, _, _, rfl, rfl, .of hP5, at_last hlaV, R, _, _, rv, rfl, rfl, .of hR5, at_of (j := la) rfl hrv, ?_⟩
        refine ⟨.ref ba, rv, R, C, css, cls, rows, r, d, rfl, x5, trv, row_more (x5.ld.2 la r d hr hd), by omega, k5.tabs _ to4, fun G k6 x6 => ?_⟩
        have hP6 := k6.lst hP5 fun y => y.elim nPR nPC
        refine ⟨_, rfl, _, rfl, P', _, _, _, rfl, rfl, hP6, ix_last (by rw [List.length_map]; omega), ?_⟩
        refine ⟨rows ++ [r], cls ++ [d], ps.set (ps.length - 1) rows.length, rfl, ke_wr (k5.trans (k6.mono fun a y => y.elim .inl fun y => .inr (.inl y))) (.inr (.inr rfl)) hP6, ?_, ?_, by rw [List.length_set]; exact lps, fun i c p e1 e2 => ?_, by rw [List.length_append, List.length_singleton]; omega, ?_, by rw [List.length_append, List.length_singleton]; omega⟩
        · refine ⟨?_, ?_, ?_, x6.ld, x6.ib, x6.ne⟩
          · obtain ⟨a, us, e, h, l, r⟩ := x6.bk
            exact ⟨a, us, e, by rw [upd_ne (fun y => by rw [y, hP6] at h; cases h)]; exact h, l, fun i v' c' e1 e2 => TupI.wr (r i v' c' e1 e2) hP6⟩
          · obtain ⟨us, h, au⟩ := x6.rw
            exact ⟨us, by rw [upd_ne (Ne.symm nPR)]; exact h, au.imp fun _ _ r => RowAt.wr r hP6⟩
          · obtain ⟨us, h, au⟩ := x6.cl
            exact ⟨us, by rw [upd_ne (Ne.symm nPC)]; exact h, au.imp fun _ _ r => TupI.wr r hP6⟩
        · rw [upd_same, List.length_map, List.map_set]
        · by_cases l : i = ps.length - 1
          · subst l
            rw [List.getElem?_set_self (by omega)] at e2
            cases e2
            obtain ⟨d', hd', w'⟩ := cov _ c la e1 hla
            rw [hd] at hd'
            cases hd'
            refine ⟨d, ?_, w'⟩
            rw [ll5, List.getElem?_append_right (Nat.le_refl _), Nat.sub_self]
            rfl
          · rw [List.getElem?_set_ne (Ne.symm l)] at e2
            exact cov.more i c p e1 e2
        · rw [List.length_set, List.getElem?_set_self (by omega), List.length_append, List.length_singleton]
          rfl
      · have e : V.int (la : Nat) = V.int (((rvs.length : Nat) : Int) - 1) := Classical.byContradiction fun y => e (by
          show (!decide (V.int (la : Nat) = V.int (((rvs.length : Nat) : Int) - 1))) = true
          rw [decide_eq_false y]
          rfl)
        have e := V.int.inj e
        refine ⟨rows, cls, ps, rfl, k5, x5, hP5, lps, cov, by omega, ?_, by omega⟩
        rw [hla]
        congr 1
        omega
    clear cov bps lps hP5 x5 k5 lr hla hlaV bla ll5 lps0 la ps cls rows H5
    rintro σ' H5 ⟨rows, cls, ps, rfl, k5, x5, hP5, lps, cov, lr, hla, r1⟩
    have hB5 : Bk H5 (.ref ba) css := x5.bk
    obtain ⟨ba', bvs', eb, hB5, lB5, _⟩ := hB5
    cases eb
    refine ⟨_, rfl, _, rfl, _, rfl, ba, _, rfl, .inr (.of hB5), ((bvs'.length : Nat) : Int), rfl, P', _, rfl, .of hP5, fun N H6 nN s6 hN _ => ⟨by show 2 ≤ sizeLine; decide, fun p H7 np s7 hp _ => ?_⟩⟩
    rw [lB5, cut_from, ← List.map_drop] at hN
    have s67 := s6.trans s7
    have k47 : Ke Nof H1 H7 := Ke.two s14 (k5.trans (.same s67)) frs
    have k07 := k1.trans k47
    have x7 := x5.no (.same s67)
    have nNf : Frs H N := ((Frs.of nN).ke0 (H := H1) (Ke.two s14 k5 frs)).ke0 k1
    have nRN : R ≠ N := by
      obtain ⟨us, h, _⟩ := x5.rw
      exact ne_of_none h nN
    refine q1 H7 p R N rows cls (ps.drop css.length) k07 nw hp frR nNf nRN x7.rw (s7 _ _ hN) x7.ld lr (by rw [List.length_drop]; omega) (fun i c n e1 e2 => ?_) ?_ r1
    · rw [List.getElem?_drop] at e2
      exact cov (css.length + i) c n (by rw [List.getElem?_append_right (by omega), show css.length + i - css.length = i by omega]; exact e1) e2
    · rw [List.getElem?_drop, List.length_drop, show css.length + (ps.length - css.length - 1) = ps.length - 1 by omega]
      exact hla
end
end Mp
namespace Te
open PySem PySem.Spec PyProof.Rows L2 GxR Nw Dr Kp Se Cl En Fo Fd
abbrev sEcu : Stmt := topS 51
abbrev nEcu : List Str := ["one", "other", "say", "rest", "k"]
theorem scEcu : FnScope nEcu ["one", "other"] (defScope sEcu) := ⟨rfl, rfl, rfl, by decide +kernel, rfl, by decide +kernel, by decide +kernel⟩
abbrev sEtl : Stmt := topS 52
abbrev nEtl : List Str := ["pen", "book", "known", "found", "turn", "one", "some", "claim", "say", "other"]
theorem scEtl : FnScope nEtl ["pen", "book"] (defScope sEtl) := ⟨rfl, rfl, rfl, by decide +kernel, rfl, by decide +kernel, by decide +kernel⟩
abbrev sEtu : Stmt := topS 53
theorem scEtu : FnScope ["pen", "telling", "way", "at", "claim", "spot", "less"] ["pen", "telling"] (defScope sEtu) := ⟨rfl, rfl, rfl, by decide +kernel, rfl, by decide +kernel, by decide +kernel⟩
structure Zu (mg : Str → Option Value) : Prop where
  z_len : mg "len" = none
  z_list : mg "list" = none
  z_tuple : mg "tuple" = none
  z_range : mg "range" = none
  z_sorted : mg "sorted" = none
  z_any : mg "any" = none
/-! ### data of lists of claims -/
def cdat (c : List Int) : PyData := .tuple (c.map PyData.int)
theorem dp_cls {K : PySem.W.Frag} {H : Hp} : ∀ {vs : List V} {cls : List (List Int)}, vs.length = cls.length → (∀ (i : Nat) (x : V) (cs : List Int), vs[i]? = some x → cls[i]? = some cs → TupI H x cs) → DpAll K H vs (cls.map cdat)
  | [], [], _, _ => .nil
  | [], _ :: _, h, _ => by cases h
  | _ :: _, [], h, _ => by cases h
  | v :: t, c :: u, l, h => by
    obtain ⟨a, rfl, ha⟩ := h 0 v c rfl rfl
    exact .cons (.tup (.of ha) (dp_ints c)) (dp_cls (by simp only [List.length_cons] at l; omega) fun i x y h1 h2 => h (i + 1) x y h1 h2)
theorem lay_cls : ∀ cls : List (List Int), PyData.canLayAll0 (cls.map cdat) = true ∧ PyData.depthAll (cls.map cdat) ≤ 3
  | [] => ⟨rfl, by decide⟩
  | c :: t => by
    obtain ⟨h1, h2⟩ := lay_cls t
    refine ⟨?_, ?_⟩
    · show (PyData.canLayAll0 (c.map PyData.int) && PyData.canLayAll0 (t.map cdat)) = true
      rw [h1, flat_lay _ (flat_ints c)]
      rfl
    · show Nat.max (PyData.depthAll (c.map PyData.int) + 1) (PyData.depthAll (t.map cdat)) ≤ 3
      have := flat_depth _ (flat_ints c)
      exact Nat.max_le.mpr ⟨by omega, h2⟩
theorem shaped_cls (cls : List (List Int)) : SeqAt.shaped (.list (cls.map cdat)) = true := by
  obtain ⟨h1, h2⟩ := lay_cls cls
  show (PyData.canLayAll0 (cls.map cdat) && decide (PyData.depthAll (cls.map cdat) + 1 ≤ 64)) = true
  rw [h1, decide_eq_true (by omega)]
  rfl
theorem good_dp {K : PySem.W.Frag} {H : Hp} {a : Addr} {vs : List V} (h : H a = some (.lst vs)) (g : GoodL H vs) : ∃ css : List (List Int), css.length = vs.length ∧ Dp K H (.ref a) (.list (css.map cdat)) := by
  obtain ⟨css, l, t, _⟩ := good_css g
  exact ⟨css, l.symm, .lst (.of h) (dp_cls l t)⟩
theorem eqv_nil {css : List (List Int)} : PyData.eqv (.list (css.map cdat)) (.list []) = true ↔ css = [] := by
  cases css with
  | nil => exact ⟨fun _ => rfl, fun _ => rfl⟩
  | cons a r => exact ⟨fun h => absurd h (by simp [PyData.eqv, PyData.eqvAll]), fun h => nomatch h⟩
theorem cut_from (xs : List V) (n : Nat) : cutV xs (some (n : Int)) none = xs.drop n := by
  unfold cutV
  rw [HT.sIx_none, HT.sIx_nat]
  by_cases h : n ≤ xs.length
  · rw [Nat.min_eq_left h, List.take_of_length_le (by rw [List.length_drop]; exact Nat.le_refl _)]
  · rw [Nat.min_eq_right (by omega), Nat.sub_self, List.take_zero, List.drop_eq_nil_of_le (by omega)]
theorem sy_filter {cs : List Int} (f : Int → Bool) (h : Sy cs) : Sy (cs.filter f) := ⟨h.nd.filter _, fun s hs => h.bd s (List.mem_filter.mp hs).1⟩
theorem sy_cat {as bs : List Int} (ha : Sy as) (hb : Sy bs) (h : ∀ s ∈ as, s ∉ bs) : Sy (as ++ bs) := by
  refine ⟨List.nodup_append.mpr ⟨ha.nd, hb.nd, fun x hx y hy e => h x hx (e ▸ hy)⟩, fun s hs => ?_⟩
  rcases List.mem_append.mp hs with z | z
  · exact ha.bd s z
  · exact hb.bd s z
theorem sy_sub {as bs : List Int} (h : as.Sublist bs) (hb : Sy bs) : Sy as := ⟨h.nodup hb.nd, fun s hs => hb.bd s (h.subset hs)⟩
theorem _root_.Kp.Frs.nf {H : Hp} {f c p : Addr} {B : Nat} (h : Frs H p) (hF : Feed H f c B) : p ≠ f := by
  obtain ⟨ns, n, r, h1, _⟩ := hF
  exact Ne.symm (h f _ h1 fun ps z => by cases z)
theorem _root_.Kp.Frs.nc {H : Hp} {f c p : Addr} {B : Nat} (h : Frs H p) (hF : Feed H f c B) : p ≠ c := by
  obtain ⟨ns, n, r, h1, h2, _⟩ := hF
  exact Ne.symm (h c _ h2 fun ps z => by cases z)
section
variable {P : Program} {w : World} {K : PySem.W.Frag} {mg : Str → Option Value} {base : Heap} {fD fU fC : Addr} {fdD fdU fdC : FuncData}
/-- cut(one, other): a claim, or None -/
def spEcu : Sp := fun vs H Q _ => ∃ (v u : V) (cs ds : List Int), vs = [v, u] ∧ TupI H v cs ∧ TupI H u ds ∧ Sy cs ∧ Sy ds ∧ (∀ H' p ns, Same H H' → H' p = some (.tup (ns.map V.int)) → Sy ns → Q (.ref p) H') ∧ ∀ H', Same H H' → Q .non H'
theorem ok_ecu {f : Addr} {fd : FuncData} {k : Nat} (F : Fun K "_law_e_cut" "_law_e_cut" sEcu f fd) (T : Zu mg) : FnOk P w K mg base CX0 (k + 1) f fd ["one", "other"] spEcu := by
  refine F.ok scEcu (fun vs H Q E h => ?_) (fun cdv A outer s H vs Q E hr h => ?_)
  · obtain ⟨v, u, cs, ds, rfl, _⟩ := h
    rfl
  · obtain ⟨v, u, cs, ds, rfl, ⟨a, rfl, ha⟩, ⟨b, rfl, hb⟩, sc, sd, q1, q2⟩ := h
    have lc := sc.len
    have ld := sd.len
    refine ⟨_, (pss_cons (ps_for PassesOwn.never rfl (pi_tup (pv 0)) (pg_name (i := 2) scEcu.nd rfl (.inr rfl)) (pss_one (ps_if (pt_cmpR op_in_seq (pe_op op_sub pe_int (pv 2)) (pv 1) (by rfl)) (Evl.pss_cut (ps_set (i := 3) scEcu.nd rfl (.inr rfl) (pe_lc (own := [("k", 4)]) (g := (gName 4))  rfl scEcu.nd (pi_tup (pv 0)) (blkOk_by (N := nEcu) (sc := defScope sEcu) (by decide +kernel)) (fun _ _ _ _ _ => (pg_name (i := 4) scEcu.nd rfl (.inl rfl))) (fun _ _ _ _ _ => (pts_one (pt_cmpR op_ne (pv 4) (pv 2) (nomark _)))) (fun _ _ _ _ _ => (pv 4))))
      (Evl.pss_cut (ps_set (i := 3) scEcu.nd rfl (.inr rfl) (pe_op op_catN (pv 3) (pe_lc (own := [("k", 4)]) (g := (gName 4))  rfl scEcu.nd (pi_tup (pv 1)) (blkOk_by (N := nEcu) (sc := defScope sEcu) (by decide +kernel)) (fun _ _ _ _ _ => (pg_name (i := 4) scEcu.nd rfl (.inl rfl))) (fun _ _ _ _ _ => (pts_one (PW.pt (pw_and (pt_cmpR op_ne (pv 4) (pe_op op_sub pe_int (pv 2)) (nomark _)) (pw_and1 (pt_cmpR (op_notIn_seqB (K := K) rfl) (pv 4) (pv 3) (by rfl))))))) (fun _ _ _ _ _ => (pv 4)))))
      (pss_one (ps_if (pt_not (pt_val (pe_callB (cr_any rfl) (by rfl) T.z_any (by decide +kernel) (pa_cons (pe_lc (own := [("k", 4)]) (g := (gName 4)) (tt := tYes) rfl scEcu.nd (pi_list (pv 3)) (blkOk_by (N := nEcu) (sc := defScope sEcu) (by decide +kernel)) (fun _ _ _ _ _ => (pg_name (i := 4) scEcu.nd rfl (.inl rfl))) (fun _ _ _ _ _ => pts_nil) (fun _ _ _ _ _ => (pe_cmpR (op_in_seqB (K := K) rfl) (pe_op op_sub pe_int (pv 4)) (pv 3) (by rfl)))) pa_nil)))) (pss_one (ps_ret (pe_callTy call_tuple_ofN (by rfl) T.z_tuple (by decide +kernel) (pa_cons (pe_callB cr_sortedN (by rfl) T.z_sorted (by decide +kernel) (pa_cons (pv 3) pa_nil)) pa_nil)))) pss_nil)))) pss_nil)))
      (pss_one (ps_ret pe_non))), ?_⟩
    refine ⟨_, rfl, a, rfl, ⟨_, .of ha⟩, for_tup (K := K) (a := a) (xs := cs.map V.int) (Pv := fun i σ H' => ∃ y2 y3 : Option V, σ = [some (.ref a), some (.ref b), y2, y3, none] ∧ Same H H') ?_ (fun i σ H' _ p => ?_) ?_ ?_⟩
    · exact ⟨none, none, rfl, .refl _⟩
    · obtain ⟨_, _, _, s1⟩ := p
      exact .of (s1 _ _ ha)
    · rintro i x σ H1 hx ⟨y2, y3, rfl, s1⟩
      obtain ⟨z, hz, rfl⟩ := at_int hx
      refine ⟨_, rfl, _, _, rfl, rfl, _, rfl, b, _, rfl, .inr (.of (s1 _ _ hb)), rfl, ints_flat ds, _, rfl, ite2 (fun e => ?_) (fun e => ?_)⟩
      rotate_left
      · exact ⟨_, _, rfl, s1⟩
      -- rest
      refine Evl.q_cut (M := fun σ' H' => ∃ D, σ' = [some (.ref a), some (.ref b), some (.int z), some (.ref D), none] ∧ Same H H' ∧ H' D = some (.lst ((cs.filter fun s => !decide (V.int s = V.int z)).map V.int))) ?_ ?_
      · refine ⟨_, rfl, a, rfl, ⟨_, .of (s1 _ _ ha)⟩, fun D nD => ?_⟩
        refine lc_tup (xs := cs.map V.int) (Pv := fun i H' => Same H1 H' ∧ H' D = some (.lst (((cs.take i).filter fun s => !decide (V.int s = V.int z)).map V.int))) ⟨same_new nD, upd_same⟩ (fun i H' _ p => .of (p.1 _ _ (s1 _ _ ha))) ?_ ?_
        · rintro j x H' hx ⟨s2, hD⟩
          obtain ⟨y, hy, rfl⟩ := at_int hx
          have ft := Sl.filter_take (f := fun s => !decide (V.int s = V.int z)) hy
          refine ⟨rfl, _, rfl, _, rfl, rfl, _, rfl, ite2 (fun y1 => ?_) (fun y1 => ?_)⟩
          · have y1 : (!decide (V.int y = V.int z)) = true := y1
            refine ⟨_, rfl, _, hD, ?_, fun c o y => ?_, ?_⟩
            · rw [List.length_map]
              exact small1000 (Nat.le_trans (List.length_filter_le _ _) (by rw [List.length_take]; omega))
            · rw [upd_ne (ne_of_none y nD)]
              exact s2 _ _ y
            · rw [upd_same, ft, if_pos y1, List.map_append]
              rfl
          · have y1 : ¬ (!decide (V.int y = V.int z)) = true := y1
            refine ⟨s2, ?_⟩
            rw [ft, if_neg y1, List.append_nil]
            exact hD
        · rintro H' ⟨s2, hD⟩
          rw [List.length_map, List.take_length] at hD
          exact ⟨D, rfl, s1.trans s2, hD⟩
      clear s1 H1
      rintro σ' H1 ⟨R, rfl, s1, hR⟩
      have sr1 := sy_filter (fun s => !decide (V.int s = V.int z)) sc
      have lr1 := sr1.len
      generalize cs.filter (fun s => !decide (V.int s = V.int z)) = r1 at hR sr1 lr1
      -- rest + ..
      refine Evl.q_cut (M := fun σ' H' => ∃ (D : Addr) (r : List Int), σ' = [some (.ref a), some (.ref b), some (.int z), some (.ref D), none] ∧ Same H H' ∧ H' D = some (.lst (r.map V.int)) ∧ Sy r) ?_ ?_
      · refine ⟨_, rfl, _, rfl, b, rfl, ⟨_, .of (s1 _ _ hb)⟩, fun D nD => ?_⟩
        refine lc_tup (xs := ds.map V.int) (Pv := fun i H' => Same H1 H' ∧ H' D = some (.lst (((ds.take i).filter fun s => !decide (V.int s = V.int (0 - z)) && !inV (.int s) (r1.map V.int)).map V.int))) ⟨same_new nD, upd_same⟩ (fun i H' _ p => .of (p.1 _ _ (s1 _ _ hb))) ?_ ?_
        · rintro j x H' hx ⟨s2, hD⟩
          obtain ⟨y, hy, rfl⟩ := at_int hx
          have ft := Sl.filter_take (f := fun s => !decide (V.int s = V.int (0 - z)) && !inV (.int s) (r1.map V.int)) hy
          refine ⟨rfl, _, rfl, _, rfl, _, _, rfl, rfl, rfl, _, rfl, ite2 (fun y1 => ?_) (fun y1 => ?_)⟩
          · have y1 : (!decide (V.int y = V.int (0 - z))) = true := y1
            refine ⟨_, rfl, _, rfl, R, _, rfl, .inl (.of (s2 _ _ hR)), rfl, ints_flat r1, _, rfl, ite2 (fun y2 => ?_) (fun y2 => ?_)⟩
            · have y2 : (!inV (.int y) (r1.map V.int)) = true := y2
              refine ⟨_, rfl, _, hD, ?_, fun c o y => ?_, ?_⟩
              · rw [List.length_map]
                exact small1000 (Nat.le_trans (List.length_filter_le _ _) (by rw [List.length_take]; omega))
              · rw [upd_ne (ne_of_none y nD)]
                exact s2 _ _ y
              · rw [upd_same, ft, if_pos (by rw [y1, y2]; rfl), List.map_append]
                rfl
            · have y2 : ¬ (!inV (.int y) (r1.map V.int)) = true := y2
              refine ⟨s2, ?_⟩
              rw [ft, if_neg (by rw [Bool.eq_false_iff.mpr y2, Bool.and_false]; decide), List.append_nil]
              exact hD
          · have y1 : ¬ (!decide (V.int y = V.int (0 - z))) = true := y1
            refine iteF ⟨s2, ?_⟩
            rw [ft, if_neg (by rw [Bool.eq_false_iff.mpr y1, Bool.false_and]; decide), List.append_nil]
            exact hD
        · rintro H2 ⟨s2, hD⟩
          rw [List.length_map, List.take_length] at hD
          have sr2 := sy_filter (fun s => !decide (V.int s = V.int (0 - z)) && !inV (.int s) (r1.map V.int)) sd
          have lr2 := sr2.len
          have dj : ∀ s ∈ r1, s ∉ ds.filter (fun s => !decide (V.int s = V.int (0 - z)) && !inV (.int s) (r1.map V.int)) := fun s hs hm => by
            have := (List.mem_filter.mp hm).2
            rw [(in_ints _ _).mpr hs, Bool.not_true, Bool.and_false] at this
            cases this
          refine ⟨R, D, _, _, rfl, rfl, s2 _ _ hR, hD, small1000' (by rw [List.length_map, List.length_map]; omega), fun p H3 np s3 hp _ => ?_⟩
          exact ⟨p, _, rfl, s1.trans (s2.trans s3), by rw [List.map_append]; exact hp, sy_cat sr1 sr2 dj⟩
      clear hR sr1 lr1 r1 s1 H1 R
      rintro σ' H1 ⟨R, r, rfl, s1, hR, sr⟩
      have lr := sr.len
      -- if not any(..)
      refine ⟨_, rfl, R, rfl, ⟨_, .of hR⟩, fun D nD => ?_⟩
      refine lc_list (xs := r.map V.int) (Pv := fun i H' => Same H1 H' ∧ ∃ bs : List Bool, H' D = some (.lst (bs.map V.bl)) ∧ bs.length = i) ⟨same_new nD, [], upd_same, rfl⟩ (fun i H' _ p => .of (p.1 _ _ hR)) ?_ ?_
      · rintro j x H2 hx ⟨s2, bs, hD, lb⟩
        obtain ⟨y, hy, rfl⟩ := at_int hx
        have lj := (List.getElem?_eq_some_iff.mp hy).1
        refine ⟨rfl, _, rfl, _, _, rfl, rfl, _, rfl, R, _, rfl, .inl (.of (s2 _ _ hR)), rfl, ints_flat r, _, hD, by rw [List.length_map]; exact small1000 (by omega), fun c o y => ?_, bs ++ [inV (.int (0 - y)) (r.map V.int)], ?_, by rw [List.length_append, lb]; rfl⟩
        · rw [upd_ne (ne_of_none y nD)]
          exact s2 _ _ y
        · rw [upd_same, List.map_append]
          rfl
      · rintro H2 ⟨s2, bs, hD, lb⟩
        refine ⟨D, bs, rfl, .of hD, _, rfl, ite2 (fun e => ?_) (fun e => ?_)⟩
        · refine ⟨_, rfl, R, r, rfl, .of (s2 _ _ hR), fun ns pn so p H3 np s3 hp _ => ⟨p, _, rfl, .of hp, fun p2 H4 np2 s4 hp2 _ => ?_⟩⟩
          exact q1 H4 p2 ns (s1.trans (s2.trans (s3.trans s4))) hp2 (sy_perm pn sr)
        · exact ⟨_, _, rfl, s1.trans s2⟩
    · rintro σ H1 ⟨y2, y3, rfl, s1⟩
      exact q2 H1 s1
end
end Te
namespace Tk
open PySem PySem.Spec PyProof.Rows L2 GxR Nw Dr Kp Se Cl En Fo Fd Te
open Lr (cl_mk)
/-! ### as tk, tk2, tk3, but each claim is one (k53) -/
/-- each of the values is a claim -/
def GoodC (H : Hp) (vs : List V) : Prop := ∀ v ∈ vs, ∃ cs, TupI H v cs ∧ IsCl cs
theorem GoodC.tups {H H' : Hp} {vs : List V} (h : GoodC H vs) (k : ∀ b xs, H b = some (.tup xs) → H' b = some (.tup xs)) : GoodC H' vs := fun v hv => by
  obtain ⟨cs, ⟨a, e, ha⟩, sy⟩ := h v hv
  exact ⟨cs, ⟨a, e, k _ _ ha⟩, sy⟩
theorem GoodC.g {H : Hp} {vs : List V} (h : GoodC H vs) : GoodL H vs := fun v hv => by
  obtain ⟨cs, t, c⟩ := h v hv
  exact ⟨cs, t, Sy.of c⟩
theorem goodc_css {H : Hp} : ∀ {vs : List V}, GoodC H vs → ∃ css : List (List Int), vs.length = css.length ∧ (∀ (i : Nat) (x : V) (cs : List Int), vs[i]? = some x → css[i]? = some cs → TupI H x cs) ∧ ∀ cs ∈ css, IsCl cs
  | [], _ => ⟨[], rfl, (fun i x cs h => by simp at h), (fun cs h => nomatch h)⟩
  | v :: r, h => by
    obtain ⟨css, l, t, s⟩ := goodc_css (vs := r) fun u hu => h u (List.mem_cons_of_mem _ hu)
    obtain ⟨cs, tv, sv⟩ := h v List.mem_cons_self
    refine ⟨cs :: css, by rw [List.length_cons, List.length_cons, l], fun i x ds h1 h2 => ?_, fun ds hd => ?_⟩
    · cases i with
      | zero =>
        cases h1
        cases h2
        exact tv
      | succ i => exact t i x ds h1 h2
    · rcases List.mem_cons.mp hd with e | e
      · rw [e]
        exact sv
      · exact s ds e
theorem lt_sort {ns : List Int} (h : ns.Pairwise (· ≤ ·)) (n : ns.Nodup) : ns.Pairwise (· < ·) := (h.and n).imp fun {a b} h => by have := h.1; have := h.2; omega
theorem cl_sort {ns ms : List Int} (pn : ns.Perm ms) (so : ns.Pairwise (· ≤ ·)) (nd : ms.Nodup) (says : ∀ k ∈ ms, k ≠ 0 ∧ -8 ≤ k ∧ k ≤ 8) (opp : ∀ k ∈ ms, -k ∉ ms) : IsCl ns :=
  cl_mk (lt_sort so (pn.nodup_iff.mpr nd)) (fun k hk => says k (pn.mem_iff.mp hk)) fun k hk z => opp k (pn.mem_iff.mp hk) (pn.mem_iff.mp z)
theorem cl_add {c ns : List Int} {z : Int} (h : IsCl c) (n1 : z ∉ c) (n2 : -z ∉ c) (z0 : z ≠ 0) (z1 : -8 ≤ z) (z2 : z ≤ 8) (pn : ns.Perm (c ++ [z])) (so : ns.Pairwise (· ≤ ·)) : IsCl ns := by
  refine cl_sort pn so (List.nodup_append.mpr ⟨(Sy.of h).nd, by simp, fun a ha b hb e => n1 (by rw [← List.mem_singleton.mp hb, ← e]; exact ha)⟩) (fun k hk => ?_) fun k hk y => ?_
  · rcases List.mem_append.mp hk with m | m
    · exact h.says k m
    · rw [List.mem_singleton.mp m]
      exact ⟨z0, z1, z2⟩
  · rcases List.mem_append.mp hk with m | m
    · rcases List.mem_append.mp y with w | w
      · exact h.opp k m w
      · have e := List.mem_singleton.mp w
        exact n2 (by rw [← e, Int.neg_neg]; exact m)
    · have e := List.mem_singleton.mp m
      subst e
      rcases List.mem_append.mp y with w | w
      · exact n2 w
      · have := List.mem_singleton.mp w
        omega
theorem cl_sub {as bs : List Int} (h : as.Sublist bs) (hb : IsCl bs) : IsCl as := cl_mk (hb.up.sublist h) (fun k hk => hb.says k (h.subset hk)) fun k hk z => hb.opp k (h.subset hk) (h.subset z)
section
variable {P : Program} {w : World} {K : PySem.W.Frag} {mg : Str → Option Value} {base : Heap} {fD fU fC : Addr} {fdD fdU fdC : FuncData}
/-- cut(one, other): a claim, or None -/
def spEcu : Sp := fun vs H Q _ => ∃ (v u : V) (cs ds : List Int), vs = [v, u] ∧ TupI H v cs ∧ TupI H u ds ∧ IsCl cs ∧ IsCl ds ∧ (∀ H' p ns, Same H H' → H' p = some (.tup (ns.map V.int)) → IsCl ns → Q (.ref p) H') ∧ ∀ H', Same H H' → Q .non H'
theorem ok_ecu {f : Addr} {fd : FuncData} {k : Nat} (F : Fun K "_law_e_cut" "_law_e_cut" sEcu f fd) (T : Zu mg) : FnOk P w K mg base CX0 (k + 1) f fd ["one", "other"] spEcu := by
  refine F.ok scEcu (fun vs H Q E h => ?_) (fun cdv A outer s H vs Q E hr h => ?_)
  · obtain ⟨v, u, cs, ds, rfl, _⟩ := h
    rfl
  · obtain ⟨v, u, cs, ds, rfl, ⟨a, rfl, ha⟩, ⟨b, rfl, hb⟩, icc, icd, q1, q2⟩ := h
    have sc := Sy.of icc
    have sd := Sy.of icd
    have lc := sc.len
    have ld := sd.len
    refine ⟨_, (pss_cons (ps_for PassesOwn.never rfl (pi_tup (pv 0)) (pg_name (i := 2) scEcu.nd rfl (.inr rfl)) (pss_one (ps_if (pt_cmpR op_in_seq (pe_op op_sub pe_int (pv 2)) (pv 1) (by rfl)) (Evl.pss_cut (ps_set (i := 3) scEcu.nd rfl (.inr rfl) (pe_lc (own := [("k", 4)]) (g := (gName 4))  rfl scEcu.nd (pi_tup (pv 0)) (blkOk_by (N := nEcu) (sc := defScope sEcu) (by decide +kernel)) (fun _ _ _ _ _ => (pg_name (i := 4) scEcu.nd rfl (.inl rfl))) (fun _ _ _ _ _ => (pts_one (pt_cmpR op_ne (pv 4) (pv 2) (nomark _)))) (fun _ _ _ _ _ => (pv 4))))
      (Evl.pss_cut (ps_set (i := 3) scEcu.nd rfl (.inr rfl) (pe_op op_catN (pv 3) (pe_lc (own := [("k", 4)]) (g := (gName 4))  rfl scEcu.nd (pi_tup (pv 1)) (blkOk_by (N := nEcu) (sc := defScope sEcu) (by decide +kernel)) (fun _ _ _ _ _ => (pg_name (i := 4) scEcu.nd rfl (.inl rfl))) (fun _ _ _ _ _ => (pts_one (PW.pt (pw_and (pt_cmpR op_ne (pv 4) (pe_op op_sub pe_int (pv 2)) (nomark _)) (pw_and1 (pt_cmpR (op_notIn_seqB (K := K) rfl) (pv 4) (pv 3) (by rfl))))))) (fun _ _ _ _ _ => (pv 4)))))
      (pss_one (ps_if (pt_not (pt_val (pe_callB (cr_any rfl) (by rfl) T.z_any (by decide +kernel) (pa_cons (pe_lc (own := [("k", 4)]) (g := (gName 4)) (tt := tYes) rfl scEcu.nd (pi_list (pv 3)) (blkOk_by (N := nEcu) (sc := defScope sEcu) (by decide +kernel)) (fun _ _ _ _ _ => (pg_name (i := 4) scEcu.nd rfl (.inl rfl))) (fun _ _ _ _ _ => pts_nil) (fun _ _ _ _ _ => (pe_cmpR (op_in_seqB (K := K) rfl) (pe_op op_sub pe_int (pv 4)) (pv 3) (by rfl)))) pa_nil)))) (pss_one (ps_ret (pe_callTy call_tuple_ofN (by rfl) T.z_tuple (by decide +kernel) (pa_cons (pe_callB cr_sortedN (by rfl) T.z_sorted (by decide +kernel) (pa_cons (pv 3) pa_nil)) pa_nil)))) pss_nil)))) pss_nil)))
      (pss_one (ps_ret pe_non))), ?_⟩
    refine ⟨_, rfl, a, rfl, ⟨_, .of ha⟩, for_tup (K := K) (a := a) (xs := cs.map V.int) (Pv := fun i σ H' => ∃ y2 y3 : Option V, σ = [some (.ref a), some (.ref b), y2, y3, none] ∧ Same H H') ?_ (fun i σ H' _ p => ?_) ?_ ?_⟩
    · exact ⟨none, none, rfl, .refl _⟩
    · obtain ⟨_, _, _, s1⟩ := p
      exact .of (s1 _ _ ha)
    · rintro i x σ H1 hx ⟨y2, y3, rfl, s1⟩
      obtain ⟨z, hz, rfl⟩ := at_int hx
      refine ⟨_, rfl, _, _, rfl, rfl, _, rfl, b, _, rfl, .inr (.of (s1 _ _ hb)), rfl, ints_flat ds, _, rfl, ite2 (fun e => ?_) (fun e => ?_)⟩
      rotate_left
      · exact ⟨_, _, rfl, s1⟩
      -- rest
      refine Evl.q_cut (M := fun σ' H' => ∃ D, σ' = [some (.ref a), some (.ref b), some (.int z), some (.ref D), none] ∧ Same H H' ∧ H' D = some (.lst ((cs.filter fun s => !decide (V.int s = V.int z)).map V.int))) ?_ ?_
      · refine ⟨_, rfl, a, rfl, ⟨_, .of (s1 _ _ ha)⟩, fun D nD => ?_⟩
        refine lc_tup (xs := cs.map V.int) (Pv := fun i H' => Same H1 H' ∧ H' D = some (.lst (((cs.take i).filter fun s => !decide (V.int s = V.int z)).map V.int))) ⟨same_new nD, upd_same⟩ (fun i H' _ p => .of (p.1 _ _ (s1 _ _ ha))) ?_ ?_
        · rintro j x H' hx ⟨s2, hD⟩
          obtain ⟨y, hy, rfl⟩ := at_int hx
          have ft := Sl.filter_take (f := fun s => !decide (V.int s = V.int z)) hy
          refine ⟨rfl, _, rfl, _, rfl, rfl, _, rfl, ite2 (fun y1 => ?_) (fun y1 => ?_)⟩
          · have y1 : (!decide (V.int y = V.int z)) = true := y1
            refine ⟨_, rfl, _, hD, ?_, fun c o y => ?_, ?_⟩
            · rw [List.length_map]
              exact small1000 (Nat.le_trans (List.length_filter_le _ _) (by rw [List.length_take]; omega))
            · rw [upd_ne (ne_of_none y nD)]
              exact s2 _ _ y
            · rw [upd_same, ft, if_pos y1, List.map_append]
              rfl
          · have y1 : ¬ (!decide (V.int y = V.int z)) = true := y1
            refine ⟨s2, ?_⟩
            rw [ft, if_neg y1, List.append_nil]
            exact hD
        · rintro H' ⟨s2, hD⟩
          rw [List.length_map, List.take_length] at hD
          exact ⟨D, rfl, s1.trans s2, hD⟩
      clear s1 H1
      rintro σ' H1 ⟨R, rfl, s1, hR⟩
      have sr1 := sy_filter (fun s => !decide (V.int s = V.int z)) sc
      have lr1 := sr1.len
      have nz1 : ∀ k ∈ cs.filter (fun s => !decide (V.int s = V.int z)), k ≠ 0 := fun k hk => (icc.says k (List.mem_filter.mp hk).1).1
      generalize cs.filter (fun s => !decide (V.int s = V.int z)) = r1 at hR sr1 lr1 nz1
      -- rest + ..
      refine Evl.q_cut (M := fun σ' H' => ∃ (D : Addr) (r : List Int), σ' = [some (.ref a), some (.ref b), some (.int z), some (.ref D), none] ∧ Same H H' ∧ H' D = some (.lst (r.map V.int)) ∧ Sy r ∧ ∀ k ∈ r, k ≠ 0) ?_ ?_
      · refine ⟨_, rfl, _, rfl, b, rfl, ⟨_, .of (s1 _ _ hb)⟩, fun D nD => ?_⟩
        refine lc_tup (xs := ds.map V.int) (Pv := fun i H' => Same H1 H' ∧ H' D = some (.lst (((ds.take i).filter fun s => !decide (V.int s = V.int (0 - z)) && !inV (.int s) (r1.map V.int)).map V.int))) ⟨same_new nD, upd_same⟩ (fun i H' _ p => .of (p.1 _ _ (s1 _ _ hb))) ?_ ?_
        · rintro j x H' hx ⟨s2, hD⟩
          obtain ⟨y, hy, rfl⟩ := at_int hx
          have ft := Sl.filter_take (f := fun s => !decide (V.int s = V.int (0 - z)) && !inV (.int s) (r1.map V.int)) hy
          refine ⟨rfl, _, rfl, _, rfl, _, _, rfl, rfl, rfl, _, rfl, ite2 (fun y1 => ?_) (fun y1 => ?_)⟩
          · have y1 : (!decide (V.int y = V.int (0 - z))) = true := y1
            refine ⟨_, rfl, _, rfl, R, _, rfl, .inl (.of (s2 _ _ hR)), rfl, ints_flat r1, _, rfl, ite2 (fun y2 => ?_) (fun y2 => ?_)⟩
            · have y2 : (!inV (.int y) (r1.map V.int)) = true := y2
              refine ⟨_, rfl, _, hD, ?_, fun c o y => ?_, ?_⟩
              · rw [List.length_map]
                exact small1000 (Nat.le_trans (List.length_filter_le _ _) (by rw [List.length_take]; omega))
              · rw [upd_ne (ne_of_none y nD)]
                exact s2 _ _ y
              · rw [upd_same, ft, if_pos (by rw [y1, y2]; rfl), List.map_append]
                rfl
            · have y2 : ¬ (!inV (.int y) (r1.map V.int)) = true := y2
              refine ⟨s2, ?_⟩
              rw [ft, if_neg (by rw [Bool.eq_false_iff.mpr y2, Bool.and_false]; decide), List.append_nil]
              exact hD
          · have y1 : ¬ (!decide (V.int y = V.int (0 - z))) = true := y1
            refine iteF ⟨s2, ?_⟩
            rw [ft, if_neg (by rw [Bool.eq_false_iff.mpr y1, Bool.false_and]; decide), List.append_nil]
            exact hD
        · rintro H2 ⟨s2, hD⟩
          rw [List.length_map, List.take_length] at hD
          have sr2 := sy_filter (fun s => !decide (V.int s = V.int (0 - z)) && !inV (.int s) (r1.map V.int)) sd
          have lr2 := sr2.len
          have dj : ∀ s ∈ r1, s ∉ ds.filter (fun s => !decide (V.int s = V.int (0 - z)) && !inV (.int s) (r1.map V.int)) := fun s hs hm => by
            have := (List.mem_filter.mp hm).2
            rw [(in_ints _ _).mpr hs, Bool.not_true, Bool.and_false] at this
            cases this
          refine ⟨R, D, _, _, rfl, rfl, s2 _ _ hR, hD, small1000' (by rw [List.length_map, List.length_map]; omega), fun p H3 np s3 hp _ => ?_⟩
          exact ⟨p, _, rfl, s1.trans (s2.trans s3), by rw [List.map_append]; exact hp, sy_cat sr1 sr2 dj, fun k hk => (List.mem_append.mp hk).elim (nz1 k) fun hk => (icd.says k (List.mem_filter.mp hk).1).1⟩
      clear hR sr1 lr1 nz1 r1 s1 H1 R
      rintro σ' H1 ⟨R, r, rfl, s1, hR, sr, nz⟩
      have lr := sr.len
      -- if not any(..)
      refine ⟨_, rfl, R, rfl, ⟨_, .of hR⟩, fun D nD => ?_⟩
      refine lc_list (xs := r.map V.int) (Pv := fun i H' => Same H1 H' ∧ H' D = some (.lst (((r.take i).map fun s => inV (.int (0 - s)) (r.map V.int)).map V.bl))) ⟨same_new nD, upd_same⟩ (fun i H' _ p => .of (p.1 _ _ hR)) ?_ ?_
      · rintro j x H2 hx ⟨s2, hD⟩
        obtain ⟨y, hy, rfl⟩ := at_int hx
        have lj := (List.getElem?_eq_some_iff.mp hy).1
        refine ⟨rfl, _, rfl, _, _, rfl, rfl, _, rfl, R, _, rfl, .inl (.of (s2 _ _ hR)), rfl, ints_flat r, _, hD, by rw [List.length_map, List.length_map, List.length_take]; exact small1000 (by omega), fun c o y => ?_, ?_⟩
        · rw [upd_ne (ne_of_none y nD)]
          exact s2 _ _ y
        · rw [upd_same, List.take_add_one, hy, List.map_append, List.map_append]
          rfl
      · rintro H2 ⟨s2, hD⟩
        rw [List.length_map, List.take_length] at hD
        refine ⟨D, _, rfl, .of hD, _, rfl, ite2 (fun e => ?_) (fun e => ?_)⟩
        · refine ⟨_, rfl, R, r, rfl, .of (s2 _ _ hR), fun ns pn so p H3 np s3 hp _ => ⟨p, _, rfl, .of hp, fun p2 H4 np2 s4 hp2 _ => ?_⟩⟩
          refine q1 H4 p2 ns (s1.trans (s2.trans (s3.trans s4))) hp2 (cl_sort pn so sr.nd (fun k hk => ⟨nz k hk, sr.bd k hk⟩) fun k hk z => ?_)
          have e : (!(r.map fun s => inV (.int (0 - s)) (r.map V.int)).any id) = true := e
          rw [Bool.not_eq_true', Bool.eq_false_iff] at e
          refine e (List.any_eq_true.mpr ⟨true, List.mem_map.mpr ⟨k, hk, ?_⟩, rfl⟩)
          rw [in_ints, show 0 - k = -k by omega]
          exact z
        · exact ⟨_, _, rfl, s1.trans s2⟩
    · rintro σ H1 ⟨y2, y3, rfl, s1⟩
      exact q2 H1 s1
end
end Tk
namespace Tk
open PySem PySem.Spec PyProof.Rows L2 GxR Nw Dr Kp Se Cl En Fo Fd Te
section
variable {P : Program} {w : World} {K : PySem.W.Frag} {mg : Str → Option Value} {base : Heap} {fD fU fC : Addr} {fdD fdU fdC : FuncData}
theorem good_snoc {H : Hp} {L : Addr} {vs : List V} {v : V} {cs : List Int} (hL : H L = some (.lst vs)) (g : GoodC H vs) (tv : TupI H v cs) (sc : IsCl cs) : GoodC (upd H L (.lst (vs ++ [v]))) (vs ++ [v]) := fun u hu => by
  rcases List.mem_append.mp hu with z | z
  · exact (g.tups (upd_tup hL)) u z
  · rw [List.mem_singleton.mp z]
    obtain ⟨a, e, ha⟩ := tv
    exact ⟨cs, ⟨a, e, upd_tup hL _ _ ha⟩, sc⟩
theorem at_last {vs : List V} (h : vs ≠ []) : ∃ v ∈ vs, atI vs (-1) = some v := by
  obtain ⟨v, e⟩ : ∃ v, vs = vs.dropLast ++ [v] := ⟨vs.getLast h, (List.dropLast_concat_getLast h).symm⟩
  refine ⟨v, by rw [e]; exact List.mem_append_right _ (List.mem_singleton.mpr rfl), ?_⟩
  rw [e]
  exact atI_last _ _
/-- telling(pen, book): a list of claims -/
def spEtl : Sp := fun vs H Q _ => ∃ (f c b : Addr) (B : Nat) (bvs : List V), vs = [.ref f, .ref b] ∧ Feed H f c B ∧ B ≤ 2 ^ 25 ∧ H b = some (.tup bvs) ∧ GoodC H bvs ∧ bvs ≠ [] ∧ bvs.length ≤ 40 ∧
  ∀ (p : Addr) (tvs : List V) (H' : Hp), Feed H' f c (B + 200) → Ke (· = f) H H' → Frs H p → H' p = some (.lst tvs) → GoodC H' tvs → tvs ≠ [] → tvs.length ≤ 12 → Q (.ref p) H'
theorem ok_etl {f : Addr} {fd : FuncData} {k : Nat} (F : Fun K "_law_e_telling" "_law_e_telling" sEtl f fd) (T : Zu mg) (FD : Fun K "_law_e_take" "_law_e_take" sDrw fD fdD) (bD : Binds K fdD ["pen", "many"] []) (gD : mg "_law_e_take" = some (.ref fD)) (GD : FnOk P w K mg base CX0 2 fD fdD ["pen", "many"] spDrw)
    (FU : Fun K "_law_e_cut" "_law_e_cut" sEcu fU fdU) (bU : Binds K fdU ["one", "other"] []) (gU : mg "_law_e_cut" = some (.ref fU)) (GU : FnOk P w K mg base CX0 1 fU fdU ["one", "other"] spEcu) :
    FnOk P w K mg base CX0 (k + 3) f fd ["pen", "book"] spEtl := by
  refine F.ok scEtl (fun vs H Q E h => ?_) (fun cdv A outer s H vs Q E hr h => ?_)
  · obtain ⟨f, c, b, B, bvs, rfl, _⟩ := h
    rfl
  · obtain ⟨f, c, b, B, bvs, rfl, hF, hB, hb, gb, nb, lb, q⟩ := h
    have hr2 : Room 2 _ := hr.mono (by omega)
    have hr1 : Room 1 _ := hr.mono (by omega)
    refine ⟨_, (Evl.pss_cut (ps_set (i := 2) scEtl.nd rfl (.inl rfl) (pe_callTy call_list_ofN (by rfl) T.z_list (by decide +kernel) (pa_cons (pv 1) pa_nil)))
      (Evl.pss_cut (ps_set (i := 3) scEtl.nd rfl (.inl rfl) (pe_lstN pa_nil))
      (Evl.pss_cut (ps_for PassesOwn.never rfl (pi_range1 (by rfl) T.z_range (pa_cons (pe_op op_add pe_int (pe_call GD hr2 (by rfl) gD FD.kp bD .nil pass0 (pa_cons (pv 0) (pa_cons pe_int pa_nil)))) pa_nil)) (pg_name (i := 4) scEtl.nd rfl (.inl rfl)) (Evl.pss_cut (ps_set (i := 5) scEtl.nd rfl (.inr rfl) (pe_ix ix_list (pv 2) (pe_call GD hr2 (by rfl) gD FD.kp bD .nil pass0 (pa_cons (pv 0) (pa_cons (pe_callB call_len_seq (by rfl) T.z_len (by decide +kernel) (pa_cons (pv 2) pa_nil)) pa_nil))) (fun _ _ => rfl)))
      (Evl.pss_cut (ps_setLc (i := 6) (own := [("other", 9)]) (g := (gName 9)) (tt := tYes) rfl scEtl.nd rfl rfl (sw_true rfl rfl rfl (by decide +kernel)) (pi_list (pv 2)) (blkOk_by (N := nEtl) (sc := defScope sEtl) (by decide +kernel)) (fun _ _ _ _ _ => (pg_name (i := 9) scEtl.nd rfl (.inl rfl))) (fun _ _ _ _ _ => pts_nil) (fun _ _ _ _ _ => (pe_call GU hr1 (by rfl) gU FU.kp bU .nil pass0 (pa_cons (pv 5) (pa_cons (pv 9) pa_nil)))))
      (Evl.pss_cut (ps_setLc (i := 6) (own := [("claim", 7)]) (g := (gName 7))  rfl scEtl.nd rfl rfl (sw_true rfl rfl rfl (by decide +kernel)) (pi_list (pv 6)) (blkOk_by (N := nEtl) (sc := defScope sEtl) (by decide +kernel)) (fun _ _ _ _ _ => (pg_name (i := 7) scEtl.nd rfl (.inl rfl))) (fun _ _ _ _ _ => (pts_one (pt_cmpR op_notN (pv 7) pe_non (nomark _)))) (fun _ _ _ _ _ => (pv 7)))
      (Evl.pss_cut (ps_set (i := 7) scEtl.nd rfl (.inl rfl) (pv 5))
      (Evl.pss_cut (ps_if (pt_cmpR (op_neD hr.units) (pv 6) (pe_lstN pa_nil) (nomark _)) (pss_one (ps_set (i := 7) scEtl.nd rfl (.inl rfl) (pe_ix ix_list (pv 6) (pe_call GD hr2 (by rfl) gD FD.kp bD .nil pass0 (pa_cons (pv 0) (pa_cons (pe_callB call_len_seq (by rfl) T.z_len (by decide +kernel) (pa_cons (pv 6) pa_nil)) pa_nil))) (fun _ _ => rfl)))) pss_nil)
      (Evl.pss_cut (ps_set (i := 8) scEtl.nd rfl (.inl rfl) (pe_op op_mul (pe_ix ix_list (pe_lstN (pa_cons pe_int (pa_cons (pe_un un_neg pe_int) pa_nil))) (pe_call GD hr2 (by rfl) gD FD.kp bD .nil pass0 (pa_cons (pv 0) (pa_cons pe_int pa_nil))) (fun _ _ => rfl)) (pe_op op_add pe_int (pe_call GD hr2 (by rfl) gD FD.kp bD .nil pass0 (pa_cons (pv 0) (pa_cons pe_int pa_nil))))))
      (Evl.pss_cut (ps_if (PW.pt (pw_and (pt_cmpR op_eq (pe_call GD hr2 (by rfl) gD FD.kp bD .nil pass0 (pa_cons (pv 0) (pa_cons pe_int pa_nil))) pe_int (nomark _)) (pw_and (pt_cmpR op_notIn_seq (pv 8) (pv 7) (by rfl)) (pw_and1 (pt_cmpR op_notIn_seq (pe_op op_sub pe_int (pv 8)) (pv 7) (by rfl)))))) (pss_one (ps_set (i := 7) scEtl.nd rfl (.inl rfl) (pe_callTy call_tuple_ofN (by rfl) T.z_tuple (by decide +kernel) (pa_cons (pe_callB St.cr_sortedT (by rfl) T.z_sorted (by decide +kernel) (pa_cons (pe_op op_catTN (pv 7) (pe_tupN (pa_cons (pv 8) pa_nil))) pa_nil)) pa_nil)))) pss_nil)
      (Evl.pss_cut (ps_expr (pe_bm PySem.F.plainAttrs_list PySem.F.slot_list_append PySem.F.type_list_append mt_append (pv 2) (pa_cons (pv 7) pa_nil)))
      (pss_one (ps_if (pt_cmpR op_gt (pe_call GD hr2 (by rfl) gD FD.kp bD .nil pass0 (pa_cons (pv 0) (pa_cons pe_int pa_nil))) pe_int (nomark _)) (pss_one (ps_expr (pe_bm PySem.F.plainAttrs_list PySem.F.slot_list_append PySem.F.type_list_append mt_append (pv 3) (pa_cons (pv 7) pa_nil)))) pss_nil)))))))))))
      (pss_one (ps_ret (pe_ifExp (pt_cmpR (op_neD hr.units) (pv 3) (pe_lstN pa_nil) (nomark _)) (pv 3) (pe_lstN (pa_cons (pe_ix ix_list (pv 2) (pe_un un_neg pe_int) (fun _ _ => rfl)) pa_nil)))))))), ?_⟩
    refine Evl.q_cut (M := fun σ' H' => ∃ N, σ' = [some (.ref f), some (.ref b), some (.ref N), none, none, none, none, none, none, none] ∧ H N = none ∧ Same H H' ∧ H' N = some (.lst bvs)) ?_ ?_
    · exact ⟨_, rfl, b, _, rfl, .inr (.of hb), fun N H1 nN s1 hN _ => ⟨N, rfl, nN, s1, hN⟩⟩
    rintro σ' H1 ⟨N, rfl, nN, s1, hN⟩
    refine Evl.q_cut (M := fun σ' H' => ∃ S, σ' = [some (.ref f), some (.ref b), some (.ref N), some (.ref S), none, none, none, none, none, none] ∧ H S = none ∧ S ≠ N ∧ Same H H' ∧ H' N = some (.lst bvs) ∧ H' S = some (.lst [])) ?_ ?_
    · exact ⟨Nat.zero_le _, fun S H2 nS s2 hS _ => ⟨S, rfl, s1.free nS, Ne.symm (ne_of_none hN nS), s1.trans s2, s2 _ _ hN, hS⟩⟩
    clear hN s1 H1
    rintro σ' H1 ⟨S, rfl, nS, nSN, s1, hN, hS⟩
    have F1 := hF.same s1
    have frN : Frs H N := .of nN
    have frS : Frs H S := .of nS
    have nNf : N ≠ f := hF.nf nN
    have nNc : N ≠ c := hF.nc nN
    have nSf : S ≠ f := hF.nf nS
    have nSc : S ≠ c := hF.nc nS
    -- the loop
    refine Evl.q_cut (M := fun σ' H' => ∃ (y4 y5 y6 y7 y8 : Option V) (kvs fvs : List V), σ' = [some (.ref f), some (.ref b), some (.ref N), some (.ref S), y4, y5, y6, y7, y8, none] ∧ Feed H' f c (B + 200) ∧ Ke (· = f) H H' ∧ H' N = some (.lst kvs) ∧ H' S = some (.lst fvs) ∧ GoodC H' kvs ∧ GoodC H' fvs ∧ kvs ≠ [] ∧ fvs.length ≤ 12) ?_ ?_
    · refine ⟨_, rfl, f, c, 12, B, rfl, by decide, by decide, F1, by omega, fun d H2 d0 d1 F2 k2 => ?_⟩
      refine ⟨_, _, rfl, rfl, 1 + d, rfl, by omega, by omega, for_range (Pv := fun i σ H' => ∃ (y4 y5 y6 y7 y8 : Option V) (kvs fvs : List V), σ = [some (.ref f), some (.ref b), some (.ref N), some (.ref S), y4, y5, y6, y7, y8, none] ∧ Feed H' f c (B + 1 + 10 * i) ∧ Ke (· = f) H H' ∧ H' N = some (.lst kvs) ∧ H' S = some (.lst fvs) ∧ GoodC H' kvs ∧ GoodC H' fvs ∧ kvs ≠ [] ∧ kvs.length ≤ 40 + i ∧ fvs.length ≤ i) ?_ ?_ ?_⟩
      · exact ⟨none, none, none, none, none, bvs, [], rfl, F2, (Ke.same s1).trans k2, k2.lst hN nNf, k2.lst hS nSf, gb.tups fun b xs h => k2.tups _ _ (s1 _ _ h), fun v hv => (nomatch hv), nb, by omega, Nat.le_refl _⟩
      · clear F1 k2 F2 hN hS s1 H1 H2
        rintro i σ H1 hi ⟨y4, y5, y6, y7, y8, kvs, fvs, rfl, F1, k1, hN, hS, gk, gf, nk, lk, lf⟩
        have hi : i < (1 + d).toNat := hi
        have lk0 : 0 < kvs.length := List.length_pos_iff.mpr nk
        -- one
        refine Evl.q_cut (M := fun σ' H' => ∃ v1, σ' = [some (.ref f), some (.ref b), some (.ref N), some (.ref S), some (.int (0 + (i : Int))), some v1, y6, y7, y8, none] ∧ Feed H' f c (B + 1 + 10 * i + 1) ∧ Ke (· = f) H1 H' ∧ v1 ∈ kvs) ?_ ?_
        · refine ⟨_, rfl, _, rfl, _, rfl, N, _, rfl, .inl (.of hN), f, c, _, B + 1 + 10 * i, rfl, by omega, by omega, F1, by omega, fun e H2 e0 e1 F2 k2 => ?_⟩
          have el : e.toNat < kvs.length := by omega
          exact ⟨N, _, _, kvs[e.toNat], rfl, rfl, .of (k2.lst hN nNf), at_of (j := e.toNat) (by omega) (List.getElem?_eq_getElem el), _, rfl, F2, k2, List.getElem_mem el⟩
        rintro σ' H2 ⟨v1, rfl, F2, k2, m1⟩
        have k12 := k1.trans k2
        have hN2 := k2.lst hN nNf
        have hS2 := k2.lst hS nSf
        have gk2 : GoodC H2 kvs := gk.tups k2.tups
        have gf2 : GoodC H2 fvs := gf.tups k2.tups
        obtain ⟨c1, t1, sc1⟩ := gk2 v1 m1
        -- some
        refine Evl.q_cut (M := fun σ' H' => ∃ (M : Addr) (svs : List V), σ' = [some (.ref f), some (.ref b), some (.ref N), some (.ref S), some (.int (0 + (i : Int))), some v1, some (.ref M), y7, y8, none] ∧ Same H2 H' ∧ H' M = some (.lst svs) ∧ svs.length = kvs.length ∧ ∀ v ∈ svs, v = .non ∨ ∃ cs, TupI H' v cs ∧ IsCl cs) ?_ ?_
        · refine ⟨_, rfl, N, rfl, ⟨_, .of hN2⟩, fun D nD => ?_⟩
          refine lc_list (xs := kvs) (Pv := fun i H' => Same H2 H' ∧ ∃ svs : List V, H' D = some (.lst svs) ∧ svs.length = i ∧ ∀ v ∈ svs, v = .non ∨ ∃ cs, TupI H' v cs ∧ IsCl cs) ⟨same_new nD, [], upd_same, rfl, fun v hv => (nomatch hv)⟩ (fun i H' _ p => .of (p.1 _ _ hN2)) ?_ ?_
          · rintro j x H3 hx ⟨s3, svs, hD, ls, hv⟩
            have lj := (List.getElem?_eq_some_iff.mp hx).1
            obtain ⟨c2, t2, sc2⟩ := gk2 x (List.mem_of_getElem? hx)
            have up : ∀ {H4 : Hp} {y : V}, Same H3 H4 → (∀ b xs, H4 b = some (.tup xs) → upd H4 D (.lst (svs ++ [y])) b = some (.tup xs)) := fun {H4 y} s4 => upd_tup (s4 _ _ hD)
            refine ⟨rfl, _, rfl, _, rfl, v1, x, c1, c2, rfl, t1.ke (.same s3 : Ke Nof _ _), t2.ke (.same s3 : Ke Nof _ _), sc1, sc2, fun H4 p ns s4 hp sn => ?_, fun H4 s4 => ?_⟩
            · refine ⟨_, s4 _ _ hD, small1000 (by omega), fun b o z => by rw [upd_ne (ne_of_none z nD)]; exact s4 _ _ (s3 _ _ z), svs ++ [.ref p], upd_same, by rw [List.length_append, ls]; rfl, fun v hv2 => ?_⟩
              rcases List.mem_append.mp hv2 with z | z
              · rcases hv v z with e | ⟨cs, ⟨a', e, ha'⟩, sc⟩
                · exact .inl e
                · exact .inr ⟨cs, ⟨a', e, up s4 _ _ (s4 _ _ ha')⟩, sc⟩
              · rw [List.mem_singleton.mp z]
                exact .inr ⟨ns, ⟨p, rfl, up s4 _ _ hp⟩, sn⟩
            · refine ⟨_, s4 _ _ hD, small1000 (by omega), fun b o z => by rw [upd_ne (ne_of_none z nD)]; exact s4 _ _ (s3 _ _ z), svs ++ [.non], upd_same, by rw [List.length_append, ls]; rfl, fun v hv2 => ?_⟩
              rcases List.mem_append.mp hv2 with z | z
              · rcases hv v z with e | ⟨cs, ⟨a', e, ha'⟩, sc⟩
                · exact .inl e
                · exact .inr ⟨cs, ⟨a', e, up s4 _ _ (s4 _ _ ha')⟩, sc⟩
              · exact .inl (List.mem_singleton.mp z)
          · rintro H3 ⟨s3, svs, hD, ls, hv⟩
            exact ⟨D, svs, rfl, s3, hD, ls, hv⟩
        rintro σ' H3 ⟨M, svs, rfl, s3, hM, ls, hv⟩
        -- some without None
        refine Evl.q_cut (M := fun σ' H' => ∃ (M : Addr) (svs : List V), σ' = [some (.ref f), some (.ref b), some (.ref N), some (.ref S), some (.int (0 + (i : Int))), some v1, some (.ref M), y7, y8, none] ∧ Same H2 H' ∧ H3 M = none ∧ H' M = some (.lst svs) ∧ svs.length ≤ kvs.length ∧ GoodC H' svs) ?_ ?_
        · refine ⟨_, rfl, M, rfl, ⟨_, .of hM⟩, fun D nD => ?_⟩
          refine lc_list (xs := svs) (Pv := fun i H' => Same H3 H' ∧ ∃ ovs : List V, H' D = some (.lst ovs) ∧ ovs.length ≤ i ∧ GoodC H' ovs) ⟨same_new nD, [], upd_same, Nat.le_refl _, fun v hv => (nomatch hv)⟩ (fun i H' _ p => .of (p.1 _ _ hM)) ?_ ?_
          · rintro j x H4 hx ⟨s4, ovs, hD, lo, go⟩
            have lj := (List.getElem?_eq_some_iff.mp hx).1
            rcases hv x (List.mem_of_getElem? hx) with rfl | ⟨cs, ⟨a', rfl, ha'⟩, sc⟩
            · exact ⟨rfl, _, rfl, rfl, _, rfl, iteF ⟨s4, ovs, hD, by omega, go⟩⟩
            · refine ⟨rfl, _, rfl, rfl, _, rfl, iteT ⟨_, rfl, _, hD, small1000 (by omega), fun b o z => by rw [upd_ne (ne_of_none z nD)]; exact s4 _ _ z, ovs ++ [.ref a'], upd_same, by rw [List.length_append]; show ovs.length + 1 ≤ _; omega, good_snoc hD go ⟨a', rfl, s4 _ _ ha'⟩ sc⟩⟩
          · rintro H4 ⟨s4, ovs, hD, lo, go⟩
            exact ⟨D, ovs, rfl, s3.trans s4, nD, hD, by omega, go⟩
        clear hv ls hM
        rintro σ' H4 ⟨M', svs', rfl, s4, nM, hM, ls, gs⟩
        have F4 := F2.same s4
        have k4 : Ke (· = f) H H4 := k12.trans (.same s4)
        have hN4 := s4 _ _ hN2
        have hS4 := s4 _ _ hS2
        have gk4 : GoodC H4 kvs := gk2.tups fun b xs h => s4 _ _ h
        have gf4 : GoodC H4 fvs := gf2.tups fun b xs h => s4 _ _ h
        have nMf : M' ≠ f := (F2.same s3).nf nM
        refine Evl.q_cut (M := fun σ' H' => σ' = [some (.ref f), some (.ref b), some (.ref N), some (.ref S), some (.int (0 + (i : Int))), some v1, some (.ref M'), some v1, y8, none] ∧ H' = H4) ?_ ?_
        · exact ⟨_, rfl, rfl, rfl⟩
        rintro σ' H4' ⟨rfl, rfl⟩
        -- claim
        refine Evl.q_cut (M := fun σ' H' => ∃ (v2 : V) (c2 : List Int), σ' = [some (.ref f), some (.ref b), some (.ref N), some (.ref S), some (.int (0 + (i : Int))), some v1, some (.ref M'), some v2, y8, none] ∧ Feed H' f c (B + 1 + 10 * i + 2) ∧ Ke (· = f) H4' H' ∧ TupI H' v2 c2 ∧ IsCl c2) ?_ ?_
        · refine ⟨_, rfl, Nat.zero_le _, fun p5 H5 np5 s5 hp5 _ => ?_⟩
          have gs5 : GoodC H5 svs' := gs.tups fun b xs h => s5 _ _ h
          obtain ⟨css, lcs, dp⟩ := good_dp (K := K) (s5 _ _ hM) gs5.g
          refine ⟨_, _, dp, .lst (.of hp5) .nil, shaped_cls _, shaped_list rfl, _, rfl, ite2 (fun e => ?_) (fun e => ?_)⟩
          · have ne : css ≠ [] := fun z => by
              have e : (!PyData.eqv (.list (css.map cdat)) (.list [])) = true := e
              rw [eqv_nil.mpr z] at e
              cases e
            have l0 : 0 < svs'.length := by
              have := List.length_pos_iff.mpr ne
              omega
            refine ⟨_, rfl, _, rfl, _, rfl, M', _, rfl, .inl (.of (s5 _ _ hM)), f, c, _, _, rfl, by omega, by omega, F4.same s5, by omega, fun g H6 g0 g1 F6 k6 => ?_⟩
            have gl : g.toNat < svs'.length := by omega
            obtain ⟨c2, t2, sc2⟩ := gs5 _ (List.getElem_mem gl)
            exact ⟨M', _, _, svs'[g.toNat], rfl, rfl, .of (k6.lst (s5 _ _ hM) nMf), at_of (j := g.toNat) (by omega) (List.getElem?_eq_getElem gl), _, c2, rfl, F6.mono (by omega), (Ke.same s5).trans k6, t2.ke k6, sc2⟩
          · exact ⟨v1, c1, rfl, (F4.same s5).mono (by omega), .same s5, t1.ke (.same (s4.trans s5) : Ke Nof _ _), sc1⟩
        rintro σ' H5 ⟨v2, c2, rfl, F5, k5, t2, sc2⟩
        -- say
        refine Evl.q_cut (M := fun σ' H' => ∃ (z : Int), σ' = [some (.ref f), some (.ref b), some (.ref N), some (.ref S), some (.int (0 + (i : Int))), some v1, some (.ref M'), some v2, some (.int z), none] ∧ Feed H' f c (B + 1 + 10 * i + 4) ∧ Ke (· = f) H5 H' ∧ -8 ≤ z ∧ z ≤ 8 ∧ z ≠ 0) ?_ ?_
        · refine ⟨_, rfl, by show 2 ≤ sizeLine; decide, fun p6 H6 np6 s6 hp6 _ => ⟨_, rfl, f, c, 2, _, rfl, by decide, by decide, F5.same s6, by omega, fun e H7 e0 e1 F7 k7 => ?_⟩⟩
          have pk : ∃ y : Int, (y = 1 ∨ y = -1) ∧ atI [V.int 1, V.int (-1)] e = some (.int y) := by
            have two : e = 0 ∨ e = 1 := by omega
            rcases two with rfl | rfl
            · exact ⟨1, .inl rfl, rfl⟩
            · exact ⟨-1, .inr rfl, rfl⟩
          obtain ⟨y, hy, ha⟩ := pk
          refine ⟨p6, _, e, .int y, rfl, rfl, .of (k7.lst hp6 (F5.nf np6)), ha, _, rfl, f, c, 8, _, rfl, by decide, by decide, F7, by omega, fun g H8 g0 g1 F8 k8 => ?_⟩
          refine ⟨_, _, rfl, rfl, _, _, rfl, rfl, .inl ⟨by omega, by omega⟩, y * (1 + g), rfl, F8.mono (by omega), ((Ke.same s6).trans k7).trans k8, ?_, ?_, ?_⟩
          · rcases hy with rfl | rfl <;> omega
          · rcases hy with rfl | rfl <;> omega
          · rcases hy with rfl | rfl <;> omega
        rintro σ' H6 ⟨z, rfl, F6, k6, z1, z2, z0⟩
        have k46 := k5.trans k6
        -- a say more
        refine Evl.q_cut (M := fun σ' H' => ∃ (v2 : V) (c2 : List Int), σ' = [some (.ref f), some (.ref b), some (.ref N), some (.ref S), some (.int (0 + (i : Int))), some v1, some (.ref M'), some v2, some (.int z), none] ∧ Feed H' f c (B + 1 + 10 * i + 5) ∧ Ke (· = f) H4' H' ∧ TupI H' v2 c2 ∧ IsCl c2) ?_ ?_
        · obtain ⟨a2, rfl, ha2⟩ := t2.ke k6
          refine ⟨_, rfl, f, c, 5, _, rfl, by decide, by decide, F6, by omega, fun e H7 e0 e1 F7 k7 => ⟨rfl, _, rfl, ite2 (fun y1 => ?_) (fun y1 => ?_)⟩⟩
          · have ha7 := k7.tups _ _ ha2
            refine ⟨_, rfl, _, rfl, a2, _, rfl, .inr (.of ha7), rfl, ints_flat c2, _, rfl, ite2 (fun y2 => ?_) (fun y2 => ?_)⟩
            · have y2 : (!inV (.int z) (c2.map V.int)) = true := y2
              have nz : z ∉ c2 := fun h => by
                rw [(in_ints _ _).mpr h] at y2
                cases y2
              refine ⟨_, rfl, _, _, rfl, rfl, _, rfl, a2, _, rfl, .inr (.of ha7), rfl, ints_flat c2, _, rfl, ite2 (fun y3 => ?_) (fun y3 => ?_)⟩
              · have l2 := sc2.len
                refine ⟨_, rfl, _, rfl, by show 1 ≤ sizeLine; decide, fun p8 H8 np8 s8 hp8 _ => ?_⟩
                refine ⟨a2, p8, _, _, rfl, rfl, s8 _ _ ha7, hp8, small1000' (by rw [List.length_map]; show c2.length + 1 ≤ _; omega), fun p9 H9 s9 hp9 => ?_⟩
                refine ⟨p9, c2 ++ [z], rfl, .of (by rw [List.map_append]; exact hp9), fun ns pn so p10 H10 np10 s10 hp10 _ => ⟨p10, _, rfl, .of hp10, fun p11 H11 np11 s11 hp11 _ => ?_⟩⟩
                have s811 := ((s8.trans s9).trans s10).trans s11
                exact ⟨.ref p11, ns, rfl, (F7.same s811).mono (by omega), (k46.trans k7).trans (.same s811), ⟨p11, rfl, hp11⟩, cl_add sc2 nz (fun h => by
                  have y3 : (!inV (.int (0 - z)) (c2.map V.int)) = true := y3
                  rw [(in_ints _ _).mpr (by rw [show 0 - z = -z by omega]; exact h)] at y3
                  cases y3) z0 z1 z2 pn so⟩
              · exact ⟨_, c2, rfl, F7.mono (by omega), k46.trans k7, ⟨a2, rfl, ha7⟩, sc2⟩
            · exact ⟨_, c2, rfl, F7.mono (by omega), k46.trans k7, ⟨a2, rfl, ha7⟩, sc2⟩
          · exact ⟨_, c2, rfl, F7.mono (by omega), k46.trans k7, ⟨a2, rfl, k7.tups _ _ ha2⟩, sc2⟩
        clear t2 sc2 k46 k6 F6 k5 F5 H5 H6 v2 c2
        rintro σ' H6 ⟨v2, c2, rfl, F6, k6, t2, sc2⟩
        have hN6 := k6.lst hN4 nNf
        have hS6 := k6.lst hS4 nSf
        have k06 : Ke (· = f) H H6 := k4.trans k6
        -- known.append(claim)
        refine Evl.q_cut (M := fun σ' H' => σ' = [some (.ref f), some (.ref b), some (.ref N), some (.ref S), some (.int (0 + (i : Int))), some v1, some (.ref M'), some v2, some (.int z), none] ∧ Feed H' f c (B + 1 + 10 * i + 5) ∧ Ke (· = f) H H' ∧ H' N = some (.lst (kvs ++ [v2])) ∧ H' S = some (.lst fvs) ∧ GoodC H' (kvs ++ [v2]) ∧ GoodC H' fvs ∧ TupI H' v2 c2) ?_ ?_
        · refine ⟨_, rfl, .inl ⟨rfl, _, .of hN6⟩, _, rfl, N, _, _, rfl, rfl, hN6, small1000 (by omega), rfl, F6.upd nNf nNc, k06.write frN hN6, upd_same, by rw [upd_ne nSN]; exact hS6, good_snoc hN6 (gk4.tups k6.tups) t2 sc2, (gf4.tups k6.tups).tups (upd_tup hN6), ?_⟩
          obtain ⟨a', e, ha'⟩ := t2
          exact ⟨a', e, upd_tup hN6 _ _ ha'⟩
        clear t2 k06 hN6 hS6 k6 F6 H6
        rintro σ' H6 ⟨rfl, F6, k6, hN6, hS6, gk6, gf6, t2⟩
        -- found
        refine ⟨_, rfl, f, c, 4, _, rfl, by decide, by decide, F6, by omega, fun e H7 e0 e1 F7 k7 => ⟨_, _, rfl, rfl, _, rfl, ite2 (fun y1 => ?_) (fun y1 => ?_)⟩⟩
        · have hS7 := k7.lst hS6 nSf
          have hN7 := k7.lst hN6 nNf
          refine ⟨_, rfl, .inl ⟨rfl, _, .of hS7⟩, _, rfl, S, _, _, rfl, rfl, hS7, small1000 (by omega), ?_⟩
          exact ⟨_, _, _, _, _, kvs ++ [v2], fvs ++ [v2], rfl, (F7.upd nSf nSc).mono (by omega), (k6.trans k7).write frS hS7, by rw [upd_ne (Ne.symm nSN)]; exact hN7, upd_same, (gk6.tups k7.tups).tups (upd_tup hS7), good_snoc hS7 (gf6.tups k7.tups) (t2.ke k7) sc2, by simp, by rw [List.length_append]; show kvs.length + 1 ≤ _; omega, by rw [List.length_append]; show fvs.length + 1 ≤ _; omega⟩
        · exact ⟨_, _, _, _, _, kvs ++ [v2], fvs, rfl, F7.mono (by omega), k6.trans k7, k7.lst hN6 nNf, k7.lst hS6 nSf, gk6.tups k7.tups, gf6.tups k7.tups, by simp, by rw [List.length_append]; show kvs.length + 1 ≤ _; omega, by omega⟩
      · rintro σ H3 ⟨y4, y5, y6, y7, y8, kvs, fvs, rfl, F3, k3, hN3, hS3, gk, gf, nk, lk, lf⟩
        have lf : fvs.length ≤ (1 + d).toNat := lf
        exact ⟨y4, y5, y6, y7, y8, kvs, fvs, rfl, F3.mono (by omega), k3, hN3, hS3, gk, gf, nk, by omega⟩
    clear F1 hN hS s1 H1
    rintro σ' H1 ⟨y4, y5, y6, y7, y8, kvs, fvs, rfl, F1, k1, hN, hS, gk, gf, nk, lf⟩
    -- found, or the last one known
    refine ⟨_, rfl, Nat.zero_le _, fun p2 H2 np2 s2 hp2 _ => ?_⟩
    have gf2 : GoodC H2 fvs := gf.tups fun b xs h => s2 _ _ h
    obtain ⟨css, lcs, dp⟩ := good_dp (K := K) (s2 _ _ hS) gf2.g
    refine ⟨_, _, dp, .lst (.of hp2) .nil, shaped_cls _, shaped_list rfl, _, rfl, ite2 (fun e => ?_) (fun e => ?_)⟩
    · have ne : css ≠ [] := fun z => by
        have e : (!PyData.eqv (.list (css.map cdat)) (.list [])) = true := e
        rw [eqv_nil.mpr z] at e
        cases e
      have := List.length_pos_iff.mpr ne
      exact ⟨_, rfl, q S fvs H2 (F1.same s2) (k1.trans (.same s2)) frS (s2 _ _ hS) gf2 (List.length_pos_iff.mp (by omega)) lf⟩
    · obtain ⟨v, mv, hv⟩ := at_last nk
      refine ⟨_, rfl, _, rfl, N, _, -1, v, rfl, rfl, .of (s2 _ _ hN), hv, by show 1 ≤ sizeLine; decide, fun p3 H3 np3 s3 hp3 _ => ?_⟩
      have s13 := s2.trans s3
      refine q p3 [v] H3 (F1.same s13) (k1.trans (.same s13)) (.ke k1 F1 (.of (s2.free np3))) hp3 (fun u hu => ?_) (by simp) (by simp)
      rw [List.mem_singleton.mp hu]
      exact (gk.tups fun b xs h => s13 _ _ h) v mv
end
end Tk
namespace Tk
open PySem PySem.Spec PyProof.Rows L2 GxR Nw Dr Kp Se Cl En Fo Fd Te
section
variable {P : Program} {w : World} {K : PySem.W.Frag} {mg : Str → Option Value} {base : Heap} {fD fU fC : Addr} {fdD fdU fdC : FuncData}
theorem good_nf {H : Hp} {f c t : Addr} {B : Nat} {tvs : List V} (hF : Feed H f c B) (ht : H t = some (.lst tvs)) (g : GoodC H tvs) : t ≠ f := fun e => by
  obtain ⟨ns, n, r, h1, _⟩ := hF
  rw [e, h1] at ht
  have e2 := HO.lst.inj (Option.some.inj ht)
  obtain ⟨cs, ⟨a, z, _⟩, _⟩ := g (.int n) (by rw [← e2]; simp)
  cases z
theorem ne_nil_iff {cs : List Int} : PyData.eqv (.tuple (cs.map PyData.int)) (.tuple []) = true ↔ cs = [] := by
  cases cs with
  | nil => exact ⟨fun _ => rfl, fun _ => rfl⟩
  | cons a r => exact ⟨fun h => absurd h (by simp [PyData.eqv, PyData.eqvAll]), fun h => nomatch h⟩
theorem cut_to1 (xs : List V) (n : Nat) : cutV xs (some ((n : Int) + 1)) none = xs.drop (n + 1) := cut_from xs (n + 1)
/-- turned(pen, telling): another list of claims -/
def spEtu : Sp := fun vs H Q _ => ∃ (f c t : Addr) (B : Nat) (tvs : List V), vs = [.ref f, .ref t] ∧ Feed H f c B ∧ B ≤ 2 ^ 25 ∧ H t = some (.lst tvs) ∧ GoodC H tvs ∧ tvs ≠ [] ∧ tvs.length ≤ 12 ∧
  ∀ (p : Addr) (rvs : List V) (H' : Hp), Feed H' f c (B + 40) → Ke (· = f) H H' → Frs H p → H' p = some (.lst rvs) → GoodC H' rvs → rvs ≠ [] → rvs.length ≤ 12 → Q (.ref p) H'
theorem ok_etu {f : Addr} {fd : FuncData} {k : Nat} (F : Fun K "_law_e_turned" "_law_e_turned" sEtu f fd) (T : Zu mg) (FD : Fun K "_law_e_take" "_law_e_take" sDrw fD fdD) (bD : Binds K fdD ["pen", "many"] []) (gD : mg "_law_e_take" = some (.ref fD)) (GD : FnOk P w K mg base CX0 2 fD fdD ["pen", "many"] spDrw)
    (FC : Fun K "_law_e_claim" "_law_e_claim" sClm fC fdC) (bC : Binds K fdC ["pen", "most", "wide"] []) (gC : mg "_law_e_claim" = some (.ref fC)) (GC : FnOk P w K mg base CX0 3 fC fdC ["pen", "most", "wide"] spClm) :
    FnOk P w K mg base CX0 (k + 4) f fd ["pen", "telling"] spEtu := by
  refine F.ok scEtu (fun vs H Q E h => ?_) (fun cdv A outer s H vs Q E hr h => ?_)
  · obtain ⟨f, c, t, B, tvs, rfl, _⟩ := h
    rfl
  · obtain ⟨f, c, t, B, tvs, rfl, hF, hB, ht, gt, nt, lt, q⟩ := h
    have hr2 : Room 2 _ := hr.mono (by omega)
    have hr3 : Room 3 _ := hr.mono (by omega)
    have ntf := good_nf hF ht gt
    have l0 : 0 < tvs.length := List.length_pos_iff.mpr nt
    refine ⟨_, (Evl.pss_cut (ps_set (i := 2) scEtu.nd rfl (.inl rfl) (pe_call GD hr2 (by rfl) gD FD.kp bD .nil pass0 (pa_cons (pv 0) (pa_cons pe_int pa_nil))))
      (Evl.pss_cut (ps_set (i := 3) scEtu.nd rfl (.inl rfl) (pe_call GD hr2 (by rfl) gD FD.kp bD .nil pass0 (pa_cons (pv 0) (pa_cons (pe_callB call_len_seq (by rfl) T.z_len (by decide +kernel) (pa_cons (pv 1) pa_nil)) pa_nil))))
      (Evl.pss_cut (ps_set (i := 4) scEtu.nd rfl (.inl rfl) (pe_ix ix_list (pv 1) (pv 3) (fun _ _ => rfl)))
      (Evl.pss_cut (ps_if (PW.pt (pw_and (pt_cmpR op_eq (pv 2) pe_int (nomark _)) (pw_and1 (pt_cmpR op_gt (pe_callB call_len_seq (by rfl) T.z_len (by decide +kernel) (pa_cons (pv 1) pa_nil)) pe_int (nomark _))))) (pss_one (ps_ret (pe_op op_catN (pe_slice sl_listN (pv 1) po_none (po_some (pv 3))) (pe_slice sl_listN (pv 1) (po_some (pe_op op_add (pv 3) pe_int)) po_none)))) pss_nil)
      (Evl.pss_cut (ps_if (pt_cmpR op_eq (pv 2) pe_int (nomark _)) (pss_one (ps_ret (pe_revL (pv 1)))) pss_nil)
      (Evl.pss_cut (ps_if (PW.pt (pw_and (pt_cmpR op_eq (pv 2) pe_int (nomark _)) (pw_and1 (pt_cmpR (op_neD hr.units) (pv 4) (pe_tupN pa_nil) (nomark _))))) (Evl.pss_cut (ps_set (i := 5) scEtu.nd rfl (.inl rfl) (pe_call GD hr2 (by rfl) gD FD.kp bD .nil pass0 (pa_cons (pv 0) (pa_cons (pe_callB call_len_seq (by rfl) T.z_len (by decide +kernel) (pa_cons (pv 4) pa_nil)) pa_nil))))
      (Evl.pss_cut (ps_set (i := 6) scEtu.nd rfl (.inl rfl) (pe_op op_catTN (pe_slice sl_tupN (pv 4) po_none (po_some (pv 5))) (pe_slice sl_tupN (pv 4) (po_some (pe_op op_add (pv 5) pe_int)) po_none)))
      (pss_one (ps_ret (pe_op op_catN (pe_op op_catN (pe_slice sl_listN (pv 1) po_none (po_some (pv 3))) (pe_lstN (pa_cons (pv 6) pa_nil))) (pe_slice sl_listN (pv 1) (po_some (pe_op op_add (pv 3) pe_int)) po_none)))))) pss_nil)
      (Evl.pss_cut (ps_if (pt_cmpR op_eq (pv 2) pe_int (nomark _)) (pss_one (ps_ret (pe_op op_catN (pe_op op_catN (pe_slice sl_listN (pv 1) po_none (po_some (pv 3))) (pe_lstN (pa_cons (pe_call GC hr3 (by rfl) gC FC.kp bC .nil pass0 (pa_cons (pv 0) (pa_cons pe_int (pa_cons pe_int pa_nil)))) pa_nil))) (pe_slice sl_listN (pv 1) (po_some (pe_op op_add (pv 3) pe_int)) po_none)))) pss_nil)
      (Evl.pss_cut (ps_if (pt_cmpR op_eq (pv 2) pe_int (nomark _)) (pss_one (ps_ret (pe_slice sl_listN (pe_op op_catN (pe_op op_catN (pe_slice sl_listN (pv 1) po_none (po_some (pv 3))) (pe_lstN (pa_cons (pv 4) pa_nil))) (pe_slice sl_listN (pv 1) (po_some (pv 3)) po_none)) po_none (po_some pe_int)))) pss_nil)
      (pss_one (ps_ret (pe_op op_catN (pe_op op_catN (pe_lstN (pa_cons (pe_ix ix_list (pv 1) (pv 3) (fun _ _ => rfl)) pa_nil)) (pe_slice sl_listN (pv 1) po_none (po_some (pv 3)))) (pe_slice sl_listN (pv 1) (po_some (pe_op op_add (pv 3) pe_int)) po_none)))))))))))), ?_⟩
    -- way
    refine Evl.q_cut (M := fun σ' H' => ∃ wy : Int, σ' = [some (.ref f), some (.ref t), some (.int wy), none, none, none, none] ∧ Feed H' f c (B + 1) ∧ Ke (· = f) H H') ?_ ?_
    · exact ⟨_, rfl, f, c, 6, B, rfl, by decide, by decide, hF, by omega, fun d H1 d0 d1 F1 k1 => ⟨d, rfl, F1, k1⟩⟩
    rintro σ' H1 ⟨wy, rfl, F1, k1⟩
    -- at
    refine Evl.q_cut (M := fun σ' H' => ∃ n : Nat, σ' = [some (.ref f), some (.ref t), some (.int wy), some (.int (n : Nat)), none, none, none] ∧ n < tvs.length ∧ Feed H' f c (B + 2) ∧ Ke (· = f) H H') ?_ ?_
    · refine ⟨_, rfl, _, rfl, t, _, rfl, .inl (.of (k1.lst ht ntf)), f, c, _, B + 1, rfl, by omega, by omega, F1, by omega, fun d H2 d0 d1 F2 k2 => ⟨d.toNat, ?_, by omega, F2, k1.trans k2⟩⟩
      rw [Int.toNat_of_nonneg d0]
      rfl
    clear k1 F1 H1
    rintro σ' H1 ⟨n, rfl, ln, F1, k1⟩
    have ht1 := k1.lst ht ntf
    have gt1 : GoodC H1 tvs := gt.tups k1.tups
    have hx := List.getElem?_eq_getElem ln
    have mx := List.getElem_mem ln
    generalize tvs[n] = x at hx mx
    obtain ⟨cx, ⟨xa, rfl, hxa⟩, scx⟩ := gt1 x mx
    have lcx := scx.len
    refine Evl.q_cut (M := fun σ' H' => σ' = [some (.ref f), some (.ref t), some (.int wy), some (.int (n : Nat)), some (.ref xa), none, none] ∧ H' = H1) ?_ ?_
    · exact ⟨_, rfl, _, rfl, t, _, _, .ref xa, rfl, rfl, .of ht1, at_of (j := n) rfl hx, rfl, rfl⟩
    rintro σ' H1' ⟨rfl, rfl⟩
    have done : ∀ {p : Addr} {rvs : List V} {H2 : Hp}, Same H1' H2 → H1' p = none → H2 p = some (.lst rvs) → (∀ v ∈ rvs, v ∈ tvs) → 0 < rvs.length ∧ rvs.length ≤ 12 → Q (.ref p) H2 := fun {p rvs H2} s2 np hp hm ⟨h0, hl⟩ =>
      q p rvs H2 ((F1.same s2).mono (by omega)) (k1.trans (.same s2)) (.ke k1 F1 (.of np)) hp (fun v hv => (gt1.tups fun b xs h => s2 _ _ h) v (hm v hv)) (List.length_pos_iff.mp h0) hl
    -- way 0
    refine Evl.q_cut (M := fun σ' H' => σ' = [some (.ref f), some (.ref t), some (.int wy), some (.int (n : Nat)), some (.ref xa), none, none] ∧ H' = H1') ?_ ?_
    · refine ⟨_, rfl, rfl, _, rfl, ite2 (fun e => ?_) (fun e => ⟨rfl, rfl⟩)⟩
      refine ⟨_, rfl, t, _, rfl, .inl (.of ht1), _, _, rfl, rfl, _, rfl, ite2 (fun e => ?_) (fun e => ⟨rfl, rfl⟩)⟩
      refine ⟨_, rfl, _, rfl, (n : Nat), rfl, t, _, rfl, .of ht1, fun L H2 nL s2 hL _ => ?_⟩
      refine ⟨_, rfl, _, rfl, _, _, rfl, rfl, (n : Int) + 1, rfl, t, _, rfl, .of (s2 _ _ ht1), fun R H3 nR s3 hR _ => ?_⟩
      rw [cut_to] at hL
      rw [cut_to1] at hR
      refine ⟨L, R, _, _, rfl, rfl, s3 _ _ hL, hR, small1000' (by rw [List.length_take, List.length_drop]; omega), fun p H4 np s4 hp _ => ?_⟩
      refine done (s2.trans (s3.trans s4)) (s2.free (s3.free np)) hp (fun v hv => ?_) (by rw [List.length_append, List.length_take, List.length_drop]; have e : (1 : Int) < (tvs.length : Nat) := of_decide_eq_true e; omega)
      rcases List.mem_append.mp hv with z | z
      · exact List.mem_of_mem_take z
      · exact List.mem_of_mem_drop z
    rintro σ' H1'' ⟨rfl, rfl⟩
    -- way 1
    refine Evl.q_cut (M := fun σ' H' => σ' = [some (.ref f), some (.ref t), some (.int wy), some (.int (n : Nat)), some (.ref xa), none, none] ∧ H' = H1'') ?_ ?_
    · refine ⟨_, rfl, rfl, _, rfl, ite2 (fun e => ?_) (fun e => ⟨rfl, rfl⟩)⟩
      refine ⟨_, rfl, t, tvs, rfl, .of ht1, fun p np => ?_⟩
      exact done (same_new np) np upd_same (fun v hv => List.mem_reverse.mp hv) (by rw [List.length_reverse]; exact ⟨l0, lt⟩)
    rintro σ' H1'' ⟨rfl, rfl⟩
    -- way 2
    refine Evl.q_cut (M := fun σ' H' => σ' = [some (.ref f), some (.ref t), some (.int wy), some (.int (n : Nat)), some (.ref xa), none, none] ∧ Same H1'' H') ?_ ?_
    · refine ⟨_, rfl, rfl, _, rfl, ite2 (fun e => ?_) (fun e => ⟨rfl, .refl _⟩)⟩
      refine ⟨_, rfl, Nat.zero_le _, fun p2 H2 np2 s2 hp2 _ => ?_⟩
      refine ⟨_, _, .tup (.of (s2 _ _ hxa)) (dp_ints cx), .tup (.of hp2) .nil, shaped_tuple (flat_ints _), shaped_tuple rfl, _, rfl, ite2 (fun e => ?_) (fun e => ⟨rfl, s2⟩)⟩
      have ne : cx ≠ [] := fun z => by
        have e : (!PyData.eqv (.tuple (cx.map PyData.int)) (.tuple [])) = true := e
        rw [ne_nil_iff.mpr z] at e
        cases e
      have l1 := List.length_pos_iff.mpr ne
      have F2 := F1.same s2
      -- spot
      refine Evl.q_cut (M := fun σ' H' => ∃ m : Nat, σ' = [some (.ref f), some (.ref t), some (.int wy), some (.int (n : Nat)), some (.ref xa), some (.int (m : Nat)), none] ∧ Feed H' f c (B + 3) ∧ Ke (· = f) H1'' H') ?_ ?_
      · refine ⟨_, rfl, _, rfl, xa, _, rfl, .inr (.of (s2 _ _ hxa)), f, c, _, B + 2, rfl, ?_, ?_, F2, by omega, fun d H3 d0 d1 F3 k3 => ⟨d.toNat, ?_, F3, (Ke.same s2).trans k3⟩⟩
        · rw [List.length_map]
          omega
        · rw [List.length_map]
          omega
        · rw [Int.toNat_of_nonneg d0]
          rfl
      rintro σ' H3 ⟨m, rfl, F3, k3⟩
      have hxa3 := k3.tups _ _ hxa
      have ht3 := k3.lst ht1 ntf
      -- less
      refine Evl.q_cut (M := fun σ' H' => ∃ (la : Addr) (lc : List Int), σ' = [some (.ref f), some (.ref t), some (.int wy), some (.int (n : Nat)), some (.ref xa), some (.int (m : Nat)), some (.ref la)] ∧ Same H3 H' ∧ H' la = some (.tup (lc.map V.int)) ∧ IsCl lc) ?_ ?_
      · refine ⟨_, rfl, _, rfl, (m : Nat), rfl, xa, _, rfl, hxa3, fun L H4 s4 hL => ?_⟩
        refine ⟨_, rfl, _, rfl, _, _, rfl, rfl, (m : Int) + 1, rfl, xa, _, rfl, s4 _ _ hxa3, fun R H5 s5 hR => ?_⟩
        rw [cut_to] at hL
        rw [cut_to1] at hR
        refine ⟨L, R, _, _, rfl, rfl, s5 _ _ hL, hR, small1000' (by rw [List.length_take, List.length_drop, List.length_map]; omega), fun p H6 s6 hp => ?_⟩
        refine ⟨p, cx.take m ++ cx.drop (m + 1), rfl, s4.trans (s5.trans s6), by rw [List.map_append, List.map_take, List.map_drop]; exact hp, cl_sub ?_ scx⟩
        have e : (cx.take m ++ cx.drop (m + 1)).Sublist (cx.take m ++ cx.drop m) := by
          refine List.Sublist.append (List.Sublist.refl _) ?_
          rw [← List.drop_drop]
          exact List.drop_sublist _ _
        rw [List.take_append_drop] at e
        exact e
      rintro σ' H4 ⟨la, lc, rfl, s4, hla, slc⟩
      have ht4 := s4 _ _ ht3
      refine ⟨_, rfl, _, rfl, (n : Nat), rfl, t, _, rfl, .of ht4, fun L H5 nL s5 hL _ => ?_⟩
      refine ⟨_, rfl, by show 1 ≤ sizeLine; decide, fun M H6 nM s6 hM _ => ?_⟩
      rw [cut_to] at hL
      refine ⟨L, M, _, _, rfl, rfl, s6 _ _ hL, hM, small1000' (by rw [List.length_take]; show min n tvs.length + 1 ≤ _; omega), fun L2 H7 nL2 s7 hL2 _ => ?_⟩
      have s47 := (s5.trans s6).trans s7
      refine ⟨_, rfl, _, rfl, _, _, rfl, rfl, (n : Int) + 1, rfl, t, _, rfl, .of (s47 _ _ ht4), fun R H8 nR s8 hR _ => ?_⟩
      rw [cut_to1] at hR
      refine ⟨L2, R, _, _, rfl, rfl, s8 _ _ hL2, hR, small1000' (by rw [List.length_append, List.length_take, List.length_drop]; show min n tvs.length + 1 + _ ≤ _; omega), fun p H9 np s9 hp _ => ?_⟩
      have s49 := (s47.trans s8).trans s9
      have k39 : Ke (· = f) H1'' H9 := k3.trans (.same (s4.trans s49))
      refine q p _ H9 ((F3.same (s4.trans s49)).mono (by omega)) (k1.trans k39) (.ke k1 F1 (.ke k3 F3 (.of ((s4.trans (s47.trans s8)).free np)))) hp (fun v hv => ?_) (by simp) (by rw [List.length_append, List.length_append, List.length_take, List.length_drop]; show min n tvs.length + 1 + _ ≤ _; omega)
      rcases List.mem_append.mp hv with z | z
      · rcases List.mem_append.mp z with z | z
        · exact (gt1.tups k39.tups) v (List.mem_of_mem_take z)
        · rw [List.mem_singleton.mp z]
          exact ⟨lc, ⟨la, rfl, s49 _ _ hla⟩, slc⟩
      · exact (gt1.tups k39.tups) v (List.mem_of_mem_drop z)
    rintro σ' H2 ⟨rfl, s2⟩
    have F2 := F1.same s2
    have ht2 := s2 _ _ ht1
    -- way 3
    refine Evl.q_cut (M := fun σ' H' => σ' = [some (.ref f), some (.ref t), some (.int wy), some (.int (n : Nat)), some (.ref xa), none, none] ∧ H' = H2) ?_ ?_
    · refine ⟨_, rfl, rfl, _, rfl, ite2 (fun e => ?_) (fun e => ⟨rfl, rfl⟩)⟩
      refine ⟨_, rfl, _, rfl, (n : Nat), rfl, t, _, rfl, .of ht2, fun L H5 nL s5 hL _ => ?_⟩
      rw [cut_to] at hL
      refine ⟨_, rfl, f, c, 8, 3, B + 2, rfl, by decide, by decide, by decide, by decide, F2.same s5, by omega, fun cs la H6 F6 k6 _ hla ic _ _ => ?_⟩
      refine ⟨by show 1 ≤ sizeLine; decide, fun M H7 nM s7 hM _ => ?_⟩
      have nLf : L ≠ f := F2.nf nL
      refine ⟨L, M, _, _, rfl, rfl, s7 _ _ (k6.lst hL nLf), hM, small1000' (by rw [List.length_take]; show min n tvs.length + 1 ≤ _; omega), fun L2 H8 nL2 s8 hL2 _ => ?_⟩
      have ht6 := k6.lst (s5 _ _ ht2) ntf
      have s68 := s7.trans s8
      refine ⟨_, rfl, _, rfl, _, _, rfl, rfl, (n : Int) + 1, rfl, t, _, rfl, .of (s68 _ _ ht6), fun R H9 nR s9 hR _ => ?_⟩
      rw [cut_to1] at hR
      refine ⟨L2, R, _, _, rfl, rfl, s9 _ _ hL2, hR, small1000' (by rw [List.length_append, List.length_take, List.length_drop]; show min n tvs.length + 1 + _ ≤ _; omega), fun p H10 np s10 hp _ => ?_⟩
      have s610 := (s68.trans s9).trans s10
      have kk : Ke (· = f) H1'' H10 := (Ke.same (s2.trans s5)).trans (k6.trans (.same s610))
      refine q p _ H10 ((F6.same s610).mono (by omega)) (k1.trans kk) (.ke k1 F1 (.ke ((Ke.same (s2.trans s5)).trans k6) F6 (.of ((s68.trans s9).free np)))) hp (fun v hv => ?_) (by simp) (by rw [List.length_append, List.length_append, List.length_take, List.length_drop]; show min n tvs.length + 1 + _ ≤ _; omega)
      rcases List.mem_append.mp hv with z | z
      · rcases List.mem_append.mp z with z | z
        · exact (gt1.tups kk.tups) v (List.mem_of_mem_take z)
        · rw [List.mem_singleton.mp z]
          exact ⟨cs, ⟨la, rfl, s610 _ _ hla⟩, ic⟩
      · exact (gt1.tups kk.tups) v (List.mem_of_mem_drop z)
    rintro σ' H2' ⟨rfl, rfl⟩
    -- way 4
    refine Evl.q_cut (M := fun σ' H' => σ' = [some (.ref f), some (.ref t), some (.int wy), some (.int (n : Nat)), some (.ref xa), none, none] ∧ H' = H2') ?_ ?_
    · refine ⟨_, rfl, rfl, _, rfl, ite2 (fun e => ?_) (fun e => ⟨rfl, rfl⟩)⟩
      refine ⟨_, rfl, _, rfl, (n : Nat), rfl, t, _, rfl, .of ht2, fun L H5 nL s5 hL _ => ?_⟩
      rw [cut_to] at hL
      refine ⟨_, rfl, by show 1 ≤ sizeLine; decide, fun M H6 nM s6 hM _ => ?_⟩
      refine ⟨L, M, _, _, rfl, rfl, s6 _ _ hL, hM, small1000' (by rw [List.length_take]; show min n tvs.length + 1 ≤ _; omega), fun L2 H7 nL2 s7 hL2 _ => ?_⟩
      have s27 := (s5.trans s6).trans s7
      refine ⟨_, rfl, _, rfl, (n : Nat), rfl, t, _, rfl, .of (s27 _ _ ht2), fun R H8 nR s8 hR _ => ?_⟩
      rw [cut_from] at hR
      refine ⟨L2, R, _, _, rfl, rfl, s8 _ _ hL2, hR, small1000' (by rw [List.length_append, List.length_take, List.length_drop]; show min n tvs.length + 1 + _ ≤ _; omega), fun L3 H9 nL3 s9 hL3 _ => ?_⟩
      refine ⟨12, rfl, L3, _, rfl, .of hL3, fun p H10 np s10 hp _ => ?_⟩
      rw [show (12 : Int) = ((12 : Nat) : Int) from rfl, cut_to] at hp
      have s210 := ((s27.trans s8).trans s9).trans s10
      refine done (s2.trans s210) ((s2.trans ((s27.trans s8).trans s9)).free np) hp (fun v hv => ?_) (by rw [List.length_take, List.length_append, List.length_append]; show 0 < min 12 (_ + 1 + _) ∧ _; omega)
      rcases List.mem_append.mp (List.mem_of_mem_take hv) with z | z
      · rcases List.mem_append.mp z with z | z
        · exact List.mem_of_mem_take z
        · rw [List.mem_singleton.mp z]
          exact mx
      · exact List.mem_of_mem_drop z
    rintro σ' H2'' ⟨rfl, rfl⟩
    -- the last way
    refine ⟨_, rfl, _, rfl, t, _, _, .ref xa, rfl, rfl, .of ht2, at_of (j := n) rfl hx, by show 1 ≤ sizeLine; decide, fun M H5 nM s5 hM _ => ?_⟩
    refine ⟨_, rfl, _, rfl, (n : Nat), rfl, t, _, rfl, .of (s5 _ _ ht2), fun L H6 nL s6 hL _ => ?_⟩
    rw [cut_to] at hL
    refine ⟨M, L, _, _, rfl, rfl, s6 _ _ hM, hL, small1000' (by rw [List.length_take]; show 1 + min n tvs.length ≤ _; omega), fun L2 H7 nL2 s7 hL2 _ => ?_⟩
    have s27 := (s5.trans s6).trans s7
    refine ⟨_, rfl, _, rfl, _, _, rfl, rfl, (n : Int) + 1, rfl, t, _, rfl, .of (s27 _ _ ht2), fun R H8 nR s8 hR _ => ?_⟩
    rw [cut_to1] at hR
    refine ⟨L2, R, _, _, rfl, rfl, s8 _ _ hL2, hR, small1000' (by rw [List.length_append, List.length_take, List.length_drop]; show 1 + min n tvs.length + _ ≤ _; omega), fun p H9 np s9 hp _ => ?_⟩
    refine done (s2.trans ((s27.trans s8).trans s9)) ((s2.trans (s27.trans s8)).free np) hp (fun v hv => ?_) (by rw [List.length_append, List.length_append, List.length_take, List.length_drop]; show 0 < 1 + min n tvs.length + _ ∧ 1 + min n tvs.length + _ ≤ _; omega)
    rcases List.mem_append.mp hv with z | z
    · rcases List.mem_append.mp z with z | z
      · rw [List.mem_singleton.mp z]
        exact mx
      · exact List.mem_of_mem_take z
    · exact List.mem_of_mem_drop z
end
end Tk
namespace Ml
open PySem PySem.Spec PyProof.Rows L2 GxR Nw Dr Kp Se Ct Lr Lp
/-! ### the law's own look at a ladder (k53) -/
theorem same_wr {H H1 : Hp} {D : Addr} {o : HO} (s : Same H H1) (n : H D = none) : Same H (upd H1 D o) := fun b x e => by
  rw [upd_ne (ne_of_none e n)]
  exact s b x e
def restC (k : Int) (a b : List Int) : List Int := a.filter (fun s => !decide (V.int s = V.int k)) ++ b.filter (fun s => !decide (V.int s = V.int (0 - k)) && !inV (.int s) (a.map V.int))
theorem mem_rest {a b : List Int} {k j : Int} (ha : IsCl a) (hb : IsCl b) (ka : k ∈ a) (kb : -k ∈ b) (k1 : 1 ≤ k) : j ∈ restC k a b ↔ Bes a b k j := by
  unfold restC Bes
  rw [List.mem_append, List.mem_filter, List.mem_filter, Bool.and_eq_true, Bool.not_eq_true', Bool.not_eq_true', Bool.not_eq_true', decide_eq_false_iff_not, decide_eq_false_iff_not, Bool.eq_false_iff]
  rw [show (inV (.int j) (a.map V.int) ≠ true) ↔ j ∉ a from not_congr (in_ints j a)]
  have na : -k ∉ a := ha.opp k ka
  have nb : k ∉ b := fun z => hb.opp k z kb
  constructor
  · rintro (⟨h, n⟩ | ⟨h, n, m⟩)
    · refine ⟨.inl h, fun e => ?_⟩
      have n : ¬ j = k := fun z => n (by rw [z])
      have : j = -k := by omega
      rw [this] at h
      exact na h
    · refine ⟨.inr h, fun e => ?_⟩
      have n : ¬ j = -k := fun z => n (by rw [z, show 0 - k = -k by omega])
      have : j = k := by omega
      rw [this] at m
      exact m ka
  · rintro ⟨h, n⟩
    by_cases m : j ∈ a
    · exact .inl ⟨m, fun z => n (by rw [V.int.inj z]; omega)⟩
    · rcases h with h | h
      · exact absurd h m
      · exact .inr ⟨h, fun z => n (by rw [V.int.inj z]; omega), m⟩
theorem up_nodup {l : List Int} (h : l.Pairwise (· < ·)) : l.Nodup := h.imp fun {a b} h e => by
  rw [e] at h
  exact absurd h (Int.lt_irrefl b)
theorem nodup_rest {a b : List Int} {k : Int} (ha : IsCl a) (hb : IsCl b) : (restC k a b).Nodup := by
  unfold restC
  rw [List.nodup_append]
  refine ⟨(up_nodup ha.up).filter _, (up_nodup hb.up).filter _, fun x hx y hy e => ?_⟩
  obtain ⟨h1, _⟩ := List.mem_filter.mp hx
  obtain ⟨_, h2⟩ := List.mem_filter.mp hy
  rw [Bool.and_eq_true, Bool.not_eq_true', Bool.not_eq_true', ← e] at h2
  rw [(in_ints x a).mpr h1] at h2
  cases h2.2
theorem lt_of_le {l : List Int} (h : l.Pairwise (· ≤ ·)) (n : l.Nodup) : l.Pairwise (· < ·) := by
  have := h.and n
  exact this.imp fun {a b} h => by have := h.1; have := h.2; omega
theorem rest_len {a b : List Int} {k : Int} (ha : IsCl a) (hb : IsCl b) : (restC k a b).length ≤ 34 := by
  unfold restC
  rw [List.length_append]
  have h1 := List.length_filter_le (fun s : Int => !decide (V.int s = V.int k)) a
  have h2 := List.length_filter_le (fun s : Int => !decide (V.int s = V.int (0 - k)) && !inV (.int s) (a.map V.int)) b
  have := ha.len
  have := hb.len
  omega
theorem filt_take {α : Type} {f : α → Bool} {l : List α} {i : Nat} {x : α} (h : l[i]? = some x) : (l.take (i + 1)).filter f = (l.take i).filter f ++ (if f x = true then [x] else []) := by
  rw [List.take_add_one, h, List.filter_append]
  congr 1
  show [x].filter f = _
  cases e : f x with
  | true => rw [List.filter_cons_of_pos e]; rfl
  | false => rw [List.filter_cons_of_neg (by rw [e]; decide)]; rfl
theorem not_in {k : Int} {l : List Int} : ((!inV (.int k) (l.map V.int)) = true) ↔ k ∉ l := by
  rw [Bool.not_eq_true', Bool.eq_false_iff]
  exact not_congr (in_ints k l)
structure Zl (mg : Str → Option Value) : Prop where
  z_len : mg "len" = none
  z_isinstance : mg "isinstance" = none
  z_tuple : mg "tuple" = none
  z_list : mg "list" = none
  z_int : mg "int" = none
  z_bool : mg "bool" = none
  z_any : mg "any" = none
  z_all : mg "all" = none
  z_sorted : mg "sorted" = none
section
variable {P : Program} {w : World} {K : PySem.W.Frag} {mg : Str → Option Value} {base : Heap}
abbrev sWho : Stmt := topS 42
theorem scWho : FnScope ["thing"] ["thing"] (defScope sWho) := ⟨rfl, rfl, rfl, by decide +kernel, rfl, by decide +kernel, by decide +kernel⟩
def spWhoI : Sp := fun vs H Q _ => ∃ n : Int, vs = [.int n] ∧ Q (.bl true) H
theorem ok_who {f : Addr} {fd : FuncData} {k : Nat} (F : Fun K "_law_e_whole" "_law_e_whole" sWho f fd) (T : Zl mg) : FnOk P w K mg base CX0 (k + 1) f fd ["thing"] spWhoI := by
  refine F.ok scWho (fun vs H Q E h => ?_) (fun cdv A outer s H vs Q E hr h => ?_)
  · obtain ⟨n, rfl, _⟩ := h
    rfl
  · obtain ⟨n, rfl, q⟩ := h
    refine ⟨_, (pss_one (ps_ret (pe_and (pe_callB call_isi (by rfl) T.z_isinstance (by decide +kernel) (pa_cons (pv 0) (pa_cons (pe_bltn (v := .ty "int") (u := .type "int") (by rfl) T.z_int (by decide +kernel) rfl) pa_nil))) (pe_one (pe_not (pe_callB call_isi (by rfl) T.z_isinstance (by decide +kernel) (pa_cons (pv 0) (pa_cons (pe_bltn (v := .ty "bool") (u := .type "bool") (by rfl) T.z_bool (by decide +kernel) rfl) pa_nil)))))))), ?_⟩
    exact ⟨_, rfl, .int n, .ty "int", .type "int", .type "int", true, rfl, .ty _, .base (.int n), kit_ty (by decide +kernel), _, rfl, _, rfl, .int n, .ty "bool", .type "int", .type "bool", false, rfl, .ty _, .base (.int n), kit_ty (by decide +kernel), _, rfl, q⟩
abbrev sIsn : Stmt := topS 55
theorem scIsn : FnScope ["thing", "many"] ["thing", "many"] (defScope sIsn) := ⟨rfl, rfl, rfl, by decide +kernel, rfl, by decide +kernel, by decide +kernel⟩
def spIsn : Sp := fun vs H Q _ => ∃ n m : Nat, vs = [.int (n : Int), .int (m : Int)] ∧ n < m ∧ Q (.bl true) H
theorem ok_isn {f fW : Addr} {fd fdW : FuncData} {k : Nat} (F : Fun K "_law_e_is_number" "_law_e_is_number" sIsn f fd) (FW : Fun K "_law_e_whole" "_law_e_whole" sWho fW fdW) (bW : Binds K fdW ["thing"] []) (gW : mg "_law_e_whole" = some (.ref fW)) (GW : FnOk P w K mg base CX0 1 fW fdW ["thing"] spWhoI) : FnOk P w K mg base CX0 (k + 2) f fd ["thing", "many"] spIsn := by
  refine F.ok scIsn (fun vs H Q E h => ?_) (fun cdv A outer s H vs Q E hr h => ?_)
  · obtain ⟨n, m, rfl, _⟩ := h
    rfl
  · obtain ⟨n, m, rfl, lt, q⟩ := h
    have hr1 : Room 1 _ := hr.mono (by omega)
    refine ⟨_, (pss_one (ps_ret (pe_and (pe_call GW hr1 (by rfl) gW FW.kp bW .nil pass0 (pa_cons (pv 0) pa_nil)) (pe_one (pe_chain op_le op_lt pe_int (pv 0) (pv 1)))))), ?_⟩
    refine ⟨_, rfl, n, rfl, true, rfl, _, rfl, _, _, rfl, rfl, true, ?_, _, rfl, _, _, rfl, rfl, ?_⟩
    · show V.bl (decide ((0 : Int) ≤ (n : Int))) = _
      rw [decide_eq_true (by omega)]
    · show Q (.bl (decide ((n : Int) < (m : Int)))) H
      rw [decide_eq_true (by omega)]
      exact q
abbrev sRcl : Stmt := topS 56
abbrev nRcl : List Str := ["book", "claims", "row", "one", "other", "k", "rest", "say"]
theorem scRcl : FnScope nRcl ["book", "claims", "row"] (defScope sRcl) := ⟨rfl, rfl, rfl, by decide +kernel, rfl, by decide +kernel, by decide +kernel⟩
def spErc : Sp := fun vs H Q _ => ∃ (b : V) (C : Addr) (v : V) (css cls : List (List Int)) (r : Rw) (c : List Int), vs = [b, .ref C, v] ∧ Bk H b css ∧ ClL H C cls ∧ RowAt H v r ∧ (∀ c ∈ css, IsCl c) ∧ (∀ c ∈ cls, IsCl c) ∧ RowCl css cls r c ∧
  ∀ (u : V) H', Same H H' → TupI H' u c → Q u H'
theorem ok_rcl {f fW fN : Addr} {fd fdW fdN : FuncData} {k : Nat} (F : Fun K "_law_e_row_claim" "_law_e_row_claim" sRcl f fd) (T : Zl mg)
    (FW : Fun K "_law_e_whole" "_law_e_whole" sWho fW fdW) (bW : Binds K fdW ["thing"] []) (gW : mg "_law_e_whole" = some (.ref fW)) (GW : FnOk P w K mg base CX0 1 fW fdW ["thing"] spWhoI)
    (FN : Fun K "_law_e_is_number" "_law_e_is_number" sIsn fN fdN) (bN : Binds K fdN ["thing", "many"] []) (gN : mg "_law_e_is_number" = some (.ref fN)) (GN : FnOk P w K mg base CX0 2 fN fdN ["thing", "many"] spIsn) :
    FnOk P w K mg base CX0 (k + 3) f fd ["book", "claims", "row"] spErc := by
  refine F.ok scRcl (fun vs H Q E h => ?_) (fun cdv A outer s H vs Q E hr h => ?_)
  · obtain ⟨b, C, v, css, cls, r, c, rfl, _⟩ := h
    rfl
  · obtain ⟨b, C, v, css, cls, r, c, rfl, hb, ⟨cvs, hC, aC⟩, ⟨p, rfl, hp⟩, ob, oc, rc, q1⟩ := h
    obtain ⟨ba, bvs, rfl, hB, lB, aB⟩ := hb
    have hr1 : Room 1 _ := hr.mono (by omega)
    have hr2 : Room 2 _ := hr.mono (by omega)
    have lc := aC.1
    refine ⟨_, (Evl.pss_cut (ps_if (PW.pt (pw_or (pt_not (pt_val (pe_callB call_isi (by rfl) T.z_isinstance (by decide +kernel) (pa_cons (pv 2) (pa_cons (pe_bltn (v := .ty "tuple") (u := .type "tuple") (by rfl) T.z_tuple (by decide +kernel) rfl) pa_nil))))) (pw_or1 (pt_cmpR op_eq (pe_callB call_len_seq (by rfl) T.z_len (by decide +kernel) (pa_cons (pv 2) pa_nil)) pe_int (nomark _))))) (pss_one (ps_ret pe_non)) pss_nil)
      (Evl.pss_cut (ps_if (pt_cmpR op_eq (pe_ix ix_tup (pv 2) pe_int (fun _ _ => rfl)) pe_str (nomark _)) (pss_one (ps_ret (pe_ifExp (PW.pt (pw_and (pt_cmpR op_eq (pe_callB call_len_seq (by rfl) T.z_len (by decide +kernel) (pa_cons (pv 2) pa_nil)) pe_int (nomark _)) (pw_and1 (pt_val (pe_call GN hr2 (by rfl) gN FN.kp bN .nil pass0 (pa_cons (pe_ix ix_tup (pv 2) pe_int (fun _ _ => rfl)) (pa_cons (pe_callB call_len_seq (by rfl) T.z_len (by decide +kernel) (pa_cons (pv 0) pa_nil)) pa_nil))))))) (pe_ix ix_tup (pv 0) (pe_ix ix_tup (pv 2) pe_int (fun _ _ => rfl)) (fun _ _ => rfl)) pe_non))) pss_nil)
      (Evl.pss_cut (ps_if (PW.pt (pw_or (pt_cmpR op_ne (pe_ix ix_tup (pv 2) pe_int (fun _ _ => rfl)) pe_str (nomark _)) (pw_or (pt_cmpR op_ne (pe_callB call_len_seq (by rfl) T.z_len (by decide +kernel) (pa_cons (pv 2) pa_nil)) pe_int (nomark _)) (pw_or1 (pt_not (pt_val (pe_call GN hr2 (by rfl) gN FN.kp bN .nil pass0 (pa_cons (pe_ix ix_tup (pv 2) pe_int (fun _ _ => rfl)) (pa_cons (pe_callB call_len_seq (by rfl) T.z_len (by decide +kernel) (pa_cons (pv 1) pa_nil)) pa_nil))))))))) (pss_one (ps_ret pe_non)) pss_nil)
      (Evl.pss_cut (ps_if (PW.pt (pw_or (pt_not (pt_val (pe_call GN hr2 (by rfl) gN FN.kp bN .nil pass0 (pa_cons (pe_ix ix_tup (pv 2) pe_int (fun _ _ => rfl)) (pa_cons (pe_callB call_len_seq (by rfl) T.z_len (by decide +kernel) (pa_cons (pv 1) pa_nil)) pa_nil))))) (pw_or1 (pt_not (pt_val (pe_call GW hr1 (by rfl) gW FW.kp bW .nil pass0 (pa_cons (pe_ix ix_tup (pv 2) pe_int (fun _ _ => rfl)) pa_nil))))))) (pss_one (ps_ret pe_non)) pss_nil)
      (Evl.pss_cut (ps_asg (pe_tupN (pa_cons (pe_ix ix_list (pv 1) (pe_ix ix_tup (pv 2) pe_int (fun _ _ => rfl)) (fun _ _ => rfl)) (pa_cons (pe_ix ix_list (pv 1) (pe_ix ix_tup (pv 2) pe_int (fun _ _ => rfl)) (fun _ _ => rfl)) (pa_cons (pe_ix ix_tup (pv 2) pe_int (fun _ _ => rfl)) pa_nil)))) (pg_tup rfl (pgs_cons (pg_name (i := 3) scRcl.nd rfl (.inr rfl)) (pgs_cons (pg_name (i := 4) scRcl.nd rfl (.inl rfl)) (pgs_cons (pg_name (i := 5) scRcl.nd rfl (.inr rfl)) pgs_nil)))))
      (Evl.pss_cut (ps_if (PW.pt (pw_or (pt_not (pt_chain op_le op_le pe_int (pv 5) pe_int)) (pw_or (pt_cmpR op_notIn_seq (pv 5) (pv 3) (by rfl)) (pw_or1 (pt_cmpR op_notIn_seq (pe_op op_sub pe_int (pv 5)) (pv 4) (by rfl)))))) (pss_one (ps_ret pe_non)) pss_nil)
      (Evl.pss_cut (ps_set (i := 6) scRcl.nd rfl (.inr rfl) (pe_op op_catN (pe_lc (own := [("say", 7)]) (g := (gName 7))  rfl scRcl.nd (pi_tup (pv 3)) (blkOk_by (N := nRcl) (sc := defScope sRcl) (by decide +kernel)) (fun _ _ _ _ _ => (pg_name (i := 7) scRcl.nd rfl (.inl rfl))) (fun _ _ _ _ _ => (pts_one (pt_cmpR op_ne (pv 7) (pv 5) (nomark _)))) (fun _ _ _ _ _ => (pv 7))) (pe_lc (own := [("say", 7)]) (g := (gName 7))  rfl scRcl.nd (pi_tup (pv 4)) (blkOk_by (N := nRcl) (sc := defScope sRcl) (by decide +kernel)) (fun _ _ _ _ _ => (pg_name (i := 7) scRcl.nd rfl (.inl rfl))) (fun _ _ _ _ _ => (pts_one (PW.pt (pw_and (pt_cmpR op_ne (pv 7) (pe_op op_sub pe_int (pv 5)) (nomark _)) (pw_and1 (pt_cmpR (op_notIn_seqB (K := K) rfl) (pv 7) (pv 3) (by rfl))))))) (fun _ _ _ _ _ => (pv 7)))))
      (Evl.pss_cut (ps_if (pt_val (pe_callB (cr_any rfl) (by rfl) T.z_any (by decide +kernel) (pa_cons (pe_lc (own := [("say", 7)]) (g := (gName 7)) (tt := tYes) rfl scRcl.nd (pi_list (pv 6)) (blkOk_by (N := nRcl) (sc := defScope sRcl) (by decide +kernel)) (fun _ _ _ _ _ => (pg_name (i := 7) scRcl.nd rfl (.inl rfl))) (fun _ _ _ _ _ => pts_nil) (fun _ _ _ _ _ => (pe_cmpR (op_in_seqB (K := K) rfl) (pe_op op_sub pe_int (pv 7)) (pv 6) (by rfl)))) pa_nil))) (pss_one (ps_ret pe_non)) pss_nil)
      (pss_one (ps_ret (pe_callTy call_tuple_ofN (by rfl) T.z_tuple (by decide +kernel) (pa_cons (pe_callB cr_sortedN (by rfl) T.z_sorted (by decide +kernel) (pa_cons (pv 6) pa_nil)) pa_nil)))))))))))), ?_⟩
    refine Evl.q_cut (M := fun σ' G => σ' = some (.ref ba) :: some (.ref C) :: some (.ref p) :: List.replicate 5 none ∧ H = G) ?_ ?_
    · refine ⟨_, rfl, .ref p, .ty "tuple", .type "tuple", .type "tuple", true, rfl, .ty _, .base (.tup hp), kit_ty (by decide +kernel), true, rfl, ?_⟩
      refine ⟨_, rfl, p, _, rfl, .inr (.of hp), rfl, false, ?_, rfl, rfl⟩
      cases r <;> rfl
    rintro σ' G ⟨rfl, rfl⟩
    have bk : decide (V.str "book" = V.str "book") = true := decide_eq_true rfl
    have cb : decide (V.str "cut" = V.str "book") = false := decide_eq_false fun e => absurd (V.str.inj e) (by decide +kernel)
    have cc : decide (V.str "cut" = V.str "cut") = true := decide_eq_true rfl
    cases r with
    | book n =>
      have hc : css[n]? = some c := rc
      have ln := (List.getElem?_eq_some_iff.mp hc).1
      have hv := List.getElem?_eq_getElem (show n < bvs.length by omega)
      generalize bvs[n]'(by omega) = u at hv
      refine Evl.q_cut (M := fun _ _ => False) ?_ fun _ _ z => z.elim
      refine ⟨_, rfl, p, _, 0, .str "book", rfl, rfl, .of hp, rfl, rfl, true, by rw [bk], ?_⟩
      refine ⟨_, rfl, p, _, rfl, .inr (.of hp), rfl, true, rfl, ?_⟩
      refine ⟨_, rfl, p, _, 1, _, rfl, rfl, .of hp, rfl, _, rfl, ba, _, rfl, .inr (.of hB), n, bvs.length, rfl, by omega, true, rfl, ?_⟩
      refine ⟨_, rfl, _, rfl, p, _, 1, _, rfl, rfl, .of hp, rfl, ba, _, _, u, rfl, rfl, .of hB, at_of (j := n) rfl hv, ?_⟩
      exact q1 u H (Same.refl _) (aB n u c hv hc)
    | cut i j k =>
      obtain ⟨a, b, ha, hb, k1, ka, kb, no, up, me'⟩ := rc
      have li := (List.getElem?_eq_some_iff.mp ha).1
      have lj := (List.getElem?_eq_some_iff.mp hb).1
      have oa := oc a (List.mem_of_getElem? ha)
      have ob' := oc b (List.mem_of_getElem? hb)
      have k8 := (oa.says k ka).2.2
      have va := List.getElem?_eq_getElem (show i < cvs.length by omega)
      have vb := List.getElem?_eq_getElem (show j < cvs.length by omega)
      generalize cvs[i]'(by omega) = x at va
      generalize cvs[j]'(by omega) = y at vb
      obtain ⟨ax, rfl, hx⟩ := aC.2 i x a va ha
      obtain ⟨ay, rfl, hy⟩ := aC.2 j y b vb hb
      -- not of the book
      refine Evl.q_cut (M := fun σ' G => σ' = some (.ref ba) :: some (.ref C) :: some (.ref p) :: List.replicate 5 none ∧ H = G) ?_ ?_
      · exact ⟨_, rfl, p, _, 0, .str "cut", rfl, rfl, .of hp, rfl, rfl, false, by rw [cb], rfl, rfl⟩
      rintro σ' G ⟨rfl, rfl⟩
      refine Evl.q_cut (M := fun σ' G => σ' = some (.ref ba) :: some (.ref C) :: some (.ref p) :: List.replicate 5 none ∧ H = G) ?_ ?_
      · refine ⟨_, rfl, p, _, 0, .str "cut", rfl, rfl, .of hp, rfl, rfl, false, by rw [cc]; rfl, ?_⟩
        refine ⟨_, rfl, p, _, rfl, .inr (.of hp), rfl, false, rfl, ?_⟩
        exact ⟨_, rfl, p, _, 1, _, rfl, rfl, .of hp, rfl, _, rfl, C, _, rfl, .inl (.of hC), i, cvs.length, rfl, by omega, true, rfl, rfl, rfl⟩
      rintro σ' G ⟨rfl, rfl⟩
      refine Evl.q_cut (M := fun σ' G => σ' = some (.ref ba) :: some (.ref C) :: some (.ref p) :: List.replicate 5 none ∧ H = G) ?_ ?_
      · refine ⟨_, rfl, p, _, 2, _, rfl, rfl, .of hp, rfl, _, rfl, C, _, rfl, .inl (.of hC), j, cvs.length, rfl, by omega, true, rfl, ?_⟩
        exact ⟨_, rfl, p, _, 3, _, rfl, rfl, .of hp, rfl, _, rfl, true, rfl, rfl, rfl⟩
      rintro σ' G ⟨rfl, rfl⟩
      -- the two claims
      refine Evl.q_cut (M := fun σ' G => σ' = [some (.ref ba), some (.ref C), some (.ref p), some (.ref ax), some (.ref ay), some (.int k), none, none] ∧ Same H G) ?_ ?_
      · refine ⟨_, rfl, _, rfl, p, _, 1, _, rfl, rfl, .of hp, rfl, C, _, _, .ref ax, rfl, rfl, .of hC, at_of (j := i) rfl va, ?_⟩
        refine ⟨_, rfl, _, rfl, p, _, 2, _, rfl, rfl, .of hp, rfl, C, _, _, .ref ay, rfl, rfl, .of hC, at_of (j := j) rfl vb, ?_⟩
        refine ⟨_, rfl, p, _, 3, _, rfl, rfl, .of hp, rfl, by show 3 ≤ sizeLine; decide, fun t G nt s1 ht _ => ?_⟩
        exact ⟨t, _, rfl, .of ht, rfl, _, _, rfl, _, _, rfl, _, _, rfl, rfl, rfl, s1⟩
      rintro σ' H1 ⟨rfl, s1⟩
      have hx1 := s1 _ _ hx
      have hy1 := s1 _ _ hy
      refine Evl.q_cut (M := fun σ' G => σ' = [some (.ref ba), some (.ref C), some (.ref p), some (.ref ax), some (.ref ay), some (.int k), none, none] ∧ H1 = G) ?_ ?_
      · refine ⟨_, rfl, _, _, rfl, rfl, true, ?_, _, _, rfl, rfl, true, ?_, ?_⟩
        · show V.bl (decide ((1 : Int) ≤ k)) = _
          rw [decide_eq_true k1]
        · show V.bl (decide (k ≤ (8 : Int))) = _
          rw [decide_eq_true k8]
        refine ⟨_, rfl, _, rfl, ax, _, rfl, .inr (.of hx1), rfl, ints_flat a, _, rfl, ite2 (fun e => absurd ka (not_in.mp e)) (fun _ => ?_)⟩
        refine ⟨_, rfl, _, _, rfl, rfl, _, rfl, ay, _, rfl, .inr (.of hy1), rfl, ints_flat b, _, rfl, ite2 (fun e => ?_) (fun e => ⟨rfl, rfl⟩)⟩
        exact absurd kb (by rw [← show (0 : Int) - k = -k by omega]; exact not_in.mp e)
      rintro σ' G ⟨rfl, rfl⟩
      have me : ∀ j, j ∈ restC k a b ↔ Bes a b k j := fun j => mem_rest oa ob' ka kb k1
      have rl := rest_len (k := k) oa ob'
      have la := oa.len
      have lb := ob'.len
      -- what is left
      refine Evl.q_cut (M := fun σ' G => ∃ (R : Addr) (z7 : Option V), σ' = [some (.ref ba), some (.ref C), some (.ref p), some (.ref ax), some (.ref ay), some (.int k), some (.ref R), z7] ∧ Same H1 G ∧ G R = some (.lst ((restC k a b).map V.int))) ?_ ?_
      · refine ⟨_, rfl, ax, rfl, ⟨_, .of hx1⟩, fun D nD => ?_⟩
        refine lc_tup (xs := a.map V.int) (Pv := fun i H' => Same H1 H' ∧ H' D = some (.lst (((a.take i).filter fun s => !decide (V.int s = V.int k)).map V.int))) ⟨same_new nD, upd_same⟩ (fun i H' _ z => .of (z.1 _ _ hx1)) ?_ ?_
        · rintro i x H2 hz ⟨s2, hD⟩
          obtain ⟨z, hw, rfl⟩ := at_int hz
          have ft := filt_take (f := fun s : Int => !decide (V.int s = V.int k)) hw
          refine ⟨rfl, _, rfl, _, rfl, rfl, _, rfl, ite2 (fun y1 => ?_) (fun y1 => ?_)⟩
          · refine ⟨_, rfl, _, hD, small1000 (by rw [List.length_map]; exact Nat.le_trans (List.length_filter_le _ _) (by rw [List.length_take]; omega)), same_wr s2 nD, ?_⟩
            rw [upd_same, ft, if_pos y1, List.map_append]
            rfl
          · refine ⟨s2, ?_⟩
            rw [ft, if_neg y1, List.append_nil]
            exact hD
        rintro H2 ⟨s2, hD⟩
        rw [List.length_map, List.take_length] at hD
        have hx2 := s2 _ _ hx1
        have hy2 := s2 _ _ hy1
        refine ⟨_, rfl, ay, rfl, ⟨_, .of hy2⟩, fun D2 nD2 => ?_⟩
        refine lc_tup (xs := b.map V.int) (Pv := fun i H' => Same H2 H' ∧ H' D2 = some (.lst (((b.take i).filter fun s => !decide (V.int s = V.int (0 - k)) && !inV (.int s) (a.map V.int)).map V.int))) ⟨same_new nD2, upd_same⟩ (fun i H' _ z => .of (z.1 _ _ hy2)) ?_ ?_
        · rintro i x H3 hz ⟨s3, hD2⟩
          obtain ⟨z, hw, rfl⟩ := at_int hz
          have ft := filt_take (f := fun s : Int => !decide (V.int s = V.int (0 - k)) && !inV (.int s) (a.map V.int)) hw
          have keep : (!decide (V.int z = V.int (0 - k)) && !inV (.int z) (a.map V.int)) = true → ∃ acc, H3 D2 = some (.lst acc) ∧ acc.length < sizeLine ∧ (Same H2 (upd H3 D2 (.lst (acc ++ [.int z]))) ∧ (upd H3 D2 (.lst (acc ++ [.int z]))) D2 = some (.lst (((b.take (i + 1)).filter fun s => !decide (V.int s = V.int (0 - k)) && !inV (.int s) (a.map V.int)).map V.int))) := fun y1 => by
            refine ⟨_, hD2, small1000 (by rw [List.length_map]; exact Nat.le_trans (List.length_filter_le _ _) (by rw [List.length_take]; omega)), same_wr s3 nD2, ?_⟩
            rw [upd_same, ft, if_pos y1, List.map_append]
            rfl
          have skip : ¬ (!decide (V.int z = V.int (0 - k)) && !inV (.int z) (a.map V.int)) = true → Same H2 H3 ∧ H3 D2 = some (.lst (((b.take (i + 1)).filter fun s => !decide (V.int s = V.int (0 - k)) && !inV (.int s) (a.map V.int)).map V.int)) := fun y1 => by
            refine ⟨s3, ?_⟩
            rw [ft, if_neg y1, List.append_nil]
            exact hD2
          refine ⟨rfl, _, rfl, _, rfl, _, _, rfl, rfl, rfl, _, rfl, ite2 (fun y1 => ?_) (fun y1 => ite2 (fun z => nomatch z) fun _ => skip fun z => y1 (Bool.and_eq_true_iff.mp z).1)⟩
          refine ⟨_, rfl, _, rfl, ax, _, rfl, .inr (.of (s3 _ _ hx2)), rfl, ints_flat a, _, rfl, ite2 (fun y2 => ?_) (fun y2 => skip fun z => y2 (Bool.and_eq_true_iff.mp z).2)⟩
          exact ⟨_, rfl, keep (Bool.and_eq_true_iff.mpr ⟨y1, y2⟩)⟩
        rintro H3 ⟨s3, hD2⟩
        rw [List.length_map, List.take_length] at hD2
        refine ⟨D, D2, _, _, rfl, rfl, s3 _ _ hD, hD2, Nat.le_trans (?_ : _ ≤ 1000) (by decide), fun R H4 nR s4 hR _ => ?_⟩
        · rw [List.length_map, List.length_map]
          have := rl
          unfold restC at this
          rw [List.length_append] at this
          omega
        · refine ⟨R, _, rfl, s2.trans (s3.trans s4), ?_⟩
          rw [hR, ← List.map_append]
          rfl
      rintro σ' H2 ⟨R, z7, rfl, s2, hR⟩
      have nr := nodup_rest (k := k) oa ob'
      generalize restC k a b = rs at hR me rl nr
      -- no two of opposite
      refine Evl.q_cut (M := fun σ' G => ∃ z7 : Option V, σ' = [some (.ref ba), some (.ref C), some (.ref p), some (.ref ax), some (.ref ay), some (.int k), some (.ref R), z7] ∧ Same H2 G) ?_ ?_
      · refine ⟨_, rfl, R, rfl, ⟨_, .of hR⟩, fun D nD => ?_⟩
        refine lc_list (xs := rs.map V.int) (Pv := fun i H' => Same H2 H' ∧ H' D = some (.lst (((rs.take i).map fun s => inV (.int (0 - s)) (rs.map V.int)).map V.bl))) ⟨same_new nD, upd_same⟩ (fun i H' _ z => .of (z.1 _ _ hR)) ?_ ?_
        · rintro i x H3 hz ⟨s3, hD⟩
          obtain ⟨z, hw, rfl⟩ := at_int hz
          refine ⟨rfl, _, rfl, _, _, rfl, rfl, _, rfl, R, _, rfl, .inl (.of (s3 _ _ hR)), rfl, ints_flat rs, ?_⟩
          refine ⟨_, hD, small1000 (by rw [List.length_map, List.length_map, List.length_take]; omega), same_wr s3 nD, ?_⟩
          rw [upd_same, List.take_add_one, hw, List.map_append, List.map_append]
          rfl
        rintro H3 ⟨s3, hD⟩
        rw [List.length_map, List.take_length] at hD
        refine ⟨D, _, rfl, .of hD, _, rfl, ite2 (fun e => ?_) (fun e => ⟨_, rfl, s3⟩)⟩
        obtain ⟨t, ht, e⟩ := List.any_eq_true.mp e
        obtain ⟨j, hj, rfl⟩ := List.mem_map.mp ht
        have e : inV (.int (0 - j)) (rs.map V.int) = true := e
        rw [in_ints, show 0 - j = -j by omega] at e
        exact absurd ((me (-j)).mp e) (no j ((me j).mp hj))
      rintro σ' H3 ⟨z7', rfl, s3⟩
      refine ⟨_, rfl, R, rs, rfl, .of (s3 _ _ hR), fun ns pm so S H4 nS s4 hS _ => ⟨S, _, rfl, .of hS, fun t H5 nt s5 ht _ => ?_⟩⟩
      have up2 := lt_of_le so (pm.nodup_iff.mpr nr)
      obtain rfl : ns = c := up_unique up2 up fun j => ((pm.mem_iff).trans (me j)).trans (me' j).symm
      exact q1 (.ref t) H5 (s1.trans (s2.trans (s3.trans (s4.trans s5)))) ⟨t, rfl, ht⟩
abbrev sEcs : Stmt := topS 57
theorem scEcs : FnScope ["book", "ladder", "claims", "row", "claim"] ["book", "ladder"] (defScope sEcs) := ⟨rfl, rfl, rfl, by decide +kernel, rfl, by decide +kernel, by decide +kernel⟩
def spEcs : Sp := fun vs H Q _ => ∃ (b : V) (R : Addr) (css cls : List (List Int)) (rows : List Rw), vs = [b, .ref R] ∧ Bk H b css ∧ RwL H R rows ∧ Lad css rows cls ∧ (∀ c ∈ css, IsCl c) ∧ 1 ≤ rows.length ∧ rows.length ≤ 200 ∧ ∀ (D : Addr) H', H D = none → Same H H' → ClL H' D cls → Q (.ref D) H'
theorem ok_ecs {f fC : Addr} {fd fdC : FuncData} {k : Nat} (F : Fun K "_law_e_claims" "_law_e_claims" sEcs f fd) (T : Zl mg)
    (FC : Fun K "_law_e_row_claim" "_law_e_row_claim" sRcl fC fdC) (bC : Binds K fdC ["book", "claims", "row"] []) (gC : mg "_law_e_row_claim" = some (.ref fC)) (GC : FnOk P w K mg base CX0 3 fC fdC ["book", "claims", "row"] spErc) :
    FnOk P w K mg base CX0 (k + 4) f fd ["book", "ladder"] spEcs := by
  refine F.ok scEcs (fun vs H Q E h => ?_) (fun cdv A outer s H vs Q E hr h => ?_)
  · obtain ⟨b, R, css, cls, rows, rfl, _⟩ := h
    rfl
  · obtain ⟨b, R, css, cls, rows, rfl, hb, ⟨rvs, hR, aR⟩, ld, ib, r1, r2, q⟩ := h
    have hr3 : Room 3 _ := hr.mono (by omega)
    have lr := aR.1
    have ll := ld.1
    refine ⟨_, (Evl.pss_cut (ps_if (PW.pt (pw_or (pt_not (pt_val (pe_callB call_isi (by rfl) T.z_isinstance (by decide +kernel) (pa_cons (pv 1) (pa_cons (pe_bltn (v := .ty "list") (u := .type "list") (by rfl) T.z_list (by decide +kernel) rfl) pa_nil))))) (pw_or1 (pt_not (pt_chain op_le op_le pe_int (pe_callB call_len_seq (by rfl) T.z_len (by decide +kernel) (pa_cons (pv 1) pa_nil)) pe_int))))) (pss_one (ps_ret pe_non)) pss_nil)
      (Evl.pss_cut (ps_set (i := 2) scEcs.nd rfl (.inl rfl) (pe_lstN pa_nil))
      (Evl.pss_cut (ps_for PassesOwn.never rfl (pi_list (pv 1)) (pg_name (i := 3) scEcs.nd rfl (.inl rfl)) (pss_cons (ps_set (i := 4) scEcs.nd rfl (.inl rfl) (pe_call GC hr3 (by rfl) gC FC.kp bC .nil pass0 (pa_cons (pv 0) (pa_cons (pv 2) (pa_cons (pv 3) pa_nil)))))
      (pss_cons (ps_if (pt_cmpR op_isN (pv 4) pe_non (nomark _)) (pss_one (ps_ret pe_non)) pss_nil)
      (pss_one (ps_expr (pe_bm PySem.F.plainAttrs_list PySem.F.slot_list_append PySem.F.type_list_append mt_append (pv 2) (pa_cons (pv 4) pa_nil)))))))
      (pss_one (ps_ret (pv 2)))))), ?_⟩
    refine Evl.q_cut (M := fun σ' G => σ' = [some b, some (.ref R), none, none, none] ∧ H = G) ?_ ?_
    · refine ⟨_, rfl, .ref R, .ty "list", .type "list", .type "list", true, rfl, .ty _, .base (.lst hR), kit_ty (by decide +kernel), true, rfl, ?_⟩
      refine ⟨_, rfl, R, _, rfl, .inl (.of hR), _, _, rfl, rfl, true, ?_, _, _, rfl, rfl, true, ?_, rfl, rfl⟩
      · show V.bl (decide ((1 : Int) ≤ ((rvs.length : Nat) : Int))) = _
        rw [decide_eq_true (by omega)]
      · show V.bl (decide (((rvs.length : Nat) : Int) ≤ (200 : Int))) = _
        rw [decide_eq_true (by omega)]
    rintro σ' G ⟨rfl, rfl⟩
    refine Evl.q_cut (M := fun σ' G => ∃ D : Addr, σ' = [some b, some (.ref R), some (.ref D), none, none] ∧ H D = none ∧ Same H G ∧ ClL G D []) ?_ ?_
    · exact ⟨Nat.zero_le _, fun D G nD s1 hD _ => ⟨D, rfl, nD, s1, [], hD, .nil⟩⟩
    rintro σ' H1 ⟨D, rfl, nD, s1, hD1⟩
    refine Evl.q_cut (M := fun σ' G => ∃ (y3 y4 : Option V), σ' = [some b, some (.ref R), some (.ref D), y3, y4] ∧ Same H G ∧ ClL G D cls) ?_ ?_
    · refine ⟨_, rfl, R, rfl, ⟨_, .of (s1 _ _ hR)⟩, for_list (xs := rvs) (Pv := fun i σ G => ∃ (y3 y4 : Option V), σ = [some b, some (.ref R), some (.ref D), y3, y4] ∧ Same H G ∧ ClL G D (cls.take i)) ⟨none, none, rfl, s1, hD1⟩ (fun i σ G _ z => ?_) ?_ ?_⟩
      · obtain ⟨_, _, _, s, _⟩ := z
        exact .of (s _ _ hR)
      · rintro i v σ G hv ⟨y3, y4, rfl, s2, hD⟩
        have lv := (List.getElem?_eq_some_iff.mp hv).1
        have hrr := List.getElem?_eq_getElem (show i < rows.length by omega)
        have hcc := List.getElem?_eq_getElem (show i < cls.length by omega)
        generalize rows[i]'(by omega) = r at hrr
        generalize cls[i]'(by omega) = c at hcc
        have rv := aR.2 i v r hv hrr
        have rc := ld.2 i r c hrr hcc
        have k2 : Ke Nof H G := .same s2
        refine ⟨_, rfl, _, rfl, _, rfl, b, D, v, css, cls.take i, r, c, rfl, hb.ke k2, hD, rv.ke k2, ib, fun x hx => ld.isCl ib x (List.mem_of_mem_take hx), rc, fun u G2 s3 tu => ?_⟩
        obtain ⟨ua, rfl, hu⟩ := tu
        obtain ⟨dvs, hDv, aD⟩ := hD
        have ld' := aD.1
        rw [List.length_take] at ld'
        have hD3 := s3 _ _ hDv
        refine ⟨_, rfl, rfl, false, rfl, ?_⟩
        refine ⟨_, rfl, .inl ⟨rfl, _, .of hD3⟩, _, rfl, D, _, _, rfl, rfl, hD3, small1000 (by omega), _, _, rfl, same_wr (s2.trans s3) nD, ?_⟩
        rw [List.take_add_one, hcc]
        exact cl_snoc hD3 (aD.imp fun _ _ t => t.ke (.same s3) (F := Nof)) ⟨ua, rfl, hu⟩
      · rintro σ G ⟨y3, y4, rfl, s2, hD⟩
        rw [lr, ll, List.take_length] at hD
        exact ⟨y3, y4, rfl, s2, hD⟩
    rintro σ' G ⟨y3, y4, rfl, s2, hD⟩
    exact ⟨_, rfl, q D G nD s2 hD⟩
abbrev sWid : Stmt := topS 58
abbrev nWid : List Str := ["one", "other", "say"]
theorem scWid : FnScope nWid ["one", "other"] (defScope sWid) := ⟨rfl, rfl, rfl, by decide +kernel, rfl, by decide +kernel, by decide +kernel⟩
def spWid : Sp := fun vs H Q _ => ∃ (u v : V) (d c : List Int), vs = [u, v] ∧ TupI H u d ∧ TupI H v c ∧ (∀ y ∈ d, y ∈ c) ∧ d.length ≤ 20 ∧ ∀ H', Same H H' → Q (.bl true) H'
theorem ok_wid {f : Addr} {fd : FuncData} {k : Nat} (F : Fun K "_law_e_wide" "_law_e_wide" sWid f fd) (T : Zl mg) : FnOk P w K mg base CX0 (k + 1) f fd ["one", "other"] spWid := by
  refine F.ok scWid (fun vs H Q E h => ?_) (fun cdv A outer s H vs Q E hr h => ?_)
  · obtain ⟨u, v, d, c, rfl, _⟩ := h
    rfl
  · obtain ⟨u, v, d, c, rfl, ⟨ua, rfl, hu⟩, ⟨va, rfl, hv⟩, sub, l20, q⟩ := h
    refine ⟨_, (pss_one (ps_ret (pe_callB (cr_all rfl) (by rfl) T.z_all (by decide +kernel) (pa_cons (pe_lc (own := [("say", 2)]) (g := (gName 2)) (tt := tYes) rfl scWid.nd (pi_tup (pv 0)) (blkOk_by (N := nWid) (sc := defScope sWid) (by decide +kernel)) (fun _ _ _ _ _ => (pg_name (i := 2) scWid.nd rfl (.inl rfl))) (fun _ _ _ _ _ => pts_nil) (fun _ _ _ _ _ => (pe_cmpR (op_in_seqB (K := K) rfl) (pv 2) (pv 1) (by rfl)))) pa_nil)))), ?_⟩
    refine ⟨_, rfl, ua, rfl, ⟨_, .of hu⟩, fun D nD => ?_⟩
    refine lc_tup (xs := d.map V.int) (Pv := fun i G => Same H G ∧ G D = some (.lst ((List.replicate i true).map V.bl))) ⟨same_new nD, upd_same⟩ (fun i G _ z => .of (z.1 _ _ hu)) ?_ ?_
    · rintro i x G hx ⟨s2, hD⟩
      obtain ⟨z, hz, rfl⟩ := at_int hx
      have lz := (List.getElem?_eq_some_iff.mp hz).1
      refine ⟨rfl, _, rfl, _, rfl, va, _, rfl, .inr (.of (s2 _ _ hv)), rfl, ints_flat c, ?_⟩
      refine ⟨_, hD, small1000 (by rw [List.length_map, List.length_replicate]; omega), same_wr s2 nD, ?_⟩
      rw [upd_same, List.replicate_succ', List.map_append]
      show some (HO.lst (_ ++ [V.bl (inV (.int z) (c.map V.int))])) = _
      rw [(in_ints z c).mpr (sub z (List.mem_of_getElem? hz))]
      rfl
    · rintro G ⟨s2, hD⟩
      refine ⟨D, _, rfl, .of hD, ?_⟩
      have e : ∀ n : Nat, (List.replicate n true).all id = true := fun n => by
        rw [List.all_eq_true]
        intro x hx
        rw [List.eq_of_mem_replicate hx]
        rfl
      rw [e]
      exact q G s2
end
end Ml
namespace Mr
open PySem PySem.Spec PyProof.Rows L2 GxR Nw Dr Kp Se Ct Lr Lp Fo Te Mw Mp Ml
/-! ### a telling made whole looked at; a telling refused (k53) -/
theorem passF {X : Cx} : Passes (L2.CX X.prog X.w) X (fun _ _ _ => False) := fun _ _ _ _ _ _ _ h => by
  obtain ⟨_, _, _, _, _, _, _, _, _, _, _, _, z⟩ := h
  exact z.elim
theorem takes0 {X : Cx} : Takes X (fun _ _ _ _ => False) := fun _ _ x => by
  obtain ⟨_, _, _, _, _, _, _, _, _, _, _, _, _, _, _, _, z⟩ := x
  exact z.elim
/-- isinstance(e, c) within the suite of the caught error, which has no field -/
def rIsN (K : PySem.W.Frag) (cls : Value) (d : Option Addr) (a : Addr) : List V → Hp → VK → Prop := fun xs H Q => ∃ (D : Addr) (c : V) (cv : Value) (b : Bool), xs = [.ref a, c] ∧ cls = .ref D ∧ d = none ∧ ExcC K D ∧ (∀ u, RelV c u → u = cv) ∧ PySem.W.kitOne K (.ref D) cv = some b ∧ Q (.bl b) H
def rIsNT (K : PySem.W.Frag) (cls : Value) (d : Option Addr) (a : Addr) : List V → Hp → VK → Prop := fun xs H Q => ∃ (D tp : Addr) (cs : List V) (us : List Value) (b : Bool), xs = [.ref a, .ref tp] ∧ cls = .ref D ∧ d = none ∧ ExcC K D ∧ H tp = some (.tup cs) ∧ Paired ClsV cs us ∧ PySem.W.kitAny K (.ref D) us = some b ∧ Q (.bl b) H
section
variable {X : Cx} {a : Addr} {oe : Obj} {cls : Value} {d : Option Addr} {pn : List (Addr × Obj)}
theorem inst_n {pins : List (Addr × Obj)} {σ : L2.St} {H : Hp} {s : Shared} {D : Addr} (I : Inv (X.suite a ((a, oe) :: pn)) pins σ H s) (hz : Zc (.ref D) none oe) (hf : ∃ vs, oe.data = .fields vs) : PySem.W.InstAt s.heap a oe D none := by
  obtain ⟨ha, _⟩ := I.pin (a, oe) (List.mem_append_left _ List.mem_cons_self)
  obtain ⟨vs, hd⟩ := hf
  exact ⟨ha, hz.1, by unfold PySem.W.notCls; rw [hd] <;> rfl, by rw [hz.2]; trivial⟩
theorem exc_cls {K : PySem.W.Frag} {D : Addr} (C : ExcC K D) : (PySem.W.clsIn K D).isSome = true := by
  obtain ⟨cd, hc, _⟩ := PySem.W.any_some C.hd
  rw [hc]
  rfl
theorem call_isN (hz : Zc cls d oe) (hf : ∃ vs, oe.data = .fields vs) : CallR (X.suite a ((a, oe) :: pn)) (.builtin "isinstance") (rIsN X.K cls d a) := by
  intro pins s σ H xs us Q I r h
  obtain ⟨D, c, cv, b, rfl, rfl, rfl, C, hcv, e, q⟩ := h
  obtain ⟨u1, u2, rfl, r1, r2⟩ := vals2 r
  cases (show u1 = Value.ref a from r1)
  have ec := hcv _ r2
  subst ec
  have J := inst_n I hz hf
  exact PySem.W.kia_one (PySem.W.kitx_exc (exc_cls C) C.hg C.hk C.hs C.ha C.hn C.ht C.hm) I.kIn J e (fun z => nomatch z) fun tk => ⟨.bl b, H, I.tok tk, rfl, q⟩
theorem call_isNT (hz : Zc cls d oe) (hf : ∃ vs, oe.data = .fields vs) : CallR (X.suite a ((a, oe) :: pn)) (.builtin "isinstance") (rIsNT X.K cls d a) := by
  intro pins s σ H xs us Q I r h
  obtain ⟨D, tp, cs, ws, b, rfl, rfl, rfl, C, hT, k, e, q⟩ := h
  obtain ⟨u1, u2, rfl, r1, r2⟩ := vals2 r
  cases (show u1 = Value.ref a from r1)
  cases (show u2 = Value.ref tp from r2)
  have J := inst_n I hz hf
  obtain ⟨_, its, rv, o, h1, h2, n, h3⟩ := (show ObjOk X.prog X.w H s.heap tp (.tup cs) from I.hok tp _ hT)
  have e3 := ClsV.all k rv
  subst e3
  obtain ⟨oc, od', dt, sl⟩ := o
  simp only at h2 h3
  subst h2 h3
  exact PySem.W.kia_tup (PySem.W.kitx_exc (exc_cls C) C.hg C.hk C.hs C.ha C.hn C.ht C.hm) I.kIn J h1 e (fun z => nomatch z) fun tk => ⟨.bl b, H, I.tok tk, rfl, q⟩
end
/-- the eight other refusals -/
abbrev nm8 : List Str := ["NoBack", "NoCut", "NoInstead", "NoLadder", "NoRow", "NoText", "TooGreat", "TooMany"]
structure Oth (K : PySem.W.Frag) (mg : Str → Option Value) (C S : Addr) (oc : Nat → Addr) : Prop where
  gS : mg "SpareError" = some (.ref S)
  xS : PySem.W.exmOne K (.ref C) (.ref S) = some true
  go : ∀ i x, nm8[i]? = some x → mg x = some (.ref (oc i))
  no : ∀ i, i < 8 → PySem.W.kitOne K (.ref C) (.ref (oc i)) = some false
  me : PySem.W.kitOne K (.ref C) (.ref C) = some true
  kv : PySem.W.kitOne K (.ref C) (.type "ValueError") = some true
  ec : ExcC K C
  z_isinstance : mg "isinstance" = none
  z_ValueError : mg "ValueError" = none
theorem kit8 {K : PySem.W.Frag} {t : Value} : ∀ {us : List Value}, (∀ u ∈ us, PySem.W.kitOne K t u = some false) → PySem.W.kitAny K t us = some false
  | [], _ => rfl
  | u :: r, h => kitAny_cons (h u List.mem_cons_self) (fun _ => kit8 fun v hv => h v (List.mem_cons_of_mem _ hv)) nofun
structure Zq (mg : Str → Option Value) : Prop where
  z_len : mg "len" = none
  z_isinstance : mg "isinstance" = none
  z_tuple : mg "tuple" = none
  z_list : mg "list" = none
  z_zip : mg "zip" = none
/-- what both ask of the book and the telling -/
structure Ask (H : Hp) (v : V) (t : Addr) (tvs : List V) (css tss : List (List Int)) (Ph Po : Addr) : Prop where
  b : Bk H v css
  l : Lc H t tvs tss
  ib : ∀ c ∈ css, IsCl c
  it : ∀ c ∈ tss, IsCl c
  c1 : 1 ≤ css.length
  c16 : css.length ≤ 16
  n2 : tss ≠ []
  l12 : tss.length ≤ 12
  th : TabG H Ph
  to : TabG H Po
section
variable {P : Program} {w : World} {K : PySem.W.Frag} {mg : Str → Option Value} {base : Heap}
abbrev sWhr : Stmt := topS 60
theorem scWhr : FnScope ["book", "telling", "told", "claims", "number", "claim"] ["book", "telling"] (defScope sWhr) := ⟨rfl, rfl, rfl, by decide +kernel, rfl, by decide +kernel, by decide +kernel⟩
def spWhr (Ph Po : Addr) : Sp := fun vs H Q _ => ∃ (v : V) (t : Addr) (tvs : List V) (css tss : List (List Int)), vs = [v, .ref t] ∧ Ask H v t tvs css tss Ph Po ∧ NoWr css tss ∧ ∀ H', Ke Nof H H' → Q (.bl true) H'
theorem ok_whr {f fM fC fN fV C' Ph Po : Addr} {fd fdM fdC fdN fdV : FuncData} {k : Nat} (F : Fun K "_law_e_whole_right" "_law_e_whole_right" sWhr f fd) (T : Zq mg)
    (FM : Fun K "made_whole" "made_whole" sMwh fM fdM) (bM : Binds K fdM ["book", "telling"] []) (gM : mg "made_whole" = some (.ref fM)) (GM : FnOk P w K mg base (L2.CX P w) 9 fM fdM ["book", "telling"] (spMwh C' Ph Po))
    (FC : Fun K "_law_e_claims" "_law_e_claims" sEcs fC fdC) (bC : Binds K fdC ["book", "ladder"] []) (gC : mg "_law_e_claims" = some (.ref fC)) (GC : FnOk P w K mg base CX0 4 fC fdC ["book", "ladder"] spEcs)
    (FN : Fun K "_law_e_is_number" "_law_e_is_number" sIsn fN fdN) (bN : Binds K fdN ["thing", "many"] []) (gN : mg "_law_e_is_number" = some (.ref fN)) (GN : FnOk P w K mg base CX0 2 fN fdN ["thing", "many"] spIsn)
    (FV : Fun K "_law_e_wide" "_law_e_wide" sWid fV fdV) (bV : Binds K fdV ["one", "other"] []) (gV : mg "_law_e_wide" = some (.ref fV)) (GV : FnOk P w K mg base CX0 1 fV fdV ["one", "other"] spWid) :
    FnOk P w K mg base CX0 (k + 10) f fd ["book", "telling"] (spWhr Ph Po) := by
  refine F.ok scWhr (fun vs H Q E h => ?_) (fun cdv A outer s H vs Q E hr h => ?_)
  · obtain ⟨v, t, tvs, css, tss, rfl, _⟩ := h
    rfl
  · obtain ⟨v, t, tvs, css, tss, rfl, a, nw0, q⟩ := h
    have hr9 : Room 9 _ := hr.mono (by omega)
    have hr4 : Room 4 _ := hr.mono (by omega)
    have hr2 : Room 2 _ := hr.mono (by omega)
    have hr1 : Room 1 _ := hr.mono (by omega)
    refine ⟨_, (Evl.pss_cut (ps_set (i := 2) scWhr.nd rfl (.inl rfl) (pe_call GM hr9 (by rfl) gM FM.kp bM .nil passF (pa_cons (pv 0) (pa_cons (pv 1) pa_nil))))
      (Evl.pss_cut (ps_if (PW.pt (pw_or (pt_not (pt_val (pe_callB call_isi (by rfl) T.z_isinstance (by decide +kernel) (pa_cons (pv 2) (pa_cons (pe_bltn (v := .ty "tuple") (u := .type "tuple") (by rfl) T.z_tuple (by decide +kernel) rfl) pa_nil))))) (pw_or (pt_cmpR op_ne (pe_callB call_len_seq (by rfl) T.z_len (by decide +kernel) (pa_cons (pv 2) pa_nil)) pe_int (nomark _)) (pw_or1 (pt_not (pt_val (pe_callB call_isi (by rfl) T.z_isinstance (by decide +kernel) (pa_cons (pe_ix ix_tup (pv 2) pe_int (fun _ _ => rfl)) (pa_cons (pe_bltn (v := .ty "list") (u := .type "list") (by rfl) T.z_list (by decide +kernel) rfl) pa_nil))))))))) (pss_one (ps_ret pe_bl)) pss_nil)
      (Evl.pss_cut (ps_set (i := 3) scWhr.nd rfl (.inl rfl) (pe_call GC hr4 (by rfl) gC FC.kp bC .nil pass0 (pa_cons (pv 0) (pa_cons (pe_ix ix_tup (pv 2) pe_int (fun _ _ => rfl)) pa_nil))))
      (Evl.pss_cut (ps_if (PW.pt (pw_or (pt_cmpR op_isN (pv 3) pe_non (nomark _)) (pw_or1 (pt_cmpR op_ne (pe_callB call_len_seq (by rfl) T.z_len (by decide +kernel) (pa_cons (pe_ix ix_tup (pv 2) pe_int (fun _ _ => rfl)) pa_nil)) (pe_callB call_len_seq (by rfl) T.z_len (by decide +kernel) (pa_cons (pv 1) pa_nil)) (nomark _))))) (pss_one (ps_ret pe_bl)) pss_nil)
      (Evl.pss_cut (ps_for PassesOwn.never rfl (pi_zip (by rfl) T.z_zip (pa_cons (pe_ix ix_tup (pv 2) pe_int (fun _ _ => rfl)) (pa_cons (pv 1) pa_nil))) (pg_tup rfl (pgs_cons (pg_name (i := 4) scWhr.nd rfl (.inl rfl)) (pgs_cons (pg_name (i := 5) scWhr.nd rfl (.inl rfl)) pgs_nil))) (pss_one (ps_if (PW.pt (pw_or (pt_not (pt_val (pe_call GN hr2 (by rfl) gN FN.kp bN .nil pass0 (pa_cons (pv 4) (pa_cons (pe_callB call_len_seq (by rfl) T.z_len (by decide +kernel) (pa_cons (pv 3) pa_nil)) pa_nil))))) (pw_or1 (pt_not (pt_val (pe_call GV hr1 (by rfl) gV FV.kp bV .nil pass0 (pa_cons (pe_ix ix_list (pv 3) (pv 4) (fun _ _ => rfl)) (pa_cons (pv 5) pa_nil)))))))) (pss_one (ps_ret pe_bl)) pss_nil)))
      (Evl.pss_cut (ps_if (pt_cmpR op_ne (pe_ix ix_list (pe_ix ix_tup (pv 2) pe_int (fun _ _ => rfl)) (pe_un un_neg pe_int) (fun _ _ => rfl)) (pe_op op_sub (pe_callB call_len_seq (by rfl) T.z_len (by decide +kernel) (pa_cons (pv 3) pa_nil)) pe_int) (nomark _)) (pss_one (ps_ret pe_bl)) pss_nil)
      (Evl.pss_cut (ps_expr (pe_bm PySem.F.plainAttrs_list PySem.F.slot_list_append PySem.F.type_list_append mt_append (pe_ix ix_tup (pv 2) pe_int (fun _ _ => rfl)) (pa_cons pe_non pa_nil)))
      (Evl.pss_cut (ps_expr (pe_bm PySem.F.plainAttrs_list PySem.F.slot_list_append PySem.F.type_list_append mt_append (pe_ix ix_tup (pv 2) pe_int (fun _ _ => rfl)) (pa_cons pe_non pa_nil)))
      (pss_one (ps_ret (pe_and (pe_cmpR op_eq (pe_callB call_len_seq (by rfl) T.z_len (by decide +kernel) (pa_cons (pe_ix ix_tup (pv 2) pe_int (fun _ _ => rfl)) pa_nil)) (pe_op op_add (pe_callB call_len_seq (by rfl) T.z_len (by decide +kernel) (pa_cons (pv 3) pa_nil)) pe_int) (nomark _)) (pe_one (pe_cmpR op_eq (pe_callB call_len_seq (by rfl) T.z_len (by decide +kernel) (pa_cons (pe_ix ix_tup (pv 2) pe_int (fun _ _ => rfl)) pa_nil)) (pe_op op_add (pe_callB call_len_seq (by rfl) T.z_len (by decide +kernel) (pa_cons (pv 1) pa_nil)) pe_int) (nomark _)))))))))))))), ?_⟩
    obtain ⟨ht, ltv, at_⟩ := a.l
    have lt0 := List.length_pos_iff.mpr a.n2
    have l12 := a.l12
    refine Evl.q_cut (M := fun σ' G => ∃ (p R N : Addr) (rows : List Rw) (cls : List (List Int)) (ns : List Nat), σ' = [some v, some (.ref t), some (.ref p), none, none, none] ∧ Ke Nof H G ∧ G p = some (.tup [.ref R, .ref N]) ∧ Frs H R ∧ Frs H N ∧ R ≠ N ∧ RwL G R rows ∧ G N = some (.lst (ns.map fun n : Nat => V.int n)) ∧ Lad css rows cls ∧ rows.length ≤ 200 ∧ ns.length = tss.length ∧ Cov ns cls tss ∧ ns[ns.length - 1]? = some (rows.length - 1) ∧ 1 ≤ rows.length) ?_ ?_
    · refine ⟨_, rfl, _, rfl, v, t, tvs, css, tss, rfl, a.b, a.l, a.ib, a.it, a.c1, a.c16, a.n2, a.l12, a.th, a.to, fun G p R N rows cls ns k _ hp fR fN nRN hR hN ld lr ln cov la r1 => ?_, fun G k nn => nn nw0⟩
      exact ⟨p, R, N, rows, cls, ns, rfl, k, hp, fR, fN, nRN, hR, hN, ld, lr, ln, cov, la, r1⟩
    rintro σ' H1 ⟨p, R, N, rows, cls, ns, rfl, k1, hp, fR, fN, nRN, hR, hN, ld, lr, ln, cov, la, r1⟩
    obtain ⟨rvs, hRv, aR⟩ := id hR
    have lrv := aR.1
    have ll := ld.1
    have ht1 := k1.lst ht fun z => z
    refine Evl.q_cut (M := fun σ' G => σ' = [some v, some (.ref t), some (.ref p), none, none, none] ∧ H1 = G) ?_ ?_
    · refine ⟨_, rfl, .ref p, .ty "tuple", .type "tuple", .type "tuple", true, rfl, .ty _, .base (.tup hp), kit_ty (by decide +kernel), true, rfl, ?_⟩
      refine ⟨_, rfl, p, _, rfl, .inr (.of hp), rfl, false, rfl, ?_⟩
      exact ⟨_, rfl, p, _, 1, _, rfl, rfl, .of hp, rfl, .ref N, .ty "list", .type "list", .type "list", true, rfl, .ty _, .base (.lst hN), kit_ty (by decide +kernel), true, rfl, rfl, rfl⟩
    rintro σ' G ⟨rfl, rfl⟩
    -- claims
    refine Evl.q_cut (M := fun σ' G => ∃ D : Addr, σ' = [some v, some (.ref t), some (.ref p), some (.ref D), none, none] ∧ H1 D = none ∧ Same H1 G ∧ ClL G D cls) ?_ ?_
    · exact ⟨_, rfl, _, rfl, p, _, 0, _, rfl, rfl, .of hp, rfl, v, R, css, cls, rows, rfl, a.b.ke k1, hR, ld, a.ib, r1, lr, fun D G nD s hD => ⟨D, rfl, nD, s, hD⟩⟩
    rintro σ' H2 ⟨D, rfl, nD, s2, hD⟩
    have hp2 := s2 _ _ hp
    have hN2 := s2 _ _ hN
    have ht2 := s2 _ _ ht1
    obtain ⟨dvs, hDv, aD⟩ := hD
    have ldv := aD.1
    refine Evl.q_cut (M := fun σ' G => σ' = [some v, some (.ref t), some (.ref p), some (.ref D), none, none] ∧ H2 = G) ?_ ?_
    · refine ⟨_, rfl, rfl, false, rfl, ?_⟩
      refine ⟨_, rfl, p, _, 1, _, rfl, rfl, .of hp2, rfl, N, _, rfl, .inl (.of hN2), _, rfl, t, _, rfl, .inl (.of ht2), rfl, false, ?_, rfl, rfl⟩
      rw [List.length_map, ln, ltv, decide_eq_true rfl]
      rfl
    rintro σ' G ⟨rfl, rfl⟩
    -- each number
    refine Evl.q_cut (M := fun σ' G => ∃ y4 y5 : Option V, σ' = [some v, some (.ref t), some (.ref p), some (.ref D), y4, y5] ∧ Same H2 G) ?_ ?_
    · refine ⟨_, rfl, p, _, 1, _, rfl, rfl, .of hp2, rfl, _, rfl, N, t, ns.map (fun n : Nat => V.int n), tvs, rfl, .of hN2, .of ht2, RZ.for_zipL (K := K) (a := N) (b := t) (xs := ns.map fun n : Nat => V.int n) (ys := tvs) (by rw [List.length_map, ln, ltv]) (Pv := fun i σ G => ∃ y4 y5 : Option V, σ = [some v, some (.ref t), some (.ref p), some (.ref D), y4, y5] ∧ Same H2 G) ⟨none, none, rfl, Same.refl _⟩ (fun i σ G z => ?_) ?_ ?_⟩
      · obtain ⟨_, _, _, s⟩ := z
        exact ⟨.of (s _ _ hN2), .of (s _ _ ht2)⟩
      · rintro i x y Tt σ G hx hy ⟨y4, y5, rfl, s3⟩ nT
        rw [List.getElem?_map] at hx
        obtain ⟨n, hn, rfl⟩ := Option.map_eq_some_iff.mp hx
        have li := (List.getElem?_eq_some_iff.mp hy).1
        have hc := List.getElem?_eq_getElem (show i < tss.length by omega)
        generalize tss[i]'(by omega) = c at hc
        obtain ⟨d, hd, wd⟩ := cov i c n hc hn
        have ldn := (List.getElem?_eq_some_iff.mp hd).1
        have sT : Same G (upd G Tt (.tup [.int (n : Nat), y])) := same_new nT
        have s2T := s3.trans sT
        obtain ⟨dv, hdv, td⟩ := aD.atR hd
        have tc := (at_ i y c hy hc).ke k1
        have icd := ld.isCl a.ib d (List.mem_of_getElem? hd)
        refine ⟨Tt, _, rfl, .of upd_same, rfl, _, _, rfl, _, _, rfl, rfl, ?_⟩
        have hD3 := s2T _ _ hDv
        refine ⟨_, rfl, _, rfl, D, _, rfl, .inl (.of hD3), n, dvs.length, rfl, by omega, true, rfl, ?_⟩
        refine ⟨_, rfl, _, rfl, D, _, _, dv, rfl, rfl, .of hD3, at_of (j := n) rfl hdv, _, rfl, dv, y, d, c, rfl, td.ke (.same s2T) (F := Nof), tc.ke (.same (s2.trans s2T)) (F := Nof), wd, by have := icd.len; omega, fun G2 s4 => ⟨true, rfl, ?_⟩⟩
        exact ⟨_, _, rfl, s2T.trans s4⟩
      · rintro σ G ⟨y4, y5, rfl, s3⟩
        exact ⟨y4, y5, rfl, s3⟩
    rintro σ' H3 ⟨y4, y5, rfl, s3⟩
    have hp3 := s3 _ _ hp2
    have hN3 := s3 _ _ hN2
    have hD3 := s3 _ _ hDv
    have hR3 := s3 _ _ (s2 _ _ hRv)
    -- the last one
    refine Evl.q_cut (M := fun σ' G => σ' = [some v, some (.ref t), some (.ref p), some (.ref D), y4, y5] ∧ H3 = G) ?_ ?_
    · refine ⟨_, rfl, p, _, 1, _, rfl, rfl, .of hp3, rfl, _, rfl, N, _, _, .int ((rows.length - 1 : Nat) : Int), rfl, rfl, .of hN3, at_last (by rw [List.length_map, List.getElem?_map, la]; rfl), _, rfl, D, _, rfl, .inl (.of hD3), _, _, rfl, rfl, rfl, false, ?_, rfl, rfl⟩
      show V.bl (!decide (V.int ((rows.length - 1 : Nat) : Int) = V.int (((dvs.length : Nat) : Int) - 1))) = V.bl false
      rw [show (((dvs.length : Nat) : Int) - 1) = ((rows.length - 1 : Nat) : Int) by omega, decide_eq_true rfl]
      rfl
    rintro σ' G ⟨rfl, rfl⟩
    have nDR : D ≠ R := Ne.symm (ne_of_none hRv nD)
    have nDN : D ≠ N := Ne.symm (ne_of_none hN nD)
    have k3 : Ke Nof H H3 := k1.trans (.same (s2.trans s3))
    have ntR : t ≠ R := fR t _ ht fun ps z => by cases z
    have ntN : t ≠ N := fN t _ ht fun ps z => by cases z
    -- both are lists of its own
    refine Evl.q_cut (M := fun σ' G => σ' = [some v, some (.ref t), some (.ref p), some (.ref D), y4, y5] ∧ upd H3 R (.lst (rvs ++ [.non])) = G) ?_ ?_
    · exact ⟨_, rfl, p, _, 0, _, rfl, rfl, .of hp3, rfl, .inl ⟨rfl, _, .of hR3⟩, R, _, _, rfl, rfl, hR3, small1000 (by omega), rfl, rfl⟩
    rintro σ' H4 ⟨rfl, e4⟩
    have hp4 : H4 p = some (.tup [.ref R, .ref N]) := by rw [← e4, upd_ne (fun z => by rw [z, hR3] at hp3; cases hp3)]; exact hp3
    have hN4 : H4 N = some (.lst (ns.map fun n : Nat => V.int n)) := by rw [← e4, upd_ne (Ne.symm nRN)]; exact hN3
    have hR4 : H4 R = some (.lst (rvs ++ [.non])) := by rw [← e4]; exact upd_same
    have hD4 : H4 D = some (.lst dvs) := by rw [← e4, upd_ne nDR]; exact hD3
    have ht4 : H4 t = some (.lst tvs) := by rw [← e4, upd_ne ntR]; exact s3 _ _ ht2
    have k4 : Ke Nof H H4 := by rw [← e4]; exact k3.write fR hR3
    refine Evl.q_cut (M := fun σ' G => σ' = [some v, some (.ref t), some (.ref p), some (.ref D), y4, y5] ∧ upd H4 N (.lst ((ns.map fun n : Nat => V.int n) ++ [.non])) = G) ?_ ?_
    · exact ⟨_, rfl, p, _, 1, _, rfl, rfl, .of hp4, rfl, .inl ⟨rfl, _, .of hN4⟩, N, _, _, rfl, rfl, hN4, small1000 (by rw [List.length_map]; omega), rfl, rfl⟩
    rintro σ' H5 ⟨rfl, e5⟩
    have hp5 : H5 p = some (.tup [.ref R, .ref N]) := by rw [← e5, upd_ne (fun z => by rw [z, hN4] at hp4; cases hp4)]; exact hp4
    have hN5 : H5 N = some (.lst ((ns.map fun n : Nat => V.int n) ++ [.non])) := by rw [← e5]; exact upd_same
    have hR5 : H5 R = some (.lst (rvs ++ [.non])) := by rw [← e5, upd_ne nRN]; exact hR4
    have hD5 : H5 D = some (.lst dvs) := by rw [← e5, upd_ne nDN]; exact hD4
    have ht5 : H5 t = some (.lst tvs) := by rw [← e5, upd_ne ntN]; exact ht4
    have k5 : Ke Nof H H5 := by rw [← e5]; exact k4.write fN hN4
    refine ⟨_, rfl, p, _, 0, _, rfl, rfl, .of hp5, rfl, R, _, rfl, .inl (.of hR5), _, rfl, D, _, rfl, .inl (.of hD5), _, _, rfl, rfl, rfl, true, ?_, ?_⟩
    · show V.bl (decide (V.int (((rvs ++ [V.non]).length : Nat) : Int) = V.int (((dvs.length : Nat) : Int) + 1))) = V.bl true
      rw [List.length_append, List.length_singleton, show (((rvs.length + 1 : Nat) : Int)) = ((dvs.length : Nat) : Int) + 1 by omega, decide_eq_true rfl]
    refine ⟨_, rfl, p, _, 1, _, rfl, rfl, .of hp5, rfl, N, _, rfl, .inl (.of hN5), _, rfl, t, _, rfl, .inl (.of ht5), _, _, rfl, rfl, rfl, ?_⟩
    show Q (.bl (decide (V.int ((((ns.map fun n : Nat => V.int n) ++ [V.non]).length : Nat) : Int) = V.int (((tvs.length : Nat) : Int) + 1)))) H5
    rw [List.length_append, List.length_map, List.length_singleton, show (((ns.length + 1 : Nat) : Int)) = ((tvs.length : Nat) : Int) + 1 by omega, decide_eq_true rfl]
    exact q H5 k5
abbrev sRfs : Stmt := topS 59
theorem scRfs : FnScope ["book", "telling", "kinds", "e", "others"] ["book", "telling"] (defScope sRfs) := ⟨rfl, rfl, rfl, by decide +kernel, rfl, by decide +kernel, by decide +kernel⟩
def spRfs (Ph Po : Addr) : Sp := fun vs H Q _ => ∃ (v : V) (t : Addr) (tvs : List V) (css tss : List (List Int)), vs = [v, .ref t] ∧ Ask H v t tvs css tss Ph Po ∧ ¬ NoWr css tss ∧ ∀ H', Ke Nof H H' → Q (.bl true) H'
theorem ok_rfs {f fM C' S Ph Po : Addr} {oc : Nat → Addr} {fd fdM : FuncData} (F : Fun K "_law_e_refused" "_law_e_refused" sRfs f fd) (CC : CT K mg C') (O : Oth K mg C' S oc)
    (FM : Fun K "made_whole" "made_whole" sMwh fM fdM) (bM : Binds K fdM ["book", "telling"] []) (gM : mg "made_whole" = some (.ref fM)) (GM : FnOk P w K mg base (L2.CX P w) 9 fM fdM ["book", "telling"] (spMwh C' Ph Po)) :
    FnOk P w K mg base CX0 10 f fd ["book", "telling"] (spRfs Ph Po) := by
  refine F.ok scRfs (fun vs H Q E h => ?_) (fun cdv A outer s H vs Q E hr h => ?_)
  · obtain ⟨v, t, tvs, css, tss, rfl, _⟩ := h
    rfl
  · obtain ⟨v, t, tvs, css, tss, rfl, a, nw0, q⟩ := h
    have hr9 : Room 9 _ := hr
    refine ⟨_, (Evl.pss_cut (ps_set (i := 2) scRfs.nd rfl (.inl rfl) (pe_lstN pa_nil))
      (Evl.pss_cut (ps_try_as (i := 3) rfl rfl scRfs.nd rfl rfl ⟨rfl, by decide, .inl O.gS⟩ takes0 (fun W pn xe tk _ => (pss_one (ps_expr (pe_callS GM hr9 rfl gM FM.kp bM (fun σ => passAt tk σ) (pa_cons (pv 0) (pa_cons (pv 1) pa_nil)))))) (fun a oe cls d pn hz hf => (pss_cons (ps_set (i := 4) scRfs.nd rfl (.inl rfl) (pe_callB (call_isNT hz hf) (by rfl) O.z_isinstance (by decide +kernel) (pa_cons (pv 3) (pa_cons (pe_tupN (pa_cons (pe_glob (v := .ref (oc 0)) rfl (O.go 0 _ rfl) rfl) (pa_cons (pe_glob (v := .ref (oc 1)) rfl (O.go 1 _ rfl) rfl) (pa_cons (pe_glob (v := .ref (oc 2)) rfl (O.go 2 _ rfl) rfl) (pa_cons (pe_glob (v := .ref (oc 3)) rfl (O.go 3 _ rfl) rfl) (pa_cons (pe_glob (v := .ref (oc 4)) rfl (O.go 4 _ rfl) rfl) (pa_cons (pe_glob (v := .ref (oc 5)) rfl (O.go 5 _ rfl) rfl) (pa_cons (pe_glob (v := .ref (oc 6)) rfl (O.go 6 _ rfl) rfl) (pa_cons (pe_glob (v := .ref (oc 7)) rfl (O.go 7 _ rfl) rfl) pa_nil))))))))) pa_nil))))
      (pss_one (ps_set (i := 2) scRfs.nd rfl (.inl rfl) (pe_lstN (pa_cons (pe_callB (call_isN hz hf) (by rfl) O.z_isinstance (by decide +kernel) (pa_cons (pv 3) (pa_cons (pe_glob (v := .ref C') rfl CC.gP rfl) pa_nil))) (pa_cons (pe_callB (call_isN hz hf) (by rfl) O.z_isinstance (by decide +kernel) (pa_cons (pv 3) (pa_cons (pe_bltn (v := .ty "ValueError") (by rfl) O.z_ValueError PyProof.Rows.Boot.«ValueError» rfl) pa_nil))) (pa_cons (pv 4) pa_nil)))))))))
      (pss_one (ps_ret (pe_cmpR (op_eqD hr.units) (pv 2) (pe_lstN (pa_cons pe_bl (pa_cons pe_bl (pa_cons pe_bl pa_nil)))) (nomark _)))))), ?_⟩
    refine Evl.q_cut (M := fun σ' G => ∃ y : V, σ' = [some v, some (.ref t), some y, none, none] ∧ Same H G) ?_ ?_
    · exact ⟨Nat.zero_le _, fun p G np s1 hp _ => ⟨_, rfl, s1⟩⟩
    rintro σ' H1 ⟨y, rfl, s1⟩
    have k1 : Ke Nof H H1 := .same s1
    refine Evl.q_cut (M := fun σ' G => ∃ (L : Addr) (y4 : Option V), σ' = [some v, some (.ref t), some (.ref L), none, y4] ∧ Ke Nof H G ∧ G L = some (.lst [.bl true, .bl true, .bl false])) ?_ ?_
    · refine ⟨_, rfl, _, rfl, v, t, tvs, css, tss, rfl, a.b.ke k1, ⟨k1.lst a.l.1 (fun z => z), a.l.2.1, fun i x c e1 e2 => (a.l.2.2 i x c e1 e2).ke k1⟩, a.ib, a.it, a.c1, a.c16, a.n2, a.l12, k1.tabs _ a.th, k1.tabs _ a.to, fun G p R N rows cls ns k nw => absurd nw nw0, fun H2 k2 nn => ?_⟩
      refine ⟨true, O.xS, fun _ ea na => ?_, fun z => nomatch z⟩
      refine ⟨_, rfl, by show 8 ≤ sizeLine; decide, fun tp H4 ntp s4 htp _ => ?_⟩
      refine ⟨C', tp, _, [oc 0, oc 1, oc 2, oc 3, oc 4, oc 5, oc 6, oc 7].map Value.ref, false, rfl, rfl, rfl, O.ec, htp, ?_, kit8 fun u hu => ?_, ?_⟩
      · exact .cons (.own _) (.cons (.own _) (.cons (.own _) (.cons (.own _) (.cons (.own _) (.cons (.own _) (.cons (.own _) (.cons (.own _) .nil)))))))
      · obtain ⟨z, hz, rfl⟩ := List.mem_map.mp hu
        simp only [List.mem_cons, List.not_mem_nil, or_false] at hz
        rcases hz with rfl | rfl | rfl | rfl | rfl | rfl | rfl | rfl
        · exact O.no 0 (by decide)
        · exact O.no 1 (by decide)
        · exact O.no 2 (by decide)
        · exact O.no 3 (by decide)
        · exact O.no 4 (by decide)
        · exact O.no 5 (by decide)
        · exact O.no 6 (by decide)
        · exact O.no 7 (by decide)
      refine ⟨_, rfl, C', .ref C', .ref C', true, rfl, rfl, rfl, O.ec, fun u r => r, O.me, ?_⟩
      refine ⟨_, rfl, C', .ty "ValueError", .type "ValueError", true, rfl, rfl, rfl, O.ec, fun u r => r, O.kv, _, rfl, by show 3 ≤ sizeLine; decide, fun L H5 nL s5 hL _ => ?_⟩
      exact ⟨L, _, rfl, k1.trans (k2.trans (.same (s4.trans s5))), hL⟩
    rintro σ' H2 ⟨L, y4, rfl, k2, hL⟩
    refine ⟨_, rfl, by show 3 ≤ sizeLine; decide, fun M H3 nM s3 hM _ => ?_⟩
    exact ⟨.list [.bool true, .bool true, .bool false], .list [.bool true, .bool true, .bool false], .lst (.of (s3 _ _ hL)) (dp_bls [true, true, false]), .lst (.of hM) (dp_bls [true, true, false]), by decide, by decide, q H3 (k2.trans (.same s3))⟩
end
end Mr
namespace Gd
open PySem PySem.Spec PyProof.Rows L2
/-! ### a law that shows lists (repr): run where nothing is being shown -/
/-- a promise for calls made while nothing is being shown -/
structure FnG (P : Program) (w : World) (K : PySem.W.Frag) (mg : Str → Option Value) (base : Heap) (k : Nat) (f : Addr) (fd : FuncData) (ps : List Str) (sp : Sp) : Prop where
  len : ∀ us H Q E, sp us H Q E → us.length = ps.length
  run : ∀ (A : Around) (outer : List Env) (s : Shared) (H : Hp) (args : Args) (us : List Value) (vs : List V) (Q : VK) (E : XK), A.guards = some [] → Room k A → Env0 P w K mg base A outer s H → BindsTo s fd args (ps.zip us) → Vals vs us → sp vs H Q E → codeAny (model P w) A (.call (.ref f) args) (CR CX0 outer P w H s Q E) s
section
variable {P : Program} {w : World} {K : PySem.W.Frag} {mg : Str → Option Value} {base : Heap}
theorem okG {x qual : Str} {st : Stmt} {f : Addr} {fd : FuncData} {N ps : List Str} {k : Nat} {sp : Sp} (F : Fun K x qual st f fd) (S : FnScope N ps (defScope st)) (ln : ∀ us H Q E, sp us H Q E → us.length = ps.length)
    (body : ∀ (cdv : Value) (A : Around) (outer : List Env) (s : Shared) (H : Hp) (vs : List V) (Q : VK) (E : XK), A.guards = some [] → Room k (A.deeper (envOfC qual (defScope st) s.heap.objs.size f cdv)) → sp vs H Q E →
      ∃ t, PSs (cxOf CX0 P w K mg base N qual (defScope st) f cdv A outer s H E).nox (defBody st) t ∧ t { nx := fun _ H' => Q .non H', rt := Q } (start N vs) H) : FnG P w K mg base (k + 1) f fd ps sp := by
  obtain ⟨oc, od, kV, doc, pm, an, cdv, ct, osl, rfl, lk, hcd⟩ := F.ex
  refine ⟨ln, fun A outer s H args us vs Q E gd room env bind rel ask => ?_⟩
  have inS : K.In s.heap := env.mod.kin.keeps fun b o e => (env.bs b o e).1
  have noL : s.heap.NoLimit := env.mod.nolimit.keeps fun b o e => (env.bs b o e).1
  refine codeAny_call_function room.depth (inS _ _ lk) rfl S.co S.gen rfl (PySem.W.codeRec_of inS hcd) (bind _ _ _ _ (wpAny_newFunctionEnv_cells S.kind (fun y hy => ?_) fun env' he s1 z => ?_))
  · rcases S.par y.1 (List.of_mem_zip (a := y.1) (b := y.2) hy).1 with q | q
    · exact Or.inl q
    · exact Or.inr ⟨q, PySem.W.cellsFrom_some _ _ _ (Or.inl q)⟩
  · subst he
    obtain ⟨t, h1, h2⟩ := body cdv A outer s H vs Q E gd (room.deeper _) ask
    have J := inv_start (CX := CX0) (E := E) S room.hd env (ln _ _ _ _ ask) rel z
    refine ⟨noL.keeps z.toInCall.keep, codeAny_func (wpAny_mono (h1.nox.run [] s1 _ H _ J h2) (fun fl s' r => ?_) fun _ _ r => r)⟩
    match fl, r with
    | .ret u, r =>
      obtain ⟨v, σ', H', I, rv, q⟩ := r
      exact ⟨v, H', I.os, I.bare, I.base, I.hok, rv, q⟩
    | .next, r =>
      obtain ⟨σ', H', I, q⟩ := r
      exact ⟨.non, H', I.os, I.bare, I.base, I.hok, rfl, q⟩
    | .brk, r =>
      obtain ⟨_, _, _, q⟩ := r
      exact q.elim
    | .cont, r =>
      obtain ⟨_, _, _, q⟩ := r
      exact q.elim
/-- what the abstract heap knows at the law's call: the tables T, the script at a unless K holds it -/
def at0 (K : PySem.W.Frag) (T : List Addr) (a : Addr) (o : HO) : Hp := fun b => if b ∈ T then some (.tbl #[]) else if b = a ∧ (K.lookup a).isNone = true then some o else none
theorem at0_cases {T : List Addr} {a b : Addr} {o u : HO} (h : at0 K T a o b = some u) : (b ∈ T ∧ u = .tbl #[]) ∨ (b ∉ T ∧ b = a ∧ K.lookup a = none ∧ u = o) := by
  unfold at0 at h
  by_cases h1 : b ∈ T
  · rw [if_pos h1] at h
    exact .inl ⟨h1, (Option.some.inj h).symm⟩
  · rw [if_neg h1] at h
    by_cases h2 : b = a ∧ (K.lookup a).isNone = true
    · rw [if_pos h2] at h
      exact .inr ⟨h1, h2.1, Option.isNone_iff_eq_none.mp h2.2, (Option.some.inj h).symm⟩
    · rw [if_neg h2] at h
      cases h
theorem law_at {mb : Str → Option Value} {k : Nat} {fa a : Addr} {cs : List (Addr × Addr)} {fd : FuncData} {x : Str} {sp : Sp} {s1 : Shared} {us : List Value} {ns : List Int} (inK : K.In s1.heap) (ng : s1.heap.Ns mainGlobals mg) (nb : s1.heap.Ns builtinsNs mb)
    (bb : ∀ y : Str, y ≠ "__name__" → mb y = bootBuiltins y) (lim : s1.heap.NoLimit) (gens : s1.gens = #[]) (te : ∀ p ∈ cs, s1.heap.get? p.2 = some (PySem.W.tabObj #[])) (tk : ∀ p ∈ cs, K.lookup p.2 = none) (tc : ∀ p ∈ cs, PySem.W.CodeHd s1.heap p.1 p.2)
    (bm : ∃ (bm : Addr) (ob : Obj), mg "__builtins__" = some (.ref bm) ∧ bm ≠ builtinsNs ∧ s1.heap.get? bm = some ob ∧ ob.cls = .type "module" ∧ ob.dict = some builtinsNs ∧ ob.data = .plain) (la : s1.heap.get? a = some { cls := .type "list", data := .seq us.toArray }) (iu : IntsAre us ns) (lu : ns.length ≤ sizeLine) (room : Room k callerA)
    (F : ∀ base : Heap, K.In base → base.Ns mainGlobals mg → (∀ p ∈ cs, LamX.TabB base mg p.1 p.2) → FnG P w K mg base k fa fd [x] sp) (bind : ∀ (s : Shared) (u : Value), BindsTo s fd ⟨[u], []⟩ [(x, u)])
    (ask : ∀ H : Hp, (∀ p ∈ cs, H p.2 = some (.tbl #[])) → SqL K H a (ns.map V.int) → sp [.ref a] H (fun v _ => v = .bl true) fun _ _ _ => False) :
    codeAny (model P w) callerA (.call (.ref fa) ⟨[.ref a], []⟩) (fun r s' => r = .ok (.ret (.bool true)) ∧ OldK s1.heap s'.heap ∧ s'.os = s1.os ∧ AllBare s'.gens) s1 := by
  have lv := iu.length
  let T := cs.map (·.2)
  let O : HO := .frz { cls := .type "list", data := .seq us.toArray } (.lst (ns.map V.int))
  have tT : ∀ b ∈ T, s1.heap.get? b = some (PySem.W.tabObj #[]) := fun b hb => by
    obtain ⟨p, hp, rfl⟩ := List.mem_map.mp hb
    exact te p hp
  have inT : ∀ p ∈ cs, p.2 ∈ T := fun p hp => List.mem_map.mpr ⟨p, hp, rfl⟩
  have naT : a ∉ T := fun z => by
    have q := tT a z
    rw [la] at q
    cases congrArg Obj.data (Option.some.inj q)
  -- an object that is neither a list nor an empty table is not tracked
  have un0 : ∀ {b : Addr} {o : Obj}, s1.heap.get? b = some o → (∀ v n, o.data ≠ .seq v n) → o.data ≠ .fields #[] → at0 K T a O b = none := fun {b o} e d1 d2 => by
    cases q : at0 K T a O b with
    | none => rfl
    | some u =>
      rcases at0_cases q with ⟨h1, _⟩ | ⟨_, h1, _⟩
      · rw [tT b h1] at e
        cases e
        exact absurd rfl d2
      · rw [h1, la] at e
        cases e
        exact absurd rfl (d1 _ _)
  have ns0 : ∀ {b : Addr} {m : Str → Option Value}, s1.heap.Ns b m → (hidT s1.heap (at0 K T a O)).Ns b m := fun ⟨o, es, ep, e, d, r⟩ =>
    ⟨o, es, ep, hidT_get e (un0 e (fun _ _ z => by rw [d] at z; cases z) fun z => by rw [d] at z; cases z), d, r⟩
  have in0 : K.In (hidT s1.heap (at0 K T a O)) := fun b o e => by
    refine hidT_get (inK b o e) ?_
    cases q : at0 K T a O b with
    | none => rfl
    | some u =>
      rcases at0_cases q with ⟨h1, _⟩ | ⟨_, h1, h2, _⟩
      · obtain ⟨p, hp, rfl⟩ := List.mem_map.mp h1
        rw [tk p hp] at e
        cases e
      · rw [h1, h2] at e
        cases e
  have mod0 : L2.Mod K mg (hidT s1.heap (at0 K T a O)) := ⟨in0, ns0 ng, ⟨mb, ns0 nb, bb⟩, let ⟨mc, h1, h2⟩ := lim; ⟨mc, ns0 h1, h2⟩⟩
  have tab0 : ∀ p ∈ cs, LamX.TabB (hidT s1.heap (at0 K T a O)) mg p.1 p.2 := fun p hp => by
    obtain ⟨bmA, ob, b1, b2, b3, b4, b5, b6⟩ := bm
    obtain ⟨oc, oes, oep, oe, od, _⟩ := ng
    obtain ⟨c0, v0, f0, t0, g0, u0, i0, x0, y0, e1, r1, r2, r3, rest⟩ := tc p hp
    refine ⟨⟨c0, v0, f0, t0, g0, u0, i0, x0, y0, hidT_get e1 (un0 e1 (fun _ _ z => by rw [r2] at z; cases z) fun z => ?_), r1, r2, r3, rest⟩, ⟨bmA, ob, b1, b2, fun z => ?_, fun z => ?_, hidT_get b3 (un0 b3 (fun _ _ z => by rw [b6] at z; cases z) fun z => by rw [b6] at z; cases z), b4, b5, b6⟩, fun z => ?_⟩
    · rw [r2] at z
      cases z
      simp at r3
    · rw [z, oe] at b3
      cases b3
      rw [od] at b6
      cases b6
    · rw [z, te p hp] at b3
      cases b3
      cases b6
    · rw [z, te p hp] at oe
      cases oe
      cases od
  have hok0 : HOk P w (at0 K T a O) s1.heap := fun b u q => by
    rcases at0_cases q with ⟨h1, rfl⟩ | ⟨_, rfl, _, rfl⟩
    · exact tT b h1
    · exact ⟨la, by rw [List.length_map]; exact lu, us, _, vals_ints iu, la⟩
  have sq0 : SqL K (at0 K T a O) a (ns.map V.int) := by
    cases q : K.lookup a with
    | some o =>
      have e := inK a o q
      rw [la] at e
      cases e
      exact .inr ⟨_, us.toArray, _, q, rfl, rfl, rfl, by rw [List.size_toArray, lv]; exact lu, by simpa using vals_ints iu⟩
    | none => exact .inl (.inr ⟨_, (if_neg naT).trans (if_pos ⟨rfl, by rw [q]; rfl⟩)⟩)
  have env0 : Env0 P w K mg (hidT s1.heap (at0 K T a O)) callerA [] s1 (at0 K T a O) := ⟨rfl, mod0, fun b o e => of_hidT e, Nat.le_of_eq (hidT_size _ _), trivial, fun b z => absurd (show b ∈ ([] : List Addr) from z) (by simp), hok0, .of_eq gens⟩
  refine codeAny_mono ((F _ in0 (ns0 ng) tab0).run callerA [] s1 (at0 K T a O) ⟨[.ref a], []⟩ [.ref a] [.ref a] _ _ rfl room env0 (bind s1 (.ref a)) (.cons rfl .nil) (ask _ (fun p hp => if_pos (inT p hp)) sq0)) fun r s' h => ?_
  match r, h with
  | .error e, h => exact False.elim h
  | .ok .next, h => exact False.elim h
  | .ok .brk, h => exact False.elim h
  | .ok .cont, h => exact False.elim h
  | .ok (.ret u), h =>
    obtain ⟨v, H', os, bare, un, hok', rv, q⟩ := h
    obtain rfl : v = .bl true := q
    obtain rfl : u = Value.bool true := rv
    have kept : ∀ b o, b ∉ T → s1.heap.get? b = some o → s'.heap.get? b = some o := fun b o nt e => by
      cases z : at0 K T a O b with
      | none => exact un.keep b o e z (fun y => absurd (show b ∈ ([] : List Addr) from y) (by simp)) (by simp)
      | some u =>
        rcases at0_cases z with ⟨h1, _⟩ | ⟨_, rfl, _, rfl⟩
        · exact absurd h1 nt
        · obtain ⟨e2, _⟩ := hok' b _ (un.frzs b _ _ z)
          rw [la] at e
          cases e
          exact e2
    have tabs : ∀ b ∈ T, ∃ more : Array Value, s'.heap.get? b = some (PySem.W.tabObj more) := fun b hb => by
      obtain ⟨more, z⟩ := un.tbls b #[] (if_pos hb)
      exact ⟨_, hok' b _ z⟩
    refine ⟨rfl, ⟨fun b o e => ?_, fun b o e => ?_⟩, os, bare⟩
    · by_cases hb : b ∈ T
      · obtain ⟨more, z⟩ := tabs b hb
        obtain ⟨p, hp, rfl⟩ := List.mem_map.mp hb
        have e3 := te p hp
        rw [e] at e3
        cases e3
        exact .inr (.inl ⟨((tc p hp).tab (te p hp)).isCodeTable, rfl, #[], more, rfl, by rw [Array.empty_append]; exact z⟩)
      · exact .inl (kept b o hb e)
    · by_cases hb : b ∈ T
      · obtain ⟨more, z⟩ := tabs b hb
        exact ⟨_, z⟩
      · exact ⟨o, kept b o hb e⟩
end
end Gd
namespace K53
open PySem PySem.Spec PyProof.Rows L2 GxR Nw Dr Kp Se Cl En Fo Fd Te Tk Mp Mr
open Lr (cl_mk All2)
abbrev sLaw : Stmt := topS 61
abbrev nLaw : List Str := ["script", "pen", "book", "turn", "telling", "some", "kept", "right", "k"]
theorem scL : FnScope nLaw ["script"] (defScope sLaw) := ⟨rfl, rfl, rfl, by decide +kernel, rfl, by decide +kernel, by decide +kernel⟩
structure Zk (mg : Str → Option Value) : Prop where
  z_range : mg "range" = none
  z_list : mg "list" = none
  z_tuple : mg "tuple" = none
theorem op_repNN {X : Cx} : OpR X (binaryOp .Mult) (fun x y H Q => ∃ l k xs, x = .ref l ∧ y = .int k ∧ H l = some (.lst xs) ∧ -(2 ^ 63) ≤ k ∧ k < 2 ^ 63 ∧ xs.length * k.toNat ≤ sizeLine ∧ New H (.lst (List.replicate k.toNat xs).flatten) Q) :=
  op_weak op_rep fun _ _ H Q ⟨l, k, xs, h1, h2, h3, h4, h5, h6, h7⟩ => ⟨l, k, xs, h1, h2, h3, h4, h5, h6, h7.to⟩
/-- the book whose claims force one another -/
def css0 : List (List Int) := [[1], [-1, 2], [-2, 3], [-3, 4], [-4, 5], [-5, 6], [-6, 7], [-7, 8], [-8], [8]]
def clB (c : List Int) : Bool := decide (c.Pairwise (· < ·)) && (c.all (fun k => decide (k ≠ 0) && (decide (-8 ≤ k) && decide (k ≤ 8))) && c.all fun k => !decide (-k ∈ c))
theorem clB_ok {c : List Int} (h : clB c = true) : IsCl c := by
  unfold clB at h
  rw [Bool.and_eq_true, Bool.and_eq_true, decide_eq_true_eq, List.all_eq_true, List.all_eq_true] at h
  obtain ⟨h1, h2, h3⟩ := h
  refine cl_mk h1 (fun k hk => ?_) fun k hk z => ?_
  · have := h2 k hk
    rw [Bool.and_eq_true, Bool.and_eq_true, decide_eq_true_eq, decide_eq_true_eq, decide_eq_true_eq] at this
    exact this
  · have := h3 k hk
    rw [decide_eq_true z] at this
    cases this
theorem ic0 : ∀ c ∈ css0, IsCl c := fun c hc => clB_ok (List.all_eq_true.mp (by decide : css0.all clB = true) c hc)
theorem st0 {k : Int} (h : Der css0 [] k) (m : [-k, k + 1] ∈ css0) : Der css0 [] (k + 1) := .step m (by simp) fun y hy ne => by
  rcases List.mem_cons.mp hy with e | e
  · rw [e, Int.neg_neg]
    exact h
  · exact absurd (List.mem_singleton.mp e) ne
theorem der8 : Der css0 [] 8 := by
  have d1 : Der css0 [] 1 := .step (cs := [1]) (by decide) (by decide) fun y hy ne => absurd (List.mem_singleton.mp hy) ne
  exact st0 (st0 (st0 (st0 (st0 (st0 (st0 d1 (by decide)) (by decide)) (by decide)) (by decide)) (by decide)) (by decide)) (by decide)
theorem fall0 : Fall css0 [] := ⟨[-8], by decide, fun y hy => by
  rw [List.mem_singleton.mp hy, Int.neg_neg]
  exact der8⟩
theorem nowr0 : NoWr css0 (List.replicate 12 []) := fun i hi cs hc => by
  have e : cs = [] := List.eq_of_mem_replicate (List.mem_of_getElem? hc)
  subst e
  exact Te.Fall.mono (fun c hc => List.mem_append_left _ hc) fall0
theorem eqv_ints : ∀ l : List Int, PyData.eqvAll (l.map PyData.int) (l.map PyData.int) = true
  | [] => rfl
  | k :: r => by
    show (PyData.eqv (.int k) (.int k) && PyData.eqvAll (r.map PyData.int) (r.map PyData.int)) = true
    rw [eqv_ints r, Bool.and_true]
    simp [PyData.eqv]
theorem eqv_cls (css : List (List Int)) : PyData.eqv (.list (css.map Te.cdat)) (.list (css.map Te.cdat)) = true := by
  have key : ∀ css : List (List Int), PyData.eqvAll (css.map Te.cdat) (css.map Te.cdat) = true := by
    intro css
    induction css with
    | nil => rfl
    | cons c t ih =>
      show (PyData.eqv (Te.cdat c) (Te.cdat c) && PyData.eqvAll (t.map Te.cdat) (t.map Te.cdat)) = true
      rw [ih, Bool.and_true]
      exact eqv_ints c
  exact key css
section
variable {P : Program} {w : World} {K : PySem.W.Frag} {mg : Str → Option Value} {base : Heap}
def spLaw (Ph Po : Addr) (K : PySem.W.Frag) : Sp := fun vs H Q _ => ∃ (a : Addr) (ns : List Int), vs = [.ref a] ∧ SqL K H a (ns.map V.int) ∧ TabG H Ph ∧ TabG H Po ∧ ∀ H', Q (.bl true) H'
theorem ok_law {f fO fD fB fT fU fE fW fR Ph Po : Addr} {fd fdO fdD fdB fdT fdU fdE fdW fdR : FuncData} (FL : Fun K "law" "law" sLaw f fd) (T : Zk mg)
    (FO : Fun K "_law_e_pen" "_law_e_pen" sOpn fO fdO) (bO : Binds K fdO ["script"] []) (gO : mg "_law_e_pen" = some (.ref fO)) (GO : FnOk P w K mg base CX0 1 fO fdO ["script"] (spOpn K))
    (FD : Fun K "_law_e_take" "_law_e_take" sDrw fD fdD) (bD : Binds K fdD ["pen", "many"] []) (gD : mg "_law_e_take" = some (.ref fD)) (GD : FnOk P w K mg base CX0 2 fD fdD ["pen", "many"] spDrw)
    (FB : Fun K "_law_e_book" "_law_e_book" sBok fB fdB) (bB : Binds K fdB ["pen", "most"] []) (gB : mg "_law_e_book" = some (.ref fB)) (GB : FnOk P w K mg base CX0 4 fB fdB ["pen", "most"] spBok)
    (FT : Fun K "_law_e_telling" "_law_e_telling" sEtl fT fdT) (bT : Binds K fdT ["pen", "book"] []) (gT : mg "_law_e_telling" = some (.ref fT)) (GT : FnOk P w K mg base CX0 3 fT fdT ["pen", "book"] Tk.spEtl)
    (FU : Fun K "_law_e_turned" "_law_e_turned" sEtu fU fdU) (bU : Binds K fdU ["pen", "telling"] []) (gU : mg "_law_e_turned" = some (.ref fU)) (GU : FnOk P w K mg base CX0 4 fU fdU ["pen", "telling"] Tk.spEtu)
    (FE : Fun K "_law_e_wrong" "_law_e_wrong" sEwr fE fdE) (bE : Binds K fdE ["book", "telling"] []) (gE : mg "_law_e_wrong" = some (.ref fE)) (GE : FnOk P w K mg base CX0 4 fE fdE ["book", "telling"] (spWrg Ph))
    (FW : Fun K "_law_e_whole_right" "_law_e_whole_right" sWhr fW fdW) (bW : Binds K fdW ["book", "telling"] []) (gW : mg "_law_e_whole_right" = some (.ref fW)) (GW : FnOk P w K mg base CX0 10 fW fdW ["book", "telling"] (spWhr Ph Po))
    (FR : Fun K "_law_e_refused" "_law_e_refused" sRfs fR fdR) (bR : Binds K fdR ["book", "telling"] []) (gR : mg "_law_e_refused" = some (.ref fR)) (GR : FnOk P w K mg base CX0 10 fR fdR ["book", "telling"] (spRfs Ph Po)) :
    Gd.FnG P w K mg base 11 f fd ["script"] (spLaw Ph Po K) := by
  refine Gd.okG FL scL (fun vs H Q E h => ?_) (fun cdv A outer s H vs Q E gd0 hr h => ?_)
  · obtain ⟨a, ns, rfl, _⟩ := h
    rfl
  · obtain ⟨a, ns, rfl, hS, tg, to, q⟩ := h
    have hr1 : Room 1 _ := hr.mono (by decide)
    have hr2 : Room 2 _ := hr.mono (by decide)
    have hr3 : Room 3 _ := hr.mono (by decide)
    have hr4 : Room 4 _ := hr.mono (by decide)
    have hr10 : Room 10 _ := hr.mono (by decide)
    refine ⟨_, (Evl.pss_cut (ps_set (i := 1) scL.nd rfl (.inl rfl) (pe_call GO hr1 (by rfl) gO FO.kp bO .nil pass0 (pa_cons (pv 0) pa_nil)))
      (Evl.pss_cut (ps_set (i := 2) scL.nd rfl (.inl rfl) (pe_op op_catTN (pe_op op_catTN (pe_tupN (pa_cons (pe_tupN (pa_cons pe_int pa_nil)) pa_nil)) (pe_callTy call_tuple_ofN (by rfl) T.z_tuple (by decide +kernel) (pa_cons (pe_lc (own := [("k", 8)]) (g := (gName 8)) (tt := tYes) rfl scL.nd (pi_range2 (by rfl) T.z_range (pa_cons pe_int (pa_cons pe_int pa_nil))) (blkOk_by (N := nLaw) (sc := defScope sLaw) (by decide +kernel)) (fun _ _ _ _ _ => (pg_name (i := 8) scL.nd rfl (.inl rfl))) (fun _ _ _ _ _ => pts_nil) (fun _ _ _ _ _ => (pe_tupN (pa_cons (pe_op op_sub pe_int (pv 8)) (pa_cons (pe_op op_add (pv 8) pe_int) pa_nil))))) pa_nil))) (pe_tupN (pa_cons (pe_tupN (pa_cons (pe_un un_neg pe_int) pa_nil)) (pa_cons (pe_tupN (pa_cons pe_int pa_nil)) pa_nil)))))
      (Evl.pss_cut (ps_if (pt_not (pt_val (pe_call GW hr10 (by rfl) gW FW.kp bW .nil pass0 (pa_cons (pv 2) (pa_cons (pe_op op_repNN (pe_lstN (pa_cons (pe_tupN pa_nil) pa_nil)) pe_int) pa_nil))))) (pss_one (ps_ret pe_bl)) pss_nil)
      (Evl.pss_cut (ps_for PassesOwn.never rfl (pi_range1 (by rfl) T.z_range (pa_cons pe_int pa_nil)) (pg_name (i := 3) scL.nd rfl (.inl rfl)) (Evl.pss_cut (ps_set (i := 2) scL.nd rfl (.inl rfl) (pe_call GB hr4 (by rfl) gB FB.kp bB .nil pass0 (pa_cons (pv 1) (pa_cons (pe_ix ix_list (pe_lstN (pa_cons pe_int (pa_cons pe_int (pa_cons pe_int pa_nil)))) (pe_call GD hr2 (by rfl) gD FD.kp bD .nil pass0 (pa_cons (pv 1) (pa_cons pe_int pa_nil))) (fun _ _ => rfl)) pa_nil))))
      (Evl.pss_cut (ps_set (i := 4) scL.nd rfl (.inl rfl) (pe_call GT hr3 (by rfl) gT FT.kp bT .nil pass0 (pa_cons (pv 1) (pa_cons (pv 2) pa_nil))))
      (pss_one (ps_for PassesOwn.never rfl (pi_list (pe_lstN (pa_cons (pv 4) (pa_cons (pe_call GU hr4 (by rfl) gU FU.kp bU .nil pass0 (pa_cons (pv 1) (pa_cons (pv 4) pa_nil))) (pa_cons (pv 4) pa_nil))))) (pg_name (i := 5) scL.nd rfl (.inl rfl)) (Evl.pss_cut (ps_set (i := 6) scL.nd rfl (.inl rfl) (pe_callTy call_list_ofN (by rfl) T.z_list (by decide +kernel) (pa_cons (pv 5) pa_nil)))
      (Evl.pss_cut (ps_if (pt_cmpR op_isN (pe_call GE hr4 (by rfl) gE FE.kp bE .nil pass0 (pa_cons (pv 2) (pa_cons (pv 5) pa_nil))) pe_non (nomark _)) (pss_one (ps_set (i := 7) scL.nd rfl (.inl rfl) (pe_call GW hr10 (by rfl) gW FW.kp bW .nil pass0 (pa_cons (pv 2) (pa_cons (pv 5) pa_nil))))) (pss_one (ps_set (i := 7) scL.nd rfl (.inl rfl) (pe_call GR hr10 (by rfl) gR FR.kp bR .nil pass0 (pa_cons (pv 2) (pa_cons (pv 5) pa_nil))))))
      (pss_one (ps_if (PW.pt (pw_or (pt_not (pt_val (pv 7))) (pw_or1 (pt_cmpR (op_neD hr.units) (pv 5) (pv 6) (nomark _))))) (pss_one (ps_ret pe_bl)) pss_nil)))))))))
      (pss_one (ps_ret pe_bl)))))), ?_⟩
    refine Evl.q_cut (M := fun σ' H' => ∃ fe c : Addr, σ' = some (.ref a) :: some (.ref fe) :: List.replicate 7 none ∧ Feed H' fe c 0 ∧ TabG H' Ph ∧ TabG H' Po) ?_ ?_
    · exact ⟨.ref a, rfl, a, ns, rfl, hS, fun fe c H1 nf nc s1 F1 => ⟨fe, c, rfl, F1, (Ke.same (F := Nof) s1).tabs _ tg, (Ke.same (F := Nof) s1).tabs _ to⟩⟩
    clear tg to
    rintro σ' H1 ⟨fe, c, rfl, F1, tg, to⟩
    -- the book of the chain
    refine Evl.q_cut (M := fun σ' G => ∃ (b : Addr) (y8 : Option V), σ' = [some (.ref a), some (.ref fe), some (.ref b), none, none, none, none, none, y8] ∧ Same H1 G ∧ Bk G (.ref b) css0) ?_ ?_
    · refine ⟨by show 1 ≤ sizeLine; decide, fun e1 G1 n1 u1 h1 _ => ⟨by show 1 ≤ sizeLine; decide, fun t1 G2 n2 u2 h2 _ => ?_⟩⟩
      refine ⟨1, 8, rfl, by decide, fun Y nY => ?_⟩
      refine lc_range (lo := 1) (n := 7) (Pv := fun i G => Same G2 G ∧ ∃ us, G Y = some (.lst us) ∧ All2 (TupI G) us ((List.range i).map fun j : Nat => [-(1 + (j : Int)), 2 + (j : Int)])) ⟨same_new nY, [], upd_same, .nil⟩ ?_ ?_
      · rintro i G hi ⟨s1, us, hY, au⟩
        have hi : i < 7 := hi
        have lau := au.1
        rw [List.length_map, List.length_range] at lau
        refine ⟨rfl, _, rfl, _, _, rfl, rfl, _, rfl, _, _, rfl, rfl, by show 2 ≤ sizeLine; decide, fun p G3 np s3 hp _ => ?_⟩
        have hY3 := s3 _ _ hY
        refine ⟨_, hY3, small1000 (by omega), Mp.same_wr (s1.trans s3) nY, _, upd_same, ?_⟩
        rw [List.range_succ, List.map_append]
        refine (au.imp fun _ _ r => Lp.TupI.wr (r.ke (.same s3) (F := Nof)) hY3).snoc (Lp.TupI.wr ⟨p, rfl, ?_⟩ hY3)
        rw [hp]
        show some (HO.tup [V.int (0 - (1 + (i : Int))), V.int (1 + (i : Int) + 1)]) = some (HO.tup [V.int (-(1 + (i : Int))), V.int (2 + (i : Int))])
        rw [show (0 : Int) - (1 + (i : Int)) = -(1 + (i : Int)) by omega, show (1 : Int) + (i : Int) + 1 = 2 + (i : Int) by omega]
      · rintro G3 ⟨s3, us, hY, au⟩
        have lau := au.1
        rw [List.length_map, List.length_range] at lau
        have lau : us.length = 7 := lau
        refine ⟨Y, _, rfl, .of hY, fun tt G4 nt s4 ht _ => ?_⟩
        have s24 := s3.trans s4
        refine ⟨t1, tt, _, _, rfl, rfl, s24 _ _ h2, ht, Nat.le_trans (by show 1 + us.length ≤ 1000; omega : _ ≤ 1000) (by decide), fun c1 G5 s5 hc1 => ?_⟩
        refine ⟨_, rfl, by show 1 ≤ sizeLine; decide, fun e8 G6 n6 s6 h8 _ => ⟨by show 1 ≤ sizeLine; decide, fun e9 G7 n7 s7 h9 _ => ⟨by show 2 ≤ sizeLine; decide, fun t2 G8 n8 s8 ht2 _ => ?_⟩⟩⟩
        have s58 := s6.trans (s7.trans s8)
        refine ⟨c1, t2, _, _, rfl, rfl, s58 _ _ hc1, ht2, Nat.le_trans (by simp only [List.length_append, List.length_cons, List.length_nil]; omega : _ ≤ 1000) (by decide), fun b G9 s9 hb => ?_⟩
        have s59 := s58.trans s9
        have s39 := s4.trans (s5.trans s59)
        refine ⟨b, _, rfl, u1.trans (u2.trans (s3.trans s39)), ?_⟩
        have al : All2 (TupI G9) (([.ref e1] ++ us) ++ [.ref e8, .ref e9]) (([[1]] ++ (List.range 7).map fun j : Nat => [-(1 + (j : Int)), 2 + (j : Int)]) ++ [[-8], [8]]) := by
          refine All2.cat (All2.cat (All2.snoc (xs := []) (ys := []) .nil ⟨e1, rfl, s39 _ _ (s3 _ _ (u2 _ _ h1))⟩) (au.imp fun _ _ r => r.ke (.same s39) (F := Nof))) (All2.snoc (xs := [_]) (ys := [_]) (All2.snoc (xs := []) (ys := []) .nil ⟨e8, rfl, s9 _ _ (s8 _ _ (s7 _ _ h8))⟩) ⟨e9, rfl, s9 _ _ (s8 _ _ h9)⟩)
        exact ⟨b, _, rfl, hb, al.1, al.2⟩
    rintro σ' H2 ⟨b, y8, rfl, s2, hb⟩
    have k2 : Ke Nof H1 H2 := .same s2
    -- twelve times the claim of no says
    refine Evl.q_cut (M := fun σ' G => σ' = [some (.ref a), some (.ref fe), some (.ref b), none, none, none, none, none, y8] ∧ Ke Nof H2 G) ?_ ?_
    · refine ⟨_, rfl, Nat.zero_le _, fun e G1 n1 u1 h1 _ => ⟨by show 1 ≤ sizeLine; decide, fun L G2 n2 u2 h2 _ => ⟨L, 12, _, rfl, rfl, h2, by decide, by decide, by show 12 ≤ sizeLine; decide, fun T' G3 n3 u3 h3 _ => ?_⟩⟩⟩
      have u13 : Ke Nof H2 G3 := .same (u1.trans (u2.trans u3))
      have k3 := k2.trans u13
      refine ⟨.ref b, T', List.replicate 12 (.ref e), css0, List.replicate 12 [], rfl, ⟨hb.ke u13, ⟨h3, by rw [List.length_replicate, List.length_replicate], fun i x cs e1 e2 => ?_⟩, ic0, fun c hc => ?_, by decide, by decide, by decide, by decide, k3.tabs _ tg, k3.tabs _ to⟩, nowr0, fun G4 k4 => ⟨true, rfl, rfl, u13.trans k4⟩⟩
      · rw [List.eq_of_mem_replicate (List.mem_of_getElem? e1), List.eq_of_mem_replicate (List.mem_of_getElem? e2)]
        exact ⟨e, rfl, u3 _ _ (u2 _ _ h1)⟩
      · rw [List.eq_of_mem_replicate hc]
        exact .nil
    rintro σ' H3 ⟨rfl, k3⟩
    have k13 := k2.trans k3
    have F3 := k13.feed F1
    have tg3 := k13.tabs _ tg
    have to3 := k13.tabs _ to
    clear tg to k13 k3 k2 hb s2 F1 H2 H1
    refine Evl.q_cut (M := fun _ _ => True) ?_ fun _ G _ => q G
    refine ⟨4, rfl, by decide, by decide, for_range (n := 4) (Pv := fun i σ G => ∃ y2 y3 y4 y5 y6 y7 : Option V, σ = [some (.ref a), some (.ref fe), y2, y3, y4, y5, y6, y7, y8] ∧ Feed G fe c (1000 * i) ∧ TabG G Ph ∧ TabG G Po) ?_ ?_ fun _ _ _ => trivial⟩
    · exact ⟨_, none, none, none, none, none, rfl, F3, tg3, to3⟩
    clear F3 tg3 to3 H3
    rintro i σ H1 hi ⟨y2, y3, y4, y5, y6, y7, rfl, F1, tg, to⟩
    have hi : i < 4 := hi
    -- a book
    refine Evl.q_cut (M := fun σ' G => ∃ (b : Addr) (css : List (List Int)), σ' = [some (.ref a), some (.ref fe), some (.ref b), some (.int (0 + (i : Int))), y4, y5, y6, y7, y8] ∧ Feed G fe c (1000 * i + 510) ∧ TabG G Ph ∧ TabG G Po ∧ Bk G (.ref b) css ∧ (∀ c ∈ css, IsCl c) ∧ 1 ≤ css.length ∧ css.length ≤ 16) ?_ ?_
    · refine ⟨_, rfl, by show 3 ≤ sizeLine; decide, fun Lk G1 n1 u1 h1 _ => ?_⟩
      refine ⟨_, rfl, fe, c, 3, _, rfl, by decide, by decide, F1.same u1, by omega, fun d H2 d0 d1 F2 k2 => ?_⟩
      obtain ⟨m, hm, em⟩ : ∃ m : Int, atI [V.int 3, V.int 5, V.int 8] d = some (.int m) ∧ (1 ≤ m ∧ m ≤ 8) := by
        rcases (by omega : d = 0 ∨ d = 1 ∨ d = 2) with rfl | rfl | rfl
        · exact ⟨3, rfl, by decide⟩
        · exact ⟨5, rfl, by decide⟩
        · exact ⟨8, rfl, by decide⟩
      refine ⟨Lk, _, _, _, rfl, rfl, .of (k2.lst h1 (F1.nf n1)), hm, fe, c, m, _, rfl, em.1, em.2, F2, by omega, fun css p H3 F3 k3 _ hb of_ l1 l16 => ?_⟩
      have kk := (Ke.same u1 : Ke (· = fe) _ _).trans (k2.trans k3)
      exact ⟨p, css, rfl, F3.mono (by omega), kk.tabs _ tg, kk.tabs _ to, hb, fun cs h => (of_ cs h).1, l1, l16⟩
    clear tg to F1 H1 y2 y3
    rintro σ' H1 ⟨b, css, rfl, F1, tg, to, hb, ib, l1, l16⟩
    -- a telling
    refine Evl.q_cut (M := fun σ' G => ∃ (t : Addr) (tvs : List V), σ' = [some (.ref a), some (.ref fe), some (.ref b), some (.int (0 + (i : Int))), some (.ref t), y5, y6, y7, y8] ∧ Feed G fe c (1000 * i + 710) ∧ TabG G Ph ∧ TabG G Po ∧ Bk G (.ref b) css ∧ G t = some (.lst tvs) ∧ GoodC G tvs ∧ tvs ≠ [] ∧ tvs.length ≤ 12) ?_ ?_
    · obtain ⟨b', bvs, eb, hB, lB, aB⟩ := id hb
      cases eb
      have gb : GoodC H1 bvs := fun v hv => by
        obtain ⟨j, hj⟩ := List.getElem?_of_mem hv
        have lj := (List.getElem?_eq_some_iff.mp hj).1
        have hc := List.getElem?_eq_getElem (show j < css.length by omega)
        exact ⟨_, aB j v _ hj hc, ib _ (List.mem_of_getElem? hc)⟩
      refine ⟨_, rfl, _, rfl, fe, c, b, _, bvs, rfl, F1, by omega, hB, gb, fun z => ?_, by omega, fun p tvs G F2 k2 _ hp g n l => ⟨p, tvs, rfl, F2.mono (by omega), k2.tabs _ tg, k2.tabs _ to, hb.ke k2, hp, g, n, l⟩⟩
      rw [z] at lB
      have lB : 0 = css.length := lB
      omega
    clear tg to F1 hb H1 y4
    rintro σ' H1 ⟨t, tvs, rfl, F1, tg, to, hb, ht, gt, nt, lt⟩
    have ntf := Tk.good_nf F1 ht gt
    -- three tellings
    refine ⟨_, rfl, _, rfl, _, rfl, fe, c, t, _, tvs, rfl, F1, by omega, ht, gt, nt, lt, fun u uvs H2 F2 k2 _ hu gu nu lu => ?_⟩
    have tg2 := k2.tabs _ tg
    have to2 := k2.tabs _ to
    have hb2 := hb.ke k2
    have ht2 := k2.lst ht ntf
    have gt2 : GoodC H2 tvs := gt.tups k2.tups
    refine ⟨_, rfl, by show 3 ≤ sizeLine; decide, fun L H3 nL s3 hL _ => ?_⟩
    have k3 : Ke Nof H2 H3 := .same s3
    refine ⟨L, rfl, ⟨_, .of hL⟩, for_list (xs := [.ref t, .ref u, .ref t]) (Pv := fun j σ G => ∃ y5 y6 y7 : Option V, σ = [some (.ref a), some (.ref fe), some (.ref b), some (.int (0 + (i : Int))), some (.ref t), y5, y6, y7, y8] ∧ Ke Nof H2 G ∧ G L = some (.lst [.ref t, .ref u, .ref t])) ?_ (fun j σ G _ z => ?_) ?_ ?_⟩
    · exact ⟨y5, y6, y7, rfl, k3, hL⟩
    · obtain ⟨_, _, _, _, _, z⟩ := z
      exact .of z
    · clear y5 y6 y7
      rintro j v σ G hv ⟨y5, y6, y7, rfl, kG, hLG⟩
      obtain ⟨p, pvs, rfl, hp2, gp2, np, lp⟩ : ∃ (p : Addr) (pvs : List V), v = .ref p ∧ H2 p = some (.lst pvs) ∧ GoodC H2 pvs ∧ pvs ≠ [] ∧ pvs.length ≤ 12 := by
        have m := List.mem_of_getElem? hv
        simp only [List.mem_cons, List.not_mem_nil, or_false] at m
        rcases m with rfl | rfl | rfl
        · exact ⟨t, tvs, rfl, ht2, gt2, nt, lt⟩
        · exact ⟨u, uvs, rfl, hu, gu, nu, lu⟩
        · exact ⟨t, tvs, rfl, ht2, gt2, nt, lt⟩
      obtain ⟨tss, ltss, att, itt⟩ := goodc_css gp2
      have npt : tss ≠ [] := fun z => by
        rw [z] at ltss
        exact np (List.length_eq_zero_iff.mp ltss)
      have hpG := kG.lst hp2 fun z => z
      -- kept
      refine Evl.q_cut (M := fun σ' G' => ∃ D : Addr, σ' = [some (.ref a), some (.ref fe), some (.ref b), some (.int (0 + (i : Int))), some (.ref t), some (.ref p), some (.ref D), y7, y8] ∧ Same G G' ∧ G' D = some (.lst pvs)) ?_ ?_
      · exact ⟨_, rfl, p, _, rfl, .inl (.of hpG), fun D G' nD s hD _ => ⟨D, rfl, s, hD⟩⟩
      rintro σ' G1 ⟨D, rfl, s1, hD⟩
      have kG1 := kG.trans (.same s1)
      have ask : ∀ {G' : Hp}, Ke Nof H2 G' → Ask G' (.ref b) p pvs css tss Ph Po := fun {G'} k => ⟨hb2.ke k, ⟨k.lst hp2 fun z => z, ltss, fun i x cs e1 e2 => (att i x cs e1 e2).ke k⟩, ib, itt, l1, l16, npt, by omega, k.tabs _ tg2, k.tabs _ to2⟩
      -- right
      refine Evl.q_cut (M := fun σ' G' => σ' = [some (.ref a), some (.ref fe), some (.ref b), some (.int (0 + (i : Int))), some (.ref t), some (.ref p), some (.ref D), some (.bl true), y8] ∧ Ke Nof G1 G') ?_ ?_
      · have A1 := ask kG1
        refine ⟨_, rfl, _, rfl, .ref b, p, pvs, css, tss, rfl, A1.b, A1.l, fun c hc => Sy.of (ib c hc), fun c hc => Sy.of (itt c hc), by omega, by omega, A1.th, fun G2 n k4 wn _ => ?_, fun G2 k4 nw => ?_⟩
        · refine ⟨rfl, false, rfl, ?_⟩
          exact ⟨_, rfl, _, rfl, .ref b, p, pvs, css, tss, rfl, ask (kG1.trans k4), wr_not wn, fun G3 k5 => ⟨rfl, k4.trans k5⟩⟩
        · refine ⟨rfl, true, rfl, ?_⟩
          exact ⟨_, rfl, _, rfl, .ref b, p, pvs, css, tss, rfl, ask (kG1.trans k4), nw, fun G3 k5 => ⟨rfl, k4.trans k5⟩⟩
      rintro σ' G2 ⟨rfl, k4⟩
      have kG2 := kG1.trans k4
      have A2 := ask kG2
      refine ⟨_, rfl, true, rfl, ?_⟩
      refine ⟨_, rfl, _, rfl, .list (tss.map Te.cdat), .list (tss.map Te.cdat), .lst (.of A2.l.1) (dp_cls ltss A2.l.2.2), .lst (.of (k4.lst hD fun z => z)) (dp_cls ltss A2.l.2.2), shaped_cls tss, shaped_cls tss, false, by rw [eqv_cls]; rfl, ?_⟩
      exact ⟨_, _, _, rfl, kG2, k4.lst (s1 _ _ hLG) fun z => z⟩
    · rintro σ G ⟨y5, y6, y7, rfl, kG, _⟩
      exact ⟨_, _, _, _, _, _, rfl, (kG.feed F2).mono (by omega), kG.tabs _ tg2, kG.tabs _ to2⟩
end
end K53
namespace Eg
open PySem PySem.Spec PyProof.Rows L2 GxR Nw Dr Kp
/-! ### the end of a law that shows lists: defs whose code objects have tables -/
/-- what stands where a def's code object has its table -/
abbrev Own (K : PySem.W.Frag) (h : Heap) (mg : Str → Option Value) (ys : List Str) : Prop := ∀ y ∈ ys, ∀ f, mg y = some (.ref f) → LamX.OwnTab K f h
/-- what is to be known of a law at the heap h -/
def LawG (l : PySem.W.OpenLaw) (w : World) (K : PySem.W.Frag) (k m : Nat) (x : Str) (mg : Str → Option Value) (g : Addr) (h : Heap) : Prop :=
  ∃ (fd : FuncData) (cs : List (Addr × Addr)) (sp : Sp), (∀ p ∈ cs, h.get? p.2 = some (PySem.W.tabObj #[])) ∧ (∀ p ∈ cs, K.lookup p.2 = none) ∧ (∀ p ∈ cs, PySem.W.CodeHd h p.1 p.2) ∧ (∀ (s : Shared) (u : Value), BindsTo s fd ⟨[u], []⟩ [(x, u)]) ∧
    (∀ (H : Hp) (a : Addr) (ns : List Int), ns.length ≤ m → (∀ p ∈ cs, H p.2 = some (.tbl #[])) → SqL K H a (ns.map V.int) → sp [.ref a] H (fun v _ => v = .bl true) fun _ _ _ => False) ∧
    ∀ base : Heap, K.In base → base.Ns mainGlobals mg → (∀ p ∈ cs, LamX.TabB base mg p.1 p.2) → Gd.FnG l.prog w K mg base k g fd [x] sp
theorem walk_own {l : PySem.W.OpenLaw} {m k : Nat} {pr : Program} {ls : List Str} {XP : (Str → Option Value) → Heap → Prop} {YP : World → Heap → Prop} {d : DefRec} {K : Params → PySem.W.Frag} {x : Str} (ys : List Str)
    (e1 : l.most = some m) (e2 : m ≤ sizeLine) (e3 : d.params.defaults = []) (room : Room k callerA) (named : ∀ y ∈ ys, ((recsOf pr).any fun e => e.name == y) = true) (inK : ∀ (w : World) (h : Heap), YP w h → (K w.params).In h)
    (go : ∀ (w : World) (mg : Str → Option Value) (g : Addr) (h : Heap), YP w h → (K w.params).In h → h.Ns mainGlobals mg → mg d.name = some (.ref g) → Own (K w.params) h mg ys → LawG l w (K w.params) k m x mg g h) :
    PySem.W.WalkO pr ls XP YP l.row.toRowW d [] (fun f vs => PySem.call f vs) := by
  refine Att.attach_callB e1 e3 fun w s0 s1 mg mb fa o pm cd doc a us ns G Y ho hd hcd hmg hobj hints hlen hbits hg => ?_
  have inH := inK w _ Y
  have tabs : Own (K w.params) s1.heap mg ys := fun y hy f hf c P ob fd e dd vs sl q1 q2 q3 q4 q5 => by
    obtain ⟨r, hr1, hr2⟩ := List.any_eq_true.mp (named y hy)
    obtain ⟨f', ob', fd', c', P', t1, t2, t3, t4, t5, ⟨⟨oc, vc, u1, _, u3, u4⟩, u5⟩⟩ := G.T.tab r hr1
    rw [show r.name = y from beq_iff_eq.mp hr2, hf] at t1
    cases t1
    rw [inH _ _ q1] at t2
    cases t2
    rw [q2] at t3
    cases t3
    rw [q3] at t4
    cases t4
    rw [inH _ _ q4] at u1
    cases u1
    cases u3
    rw [q5] at u4
    cases u4
    exact u5
  obtain ⟨fd, cs, sp, h1, h2, h3, h4, h5, h6⟩ := go w mg fa _ Y inH G.T.g hmg tabs
  exact Gd.law_at inH G.T.g G.T.b G.T.builtins G.T.nolimit hg h1 h2 h3 G.T.bmain hobj hints (Nat.le_trans hlen e2) room h6 h4 fun H z1 z2 => h5 H a ns hlen z1 z2
end Eg
namespace Cf
open PySem PySem.Spec PyProof.Rows L2
/-! ### classes of the program: isinstance, except -/
theorem cls_s {K : PySem.W.Frag} {C : Addr} (h : PySem.W.isClsIn K C = true) : (PySem.W.clsIn K C).isSome = true := h
theorem kit_cls {K : PySem.W.Frag} {t : Value} {D : Addr} {b : Bool} (h1 : (PySem.W.clsIn K D).isSome = true) (h2 : PySem.W.typeIn K (.ref D) = some (.type "type")) (h : PySem.W.subIn K t (.ref D) = some b) : PySem.W.kitCls K t (.ref D) = some b := by
  have e : ((PySem.W.clsIn K D).isSome && PySem.W.typeIn K (.ref D) == some (.type "type")) = true := by
    rw [h1, h2]
    rfl
  show (if ((PySem.W.clsIn K D).isSome && PySem.W.typeIn K (.ref D) == some (.type "type")) = true then PySem.W.subIn K t (.ref D) else none) = some b
  rw [if_pos e, h]
theorem kit_t {K : PySem.W.Frag} {t : Value} {D : Addr} (h1 : (PySem.W.clsIn K D).isSome = true) (h2 : PySem.W.typeIn K (.ref D) = some (.type "type")) (h : PySem.W.subIn K t (.ref D) = some true) : PySem.W.kitOne K t (.ref D) = some true := by
  unfold PySem.W.kitOne
  split
  · rfl
  · exact kit_cls h1 h2 h
theorem kit_f {K : PySem.W.Frag} {C D : Addr} (h1 : (PySem.W.clsIn K D).isSome = true) (h2 : PySem.W.typeIn K (.ref D) = some (.type "type")) (h : PySem.W.subIn K (.ref C) (.ref D) = some false) (hs : PySem.W.subIn K (.ref C) (.ref C) = some true) : PySem.W.kitOne K (.ref C) (.ref D) = some false := by
  unfold PySem.W.kitOne
  split
  · rename_i e
    have z : C = D := Value.ref.inj (beq_iff_eq.mp e)
    subst z
    rw [h] at hs
    cases hs
  · exact kit_cls h1 h2 h
theorem kit_v {K : PySem.W.Frag} {C : Addr} (h : PySem.W.subIn K (.ref C) (.type "ValueError") = some true) : PySem.W.kitOne K (.ref C) (.type "ValueError") = some true := by
  unfold PySem.W.kitOne
  split
  · rfl
  · show (if PySem.W.kitMeta "ValueError" = true then PySem.W.subIn K (.ref C) (.type "ValueError") else none) = some true
    rw [if_pos (by decide +kernel), h]
theorem exm_t {K : PySem.W.Frag} {t : Value} {D : Addr} (hb : PySem.W.subIn K (.ref D) (.type "BaseException") = some true) (h1 : (PySem.W.clsIn K D).isSome = true) (h2 : PySem.W.typeIn K (.ref D) = some (.type "type")) (h : PySem.W.subIn K t (.ref D) = some true) : PySem.W.exmOne K t (.ref D) = some true := by
  unfold PySem.W.exmOne
  rw [hb, if_pos (by decide)]
  exact kit_cls h1 h2 h
end Cf
namespace K53
open PySem PySem.Spec PyProof.Rows L2 GxR Nw Dr Kp Se Cl En Fo Fd Te Eg
theorem all_mk {l : PySem.W.OpenLaw} {w : World} {K : PySem.W.Frag} {h : Heap} {mg : Str → Option Value} {top : Addr} (X : K.In h) (G : h.Ns mainGlobals mg) (htop : mg "law" = some (.ref top)) (ow : Own K h mg ["falls", "has_opposites"]) {fM fD fO fC fB fl fc fe fw fu ft fr fY fA fS fF fP fb fW fk pw pe pn pu pr pp po pt pm dw dn dq dc dv dr df fL gH gO cH PH cO PO S c0 c1 c2 c3 c4 c5 c6 c7 c8 : Addr}
    {od_fM an_fM : Option Addr} {sl_fM : Array (Option Value)} {oc_fM kV_fM dc_fM pm_fM ct_fM : Value} {cd_fM : Value} {od_fD an_fD : Option Addr} {sl_fD : Array (Option Value)} {oc_fD kV_fD dc_fD pm_fD ct_fD : Value} {cd_fD : Value} {od_fO an_fO : Option Addr} {sl_fO : Array (Option Value)} {oc_fO kV_fO dc_fO pm_fO ct_fO : Value} {cd_fO : Value} {od_fC an_fC : Option Addr} {sl_fC : Array (Option Value)} {oc_fC kV_fC dc_fC pm_fC ct_fC : Value} {cd_fC : Value} {od_fB an_fB : Option Addr} {sl_fB : Array (Option Value)} {oc_fB kV_fB dc_fB pm_fB ct_fB : Value} {cd_fB : Value} {od_fl an_fl : Option Addr} {sl_fl : Array (Option Value)} {oc_fl kV_fl dc_fl pm_fl ct_fl : Value} {cd_fl : Value} {od_fc an_fc : Option Addr} {sl_fc : Array (Option Value)} {oc_fc kV_fc dc_fc pm_fc ct_fc : Value} {cd_fc : Value} {od_fe an_fe : Option Addr} {sl_fe : Array (Option Value)} {oc_fe kV_fe dc_fe pm_fe ct_fe : Value} {cd_fe : Value} {od_fw an_fw : Option Addr} {sl_fw : Array (Option Value)} {oc_fw kV_fw dc_fw pm_fw ct_fw : Value} {cd_fw : Value} {od_fu an_fu : Option Addr} {sl_fu : Array (Option Value)} {oc_fu kV_fu dc_fu pm_fu ct_fu : Value} {cd_fu : Value} {od_ft an_ft : Option Addr} {sl_ft : Array (Option Value)} {oc_ft kV_ft dc_ft pm_ft ct_ft : Value} {cd_ft : Value} {od_fr an_fr : Option Addr} {sl_fr : Array (Option Value)} {oc_fr kV_fr dc_fr pm_fr ct_fr : Value} {cd_fr : Value} {od_fY an_fY : Option Addr} {sl_fY : Array (Option Value)} {oc_fY kV_fY dc_fY pm_fY ct_fY : Value} {cd_fY : Value} {od_fA an_fA : Option Addr} {sl_fA : Array (Option Value)} {oc_fA kV_fA dc_fA pm_fA ct_fA : Value} {cd_fA : Value} {od_fS an_fS : Option Addr} {sl_fS : Array (Option Value)} {oc_fS kV_fS dc_fS pm_fS ct_fS : Value} {cd_fS : Value} {od_fF an_fF : Option Addr} {sl_fF : Array (Option Value)} {oc_fF kV_fF dc_fF pm_fF ct_fF : Value} {cd_fF : Value} {od_fP an_fP : Option Addr} {sl_fP : Array (Option Value)} {oc_fP kV_fP dc_fP pm_fP ct_fP : Value} {cd_fP : Value} {od_fb an_fb : Option Addr} {sl_fb : Array (Option Value)} {oc_fb kV_fb dc_fb pm_fb ct_fb : Value} {cd_fb : Value} {od_fW an_fW : Option Addr} {sl_fW : Array (Option Value)} {oc_fW kV_fW dc_fW pm_fW ct_fW : Value} {cd_fW : Value} {od_fk an_fk : Option Addr} {sl_fk : Array (Option Value)} {oc_fk kV_fk dc_fk pm_fk ct_fk : Value} {cd_fk : Value} {od_pw an_pw : Option Addr} {sl_pw : Array (Option Value)} {oc_pw kV_pw dc_pw pm_pw ct_pw : Value} {cd_pw : Value} {od_pe an_pe : Option Addr} {sl_pe : Array (Option Value)} {oc_pe kV_pe dc_pe pm_pe ct_pe : Value} {cd_pe : Value} {od_pn an_pn : Option Addr} {sl_pn : Array (Option Value)} {oc_pn kV_pn dc_pn pm_pn ct_pn : Value} {cd_pn : Value} {od_pu an_pu : Option Addr} {sl_pu : Array (Option Value)} {oc_pu kV_pu dc_pu pm_pu ct_pu : Value} {cd_pu : Value} {od_pr an_pr : Option Addr} {sl_pr : Array (Option Value)} {oc_pr kV_pr dc_pr pm_pr ct_pr : Value} {cd_pr : Value} {od_pp an_pp : Option Addr} {sl_pp : Array (Option Value)} {oc_pp kV_pp dc_pp pm_pp ct_pp : Value} {cd_pp : Value} {od_po an_po : Option Addr} {sl_po : Array (Option Value)} {oc_po kV_po dc_po pm_po ct_po : Value} {cd_po : Value} {od_pt an_pt : Option Addr} {sl_pt : Array (Option Value)} {oc_pt kV_pt dc_pt pm_pt ct_pt : Value} {cd_pt : Value} {od_pm an_pm : Option Addr} {sl_pm : Array (Option Value)} {oc_pm kV_pm dc_pm pm_pm ct_pm : Value} {cd_pm : Value} {od_dw an_dw : Option Addr} {sl_dw : Array (Option Value)} {oc_dw kV_dw dc_dw pm_dw ct_dw : Value} {cd_dw : Value} {od_dn an_dn : Option Addr} {sl_dn : Array (Option Value)} {oc_dn kV_dn dc_dn pm_dn ct_dn : Value} {cd_dn : Value} {od_dq an_dq : Option Addr} {sl_dq : Array (Option Value)} {oc_dq kV_dq dc_dq pm_dq ct_dq : Value} {cd_dq : Value} {od_dc an_dc : Option Addr} {sl_dc : Array (Option Value)} {oc_dc kV_dc dc_dc pm_dc ct_dc : Value} {cd_dc : Value} {od_dv an_dv : Option Addr} {sl_dv : Array (Option Value)} {oc_dv kV_dv dc_dv pm_dv ct_dv : Value} {cd_dv : Value} {od_dr an_dr : Option Addr} {sl_dr : Array (Option Value)} {oc_dr kV_dr dc_dr pm_dr ct_dr : Value} {cd_dr : Value} {od_df an_df : Option Addr} {sl_df : Array (Option Value)} {oc_df kV_df dc_df pm_df ct_df : Value} {cd_df : Value} {od_fL an_fL : Option Addr} {sl_fL : Array (Option Value)} {oc_fL kV_fL dc_fL pm_fL ct_fL : Value} {cd_fL : Value} {od_gH an_gH : Option Addr} {sl_gH : Array (Option Value)} {oc_gH kV_gH dc_gH pm_gH ct_gH : Value} {od_gO an_gO : Option Addr} {sl_gO : Array (Option Value)} {oc_gO kV_gO dc_gO pm_gO ct_gO : Value} {e_H : Value} {dd_H : Option Addr} {vs_H : Array Value} {sf_H : Array (Option Value)} {e_O : Value} {dd_O : Option Addr} {vs_O : Array Value} {sf_O : Array (Option Value)} {tk_MOST_THINGS : Tok} {tk_MOST_TOLD : Tok}
    (b_fM : PySem.W.nsIn K mainGlobals "_law_e_fresh" = some (some (.ref fM)))
    (l_fM : K.lookup fM = some ⟨oc_fM, od_fM, .func (PySem.W.fnOf "_law_e_fresh" "_law_e_fresh" (defArgs sFre) (defBody sFre) (defScope sFre) .none kV_fM dc_fM pm_fM an_fM cd_fM ct_fM), sl_fM⟩)
    (c_fM : PySem.W.codeIn K cd_fM "_law_e_fresh" = true)
    (k_fM : PySem.W.keepIn K (.ref fM) = true)
    (b_fD : PySem.W.nsIn K mainGlobals "_law_e_take" = some (some (.ref fD)))
    (l_fD : K.lookup fD = some ⟨oc_fD, od_fD, .func (PySem.W.fnOf "_law_e_take" "_law_e_take" (defArgs sDrw) (defBody sDrw) (defScope sDrw) .none kV_fD dc_fD pm_fD an_fD cd_fD ct_fD), sl_fD⟩)
    (c_fD : PySem.W.codeIn K cd_fD "_law_e_take" = true)
    (k_fD : PySem.W.keepIn K (.ref fD) = true)
    (b_fO : PySem.W.nsIn K mainGlobals "_law_e_pen" = some (some (.ref fO)))
    (l_fO : K.lookup fO = some ⟨oc_fO, od_fO, .func (PySem.W.fnOf "_law_e_pen" "_law_e_pen" (defArgs sOpn) (defBody sOpn) (defScope sOpn) .none kV_fO dc_fO pm_fO an_fO cd_fO ct_fO), sl_fO⟩)
    (c_fO : PySem.W.codeIn K cd_fO "_law_e_pen" = true)
    (k_fO : PySem.W.keepIn K (.ref fO) = true)
    (b_fC : PySem.W.nsIn K mainGlobals "_law_e_claim" = some (some (.ref fC)))
    (l_fC : K.lookup fC = some ⟨oc_fC, od_fC, .func (PySem.W.fnOf "_law_e_claim" "_law_e_claim" (defArgs Cl.sClm) (defBody Cl.sClm) (defScope Cl.sClm) .none kV_fC dc_fC pm_fC an_fC cd_fC ct_fC), sl_fC⟩)
    (c_fC : PySem.W.codeIn K cd_fC "_law_e_claim" = true)
    (k_fC : PySem.W.keepIn K (.ref fC) = true)
    (b_fB : PySem.W.nsIn K mainGlobals "_law_e_book" = some (some (.ref fB)))
    (l_fB : K.lookup fB = some ⟨oc_fB, od_fB, .func (PySem.W.fnOf "_law_e_book" "_law_e_book" (defArgs Cl.sBok) (defBody Cl.sBok) (defScope Cl.sBok) .none kV_fB dc_fB pm_fB an_fB cd_fB ct_fB), sl_fB⟩)
    (c_fB : PySem.W.codeIn K cd_fB "_law_e_book" = true)
    (k_fB : PySem.W.keepIn K (.ref fB) = true)
    (b_fl : PySem.W.nsIn K mainGlobals "_law_e_left" = some (some (.ref fl)))
    (l_fl : K.lookup fl = some ⟨oc_fl, od_fl, .func (PySem.W.fnOf "_law_e_left" "_law_e_left" (defArgs sElf) (defBody sElf) (defScope sElf) .none kV_fl dc_fl pm_fl an_fl cd_fl ct_fl), sl_fl⟩)
    (c_fl : PySem.W.codeIn K cd_fl "_law_e_left" = true)
    (k_fl : PySem.W.keepIn K (.ref fl) = true)
    (b_fc : PySem.W.nsIn K mainGlobals "_law_e_closed" = some (some (.ref fc)))
    (l_fc : K.lookup fc = some ⟨oc_fc, od_fc, .func (PySem.W.fnOf "_law_e_closed" "_law_e_closed" (defArgs sClo) (defBody sClo) (defScope sClo) .none kV_fc dc_fc pm_fc an_fc cd_fc ct_fc), sl_fc⟩)
    (c_fc : PySem.W.codeIn K cd_fc "_law_e_closed" = true)
    (k_fc : PySem.W.keepIn K (.ref fc) = true)
    (b_fe : PySem.W.nsIn K mainGlobals "_law_e_falls" = some (some (.ref fe)))
    (l_fe : K.lookup fe = some ⟨oc_fe, od_fe, .func (PySem.W.fnOf "_law_e_falls" "_law_e_falls" (defArgs sEfa) (defBody sEfa) (defScope sEfa) .none kV_fe dc_fe pm_fe an_fe cd_fe ct_fe), sl_fe⟩)
    (c_fe : PySem.W.codeIn K cd_fe "_law_e_falls" = true)
    (k_fe : PySem.W.keepIn K (.ref fe) = true)
    (b_fw : PySem.W.nsIn K mainGlobals "_law_e_wrong" = some (some (.ref fw)))
    (l_fw : K.lookup fw = some ⟨oc_fw, od_fw, .func (PySem.W.fnOf "_law_e_wrong" "_law_e_wrong" (defArgs sEwr) (defBody sEwr) (defScope sEwr) .none kV_fw dc_fw pm_fw an_fw cd_fw ct_fw), sl_fw⟩)
    (c_fw : PySem.W.codeIn K cd_fw "_law_e_wrong" = true)
    (k_fw : PySem.W.keepIn K (.ref fw) = true)
    (b_fu : PySem.W.nsIn K mainGlobals "_law_e_cut" = some (some (.ref fu)))
    (l_fu : K.lookup fu = some ⟨oc_fu, od_fu, .func (PySem.W.fnOf "_law_e_cut" "_law_e_cut" (defArgs sEcu) (defBody sEcu) (defScope sEcu) .none kV_fu dc_fu pm_fu an_fu cd_fu ct_fu), sl_fu⟩)
    (c_fu : PySem.W.codeIn K cd_fu "_law_e_cut" = true)
    (k_fu : PySem.W.keepIn K (.ref fu) = true)
    (b_ft : PySem.W.nsIn K mainGlobals "_law_e_telling" = some (some (.ref ft)))
    (l_ft : K.lookup ft = some ⟨oc_ft, od_ft, .func (PySem.W.fnOf "_law_e_telling" "_law_e_telling" (defArgs sEtl) (defBody sEtl) (defScope sEtl) .none kV_ft dc_ft pm_ft an_ft cd_ft ct_ft), sl_ft⟩)
    (c_ft : PySem.W.codeIn K cd_ft "_law_e_telling" = true)
    (k_ft : PySem.W.keepIn K (.ref ft) = true)
    (b_fr : PySem.W.nsIn K mainGlobals "_law_e_turned" = some (some (.ref fr)))
    (l_fr : K.lookup fr = some ⟨oc_fr, od_fr, .func (PySem.W.fnOf "_law_e_turned" "_law_e_turned" (defArgs sEtu) (defBody sEtu) (defScope sEtu) .none kV_fr dc_fr pm_fr an_fr cd_fr ct_fr), sl_fr⟩)
    (c_fr : PySem.W.codeIn K cd_fr "_law_e_turned" = true)
    (k_fr : PySem.W.keepIn K (.ref fr) = true)
    (b_fY : PySem.W.nsIn K mainGlobals "forced_say" = some (some (.ref fY)))
    (l_fY : K.lookup fY = some ⟨oc_fY, od_fY, .func (PySem.W.fnOf "forced_say" "forced_say" (defArgs sFsy) (defBody sFsy) (defScope sFsy) .none kV_fY dc_fY pm_fY an_fY cd_fY ct_fY), sl_fY⟩)
    (c_fY : PySem.W.codeIn K cd_fY "forced_say" = true)
    (k_fY : PySem.W.keepIn K (.ref fY) = true)
    (b_fA : PySem.W.nsIn K mainGlobals "first_fall" = some (some (.ref fA)))
    (l_fA : K.lookup fA = some ⟨oc_fA, od_fA, .func (PySem.W.fnOf "first_fall" "first_fall" (defArgs sFfa) (defBody sFfa) (defScope sFfa) .none kV_fA dc_fA pm_fA an_fA cd_fA ct_fA), sl_fA⟩)
    (c_fA : PySem.W.codeIn K cd_fA "first_fall" = true)
    (k_fA : PySem.W.keepIn K (.ref fA) = true)
    (b_fS : PySem.W.nsIn K mainGlobals "first_step" = some (some (.ref fS)))
    (l_fS : K.lookup fS = some ⟨oc_fS, od_fS, .func (PySem.W.fnOf "first_step" "first_step" (defArgs sFst) (defBody sFst) (defScope sFst) .none kV_fS dc_fS pm_fS an_fS cd_fS ct_fS), sl_fS⟩)
    (c_fS : PySem.W.codeIn K cd_fS "first_step" = true)
    (k_fS : PySem.W.keepIn K (.ref fS) = true)
    (b_fF : PySem.W.nsIn K mainGlobals "forced" = some (some (.ref fF)))
    (l_fF : K.lookup fF = some ⟨oc_fF, od_fF, .func (PySem.W.fnOf "forced" "forced" (defArgs sFod) (defBody sFod) (defScope sFod) .none kV_fF dc_fF pm_fF an_fF cd_fF ct_fF), sl_fF⟩)
    (c_fF : PySem.W.codeIn K cd_fF "forced" = true)
    (k_fF : PySem.W.keepIn K (.ref fF) = true)
    (b_fP : PySem.W.nsIn K mainGlobals "opposites" = some (some (.ref fP)))
    (l_fP : K.lookup fP = some ⟨oc_fP, od_fP, .func (PySem.W.fnOf "opposites" "opposites" (defArgs sOpp) (defBody sOpp) (defScope sOpp) .none kV_fP dc_fP pm_fP an_fP cd_fP ct_fP), sl_fP⟩)
    (c_fP : PySem.W.codeIn K cd_fP "opposites" = true)
    (k_fP : PySem.W.keepIn K (.ref fP) = true)
    (b_fb : PySem.W.nsIn K mainGlobals "follows_by_force" = some (some (.ref fb)))
    (l_fb : K.lookup fb = some ⟨oc_fb, od_fb, .func (PySem.W.fnOf "follows_by_force" "follows_by_force" (defArgs sFbf) (defBody sFbf) (defScope sFbf) .none kV_fb dc_fb pm_fb an_fb cd_fb ct_fb), sl_fb⟩)
    (c_fb : PySem.W.codeIn K cd_fb "follows_by_force" = true)
    (k_fb : PySem.W.keepIn K (.ref fb) = true)
    (b_fW : PySem.W.nsIn K mainGlobals "wrong_at" = some (some (.ref fW)))
    (l_fW : K.lookup fW = some ⟨oc_fW, od_fW, .func (PySem.W.fnOf "wrong_at" "wrong_at" (defArgs sWrg) (defBody sWrg) (defScope sWrg) .none kV_fW dc_fW pm_fW an_fW cd_fW ct_fW), sl_fW⟩)
    (c_fW : PySem.W.codeIn K cd_fW "wrong_at" = true)
    (k_fW : PySem.W.keepIn K (.ref fW) = true)
    (b_fk : PySem.W.nsIn K mainGlobals "check_telling" = some (some (.ref fk)))
    (l_fk : K.lookup fk = some ⟨oc_fk, od_fk, .func (PySem.W.fnOf "check_telling" "check_telling" (defArgs sChk) (defBody sChk) (defScope sChk) .none kV_fk dc_fk pm_fk an_fk cd_fk ct_fk), sl_fk⟩)
    (c_fk : PySem.W.codeIn K cd_fk "check_telling" = true)
    (k_fk : PySem.W.keepIn K (.ref fk) = true)
    (b_pw : PySem.W.nsIn K mainGlobals "is_whole" = some (some (.ref pw)))
    (l_pw : K.lookup pw = some ⟨oc_pw, od_pw, .func (PySem.W.fnOf "is_whole" "is_whole" (defArgs Ct.sWho) (defBody Ct.sWho) (defScope Ct.sWho) .none kV_pw dc_pw pm_pw an_pw cd_pw ct_pw), sl_pw⟩)
    (c_pw : PySem.W.codeIn K cd_pw "is_whole" = true)
    (k_pw : PySem.W.keepIn K (.ref pw) = true)
    (b_pe : PySem.W.nsIn K mainGlobals "can_meet" = some (some (.ref pe)))
    (l_pe : K.lookup pe = some ⟨oc_pe, od_pe, .func (PySem.W.fnOf "can_meet" "can_meet" (defArgs Ct.sCme) (defBody Ct.sCme) (defScope Ct.sCme) .none kV_pe dc_pe pm_pe an_pe cd_pe ct_pe), sl_pe⟩)
    (c_pe : PySem.W.codeIn K cd_pe "can_meet" = true)
    (k_pe : PySem.W.keepIn K (.ref pe) = true)
    (b_pn : PySem.W.nsIn K mainGlobals "cut_or_none" = some (some (.ref pn)))
    (l_pn : K.lookup pn = some ⟨oc_pn, od_pn, .func (PySem.W.fnOf "cut_or_none" "cut_or_none" (defArgs Ct.sCon) (defBody Ct.sCon) (defScope Ct.sCon) .none kV_pn dc_pn pm_pn an_pn cd_pn ct_pn), sl_pn⟩)
    (c_pn : PySem.W.codeIn K cd_pn "cut_or_none" = true)
    (k_pn : PySem.W.keepIn K (.ref pn) = true)
    (b_pu : PySem.W.nsIn K mainGlobals "is_number_of" = some (some (.ref pu)))
    (l_pu : K.lookup pu = some ⟨oc_pu, od_pu, .func (PySem.W.fnOf "is_number_of" "is_number_of" (defArgs Lp.sNum) (defBody Lp.sNum) (defScope Lp.sNum) .none kV_pu dc_pu pm_pu an_pu cd_pu ct_pu), sl_pu⟩)
    (c_pu : PySem.W.codeIn K cd_pu "is_number_of" = true)
    (k_pu : PySem.W.keepIn K (.ref pu) = true)
    (b_pr : PySem.W.nsIn K mainGlobals "claim_of_row" = some (some (.ref pr)))
    (l_pr : K.lookup pr = some ⟨oc_pr, od_pr, .func (PySem.W.fnOf "claim_of_row" "claim_of_row" (defArgs Lp.sRow) (defBody Lp.sRow) (defScope Lp.sRow) .none kV_pr dc_pr pm_pr an_pr cd_pr ct_pr), sl_pr⟩)
    (c_pr : PySem.W.codeIn K cd_pr "claim_of_row" = true)
    (k_pr : PySem.W.keepIn K (.ref pr) = true)
    (b_pp : PySem.W.nsIn K mainGlobals "put_row" = some (some (.ref pp)))
    (l_pp : K.lookup pp = some ⟨oc_pp, od_pp, .func (PySem.W.fnOf "put_row" "put_row" (defArgs Mp.sPut) (defBody Mp.sPut) (defScope Mp.sPut) .none kV_pp dc_pp pm_pp an_pp cd_pp ct_pp), sl_pp⟩)
    (c_pp : PySem.W.codeIn K cd_pp "put_row" = true)
    (k_pp : PySem.W.keepIn K (.ref pp) = true)
    (b_po : PySem.W.nsIn K mainGlobals "cut_off" = some (some (.ref po)))
    (l_po : K.lookup po = some ⟨oc_po, od_po, .func (PySem.W.fnOf "cut_off" "cut_off" (defArgs Mp.sCof) (defBody Mp.sCof) (defScope Mp.sCof) .none kV_po dc_po pm_po an_po cd_po ct_po), sl_po⟩)
    (c_po : PySem.W.codeIn K cd_po "cut_off" = true)
    (k_po : PySem.W.keepIn K (.ref po) = true)
    (b_pt : PySem.W.nsIn K mainGlobals "put_told" = some (some (.ref pt)))
    (l_pt : K.lookup pt = some ⟨oc_pt, od_pt, .func (PySem.W.fnOf "put_told" "put_told" (defArgs Mp.sPtd) (defBody Mp.sPtd) (defScope Mp.sPtd) .none kV_pt dc_pt pm_pt an_pt cd_pt ct_pt), sl_pt⟩)
    (c_pt : PySem.W.codeIn K cd_pt "put_told" = true)
    (k_pt : PySem.W.keepIn K (.ref pt) = true)
    (b_pm : PySem.W.nsIn K mainGlobals "made_whole" = some (some (.ref pm)))
    (l_pm : K.lookup pm = some ⟨oc_pm, od_pm, .func (PySem.W.fnOf "made_whole" "made_whole" (defArgs Mp.sMwh) (defBody Mp.sMwh) (defScope Mp.sMwh) .none kV_pm dc_pm pm_pm an_pm cd_pm ct_pm), sl_pm⟩)
    (c_pm : PySem.W.codeIn K cd_pm "made_whole" = true)
    (k_pm : PySem.W.keepIn K (.ref pm) = true)
    (b_dw : PySem.W.nsIn K mainGlobals "_law_e_whole" = some (some (.ref dw)))
    (l_dw : K.lookup dw = some ⟨oc_dw, od_dw, .func (PySem.W.fnOf "_law_e_whole" "_law_e_whole" (defArgs Ml.sWho) (defBody Ml.sWho) (defScope Ml.sWho) .none kV_dw dc_dw pm_dw an_dw cd_dw ct_dw), sl_dw⟩)
    (c_dw : PySem.W.codeIn K cd_dw "_law_e_whole" = true)
    (k_dw : PySem.W.keepIn K (.ref dw) = true)
    (b_dn : PySem.W.nsIn K mainGlobals "_law_e_is_number" = some (some (.ref dn)))
    (l_dn : K.lookup dn = some ⟨oc_dn, od_dn, .func (PySem.W.fnOf "_law_e_is_number" "_law_e_is_number" (defArgs Ml.sIsn) (defBody Ml.sIsn) (defScope Ml.sIsn) .none kV_dn dc_dn pm_dn an_dn cd_dn ct_dn), sl_dn⟩)
    (c_dn : PySem.W.codeIn K cd_dn "_law_e_is_number" = true)
    (k_dn : PySem.W.keepIn K (.ref dn) = true)
    (b_dq : PySem.W.nsIn K mainGlobals "_law_e_row_claim" = some (some (.ref dq)))
    (l_dq : K.lookup dq = some ⟨oc_dq, od_dq, .func (PySem.W.fnOf "_law_e_row_claim" "_law_e_row_claim" (defArgs Ml.sRcl) (defBody Ml.sRcl) (defScope Ml.sRcl) .none kV_dq dc_dq pm_dq an_dq cd_dq ct_dq), sl_dq⟩)
    (c_dq : PySem.W.codeIn K cd_dq "_law_e_row_claim" = true)
    (k_dq : PySem.W.keepIn K (.ref dq) = true)
    (b_dc : PySem.W.nsIn K mainGlobals "_law_e_claims" = some (some (.ref dc)))
    (l_dc : K.lookup dc = some ⟨oc_dc, od_dc, .func (PySem.W.fnOf "_law_e_claims" "_law_e_claims" (defArgs Ml.sEcs) (defBody Ml.sEcs) (defScope Ml.sEcs) .none kV_dc dc_dc pm_dc an_dc cd_dc ct_dc), sl_dc⟩)
    (c_dc : PySem.W.codeIn K cd_dc "_law_e_claims" = true)
    (k_dc : PySem.W.keepIn K (.ref dc) = true)
    (b_dv : PySem.W.nsIn K mainGlobals "_law_e_wide" = some (some (.ref dv)))
    (l_dv : K.lookup dv = some ⟨oc_dv, od_dv, .func (PySem.W.fnOf "_law_e_wide" "_law_e_wide" (defArgs Ml.sWid) (defBody Ml.sWid) (defScope Ml.sWid) .none kV_dv dc_dv pm_dv an_dv cd_dv ct_dv), sl_dv⟩)
    (c_dv : PySem.W.codeIn K cd_dv "_law_e_wide" = true)
    (k_dv : PySem.W.keepIn K (.ref dv) = true)
    (b_dr : PySem.W.nsIn K mainGlobals "_law_e_whole_right" = some (some (.ref dr)))
    (l_dr : K.lookup dr = some ⟨oc_dr, od_dr, .func (PySem.W.fnOf "_law_e_whole_right" "_law_e_whole_right" (defArgs Mr.sWhr) (defBody Mr.sWhr) (defScope Mr.sWhr) .none kV_dr dc_dr pm_dr an_dr cd_dr ct_dr), sl_dr⟩)
    (c_dr : PySem.W.codeIn K cd_dr "_law_e_whole_right" = true)
    (k_dr : PySem.W.keepIn K (.ref dr) = true)
    (b_df : PySem.W.nsIn K mainGlobals "_law_e_refused" = some (some (.ref df)))
    (l_df : K.lookup df = some ⟨oc_df, od_df, .func (PySem.W.fnOf "_law_e_refused" "_law_e_refused" (defArgs Mr.sRfs) (defBody Mr.sRfs) (defScope Mr.sRfs) .none kV_df dc_df pm_df an_df cd_df ct_df), sl_df⟩)
    (c_df : PySem.W.codeIn K cd_df "_law_e_refused" = true)
    (k_df : PySem.W.keepIn K (.ref df) = true)
    (b_fL : PySem.W.nsIn K mainGlobals "law" = some (some (.ref fL)))
    (l_fL : K.lookup fL = some ⟨oc_fL, od_fL, .func (PySem.W.fnOf "law" "law" (defArgs K53.sLaw) (defBody K53.sLaw) (defScope K53.sLaw) .none kV_fL dc_fL pm_fL an_fL cd_fL ct_fL), sl_fL⟩)
    (c_fL : PySem.W.codeIn K cd_fL "law" = true)
    (k_fL : PySem.W.keepIn K (.ref fL) = true)
    (b_gH : PySem.W.nsIn K mainGlobals "falls" = some (some (.ref gH)))
    (l_gH : K.lookup gH = some ⟨oc_gH, od_gH, .func (PySem.W.fnOf "falls" "falls" (defArgs sFal) (defBody sFal) (defScope sFal) .none kV_gH dc_gH pm_gH an_gH (.ref cH) ct_gH), sl_gH⟩)
    (c_gH : PySem.W.codeIn K (.ref cH) "falls" = true)
    (k_gH : PySem.W.keepIn K (.ref gH) = true)
    (b_gO : PySem.W.nsIn K mainGlobals "has_opposites" = some (some (.ref gO)))
    (l_gO : K.lookup gO = some ⟨oc_gO, od_gO, .func (PySem.W.fnOf "has_opposites" "has_opposites" (defArgs Ct.sHop) (defBody Ct.sHop) (defScope Ct.sHop) .none kV_gO dc_gO pm_gO an_gO (.ref cO) ct_gO), sl_gO⟩)
    (c_gO : PySem.W.codeIn K (.ref cO) "has_opposites" = true)
    (k_gO : PySem.W.keepIn K (.ref gO) = true)
    (lc_H : K.lookup cH = some ⟨e_H, dd_H, .fields vs_H, sf_H⟩)
    (v_H : vs_H[11]? = some (Value.ref PH))
    (hd_H : PySem.W.codeHdIn K cH PH = true)
    (np_H : K.lookup PH = none)
    (lc_O : K.lookup cO = some ⟨e_O, dd_O, .fields vs_O, sf_O⟩)
    (v_O : vs_O[11]? = some (Value.ref PO))
    (hd_O : PySem.W.codeHdIn K cO PO = true)
    (np_O : K.lookup PO = none)
    (b_MOST_THINGS : PySem.W.nsIn K mainGlobals "MOST_THINGS" = some (some (.int 8 tk_MOST_THINGS)))
    (b_MOST_TOLD : PySem.W.nsIn K mainGlobals "MOST_TOLD" = some (some (.int 12 tk_MOST_TOLD)))
    (z_range : PySem.W.nsIn K mainGlobals "range" = some none)
    (z_isinstance : PySem.W.nsIn K mainGlobals "isinstance" = some none)
    (z_len : PySem.W.nsIn K mainGlobals "len" = some none)
    (z_list : PySem.W.nsIn K mainGlobals "list" = some none)
    (z_min : PySem.W.nsIn K mainGlobals "min" = some none)
    (z_tuple : PySem.W.nsIn K mainGlobals "tuple" = some none)
    (z_sorted : PySem.W.nsIn K mainGlobals "sorted" = some none)
    (z_all : PySem.W.nsIn K mainGlobals "all" = some none)
    (z_any : PySem.W.nsIn K mainGlobals "any" = some none)
    (z_bool : PySem.W.nsIn K mainGlobals "bool" = some none)
    (z_int : PySem.W.nsIn K mainGlobals "int" = some none)
    (z_enumerate : PySem.W.nsIn K mainGlobals "enumerate" = some none)
    (z_set : PySem.W.nsIn K mainGlobals "set" = some none)
    (z_zip : PySem.W.nsIn K mainGlobals "zip" = some none)
    (z_reversed : PySem.W.nsIn K mainGlobals "reversed" = some none)
    (z_max : PySem.W.nsIn K mainGlobals "max" = some none)
    (z_ValueError : PySem.W.nsIn K mainGlobals "ValueError" = some none)
    (aS : PySem.W.nsIn K mainGlobals "SpareError" = some (some (.ref S)))
    (bS : PySem.W.subIn K (.ref S) (.type "BaseException") = some true)
    (hn : PySem.W.specialIn K (.builtin "object.__class__") "__get__" = some (some (.builtin "getset_descriptor.__get__")))
    (ht : PySem.W.takesIn K (.builtin "object.__class__") = some true)
    (lS : PySem.W.isClsIn K S = true)
    (tS : PySem.W.typeIn K (.ref S) = some (.type "type"))
    (a0 : PySem.W.nsIn K mainGlobals "NoCut" = some (some (.ref c0)))
    (hg0 : PySem.W.findIn K (.ref c0) "__getattribute__" = some (some (.builtin "BaseException.__getattribute__")))
    (hk0 : PySem.W.findIn K (.ref c0) "__getattr__" = some none)
    (hs0 : PySem.W.subIn K (.ref c0) (.type "BaseException") = some true)
    (hd0 : PySem.W.hasDictIn K c0 = true)
    (ha0 : PySem.W.findIn K (.ref c0) "__class__" = some (some (.builtin "object.__class__")))
    (hm0 : PySem.W.mroIn K c0 (.type "object") = some true)
    (lc0 : PySem.W.isClsIn K c0 = true)
    (ty0 : PySem.W.typeIn K (.ref c0) = some (.type "type"))
    (ss0 : PySem.W.subIn K (.ref c0) (.ref S) = some true)
    (sv0 : PySem.W.subIn K (.ref c0) (.type "ValueError") = some true)
    (a1 : PySem.W.nsIn K mainGlobals "NoLadder" = some (some (.ref c1)))
    (hg1 : PySem.W.findIn K (.ref c1) "__getattribute__" = some (some (.builtin "BaseException.__getattribute__")))
    (hk1 : PySem.W.findIn K (.ref c1) "__getattr__" = some none)
    (hs1 : PySem.W.subIn K (.ref c1) (.type "BaseException") = some true)
    (hd1 : PySem.W.hasDictIn K c1 = true)
    (ha1 : PySem.W.findIn K (.ref c1) "__class__" = some (some (.builtin "object.__class__")))
    (hm1 : PySem.W.mroIn K c1 (.type "object") = some true)
    (lc1 : PySem.W.isClsIn K c1 = true)
    (ty1 : PySem.W.typeIn K (.ref c1) = some (.type "type"))
    (ss1 : PySem.W.subIn K (.ref c1) (.ref S) = some true)
    (sv1 : PySem.W.subIn K (.ref c1) (.type "ValueError") = some true)
    (a2 : PySem.W.nsIn K mainGlobals "NoInstead" = some (some (.ref c2)))
    (hg2 : PySem.W.findIn K (.ref c2) "__getattribute__" = some (some (.builtin "BaseException.__getattribute__")))
    (hk2 : PySem.W.findIn K (.ref c2) "__getattr__" = some none)
    (hs2 : PySem.W.subIn K (.ref c2) (.type "BaseException") = some true)
    (hd2 : PySem.W.hasDictIn K c2 = true)
    (ha2 : PySem.W.findIn K (.ref c2) "__class__" = some (some (.builtin "object.__class__")))
    (hm2 : PySem.W.mroIn K c2 (.type "object") = some true)
    (lc2 : PySem.W.isClsIn K c2 = true)
    (ty2 : PySem.W.typeIn K (.ref c2) = some (.type "type"))
    (ss2 : PySem.W.subIn K (.ref c2) (.ref S) = some true)
    (sv2 : PySem.W.subIn K (.ref c2) (.type "ValueError") = some true)
    (a3 : PySem.W.nsIn K mainGlobals "TooGreat" = some (some (.ref c3)))
    (hg3 : PySem.W.findIn K (.ref c3) "__getattribute__" = some (some (.builtin "BaseException.__getattribute__")))
    (hk3 : PySem.W.findIn K (.ref c3) "__getattr__" = some none)
    (hs3 : PySem.W.subIn K (.ref c3) (.type "BaseException") = some true)
    (hd3 : PySem.W.hasDictIn K c3 = true)
    (ha3 : PySem.W.findIn K (.ref c3) "__class__" = some (some (.builtin "object.__class__")))
    (hm3 : PySem.W.mroIn K c3 (.type "object") = some true)
    (lc3 : PySem.W.isClsIn K c3 = true)
    (ty3 : PySem.W.typeIn K (.ref c3) = some (.type "type"))
    (ss3 : PySem.W.subIn K (.ref c3) (.ref S) = some true)
    (sv3 : PySem.W.subIn K (.ref c3) (.type "ValueError") = some true)
    (a4 : PySem.W.nsIn K mainGlobals "TooMany" = some (some (.ref c4)))
    (hg4 : PySem.W.findIn K (.ref c4) "__getattribute__" = some (some (.builtin "BaseException.__getattribute__")))
    (hk4 : PySem.W.findIn K (.ref c4) "__getattr__" = some none)
    (hs4 : PySem.W.subIn K (.ref c4) (.type "BaseException") = some true)
    (hd4 : PySem.W.hasDictIn K c4 = true)
    (ha4 : PySem.W.findIn K (.ref c4) "__class__" = some (some (.builtin "object.__class__")))
    (hm4 : PySem.W.mroIn K c4 (.type "object") = some true)
    (lc4 : PySem.W.isClsIn K c4 = true)
    (ty4 : PySem.W.typeIn K (.ref c4) = some (.type "type"))
    (ss4 : PySem.W.subIn K (.ref c4) (.ref S) = some true)
    (sv4 : PySem.W.subIn K (.ref c4) (.type "ValueError") = some true)
    (a5 : PySem.W.nsIn K mainGlobals "NoTelling" = some (some (.ref c5)))
    (hg5 : PySem.W.findIn K (.ref c5) "__getattribute__" = some (some (.builtin "BaseException.__getattribute__")))
    (hk5 : PySem.W.findIn K (.ref c5) "__getattr__" = some none)
    (hs5 : PySem.W.subIn K (.ref c5) (.type "BaseException") = some true)
    (hd5 : PySem.W.hasDictIn K c5 = true)
    (ha5 : PySem.W.findIn K (.ref c5) "__class__" = some (some (.builtin "object.__class__")))
    (hm5 : PySem.W.mroIn K c5 (.type "object") = some true)
    (lc5 : PySem.W.isClsIn K c5 = true)
    (ty5 : PySem.W.typeIn K (.ref c5) = some (.type "type"))
    (ss5 : PySem.W.subIn K (.ref c5) (.ref S) = some true)
    (sv5 : PySem.W.subIn K (.ref c5) (.type "ValueError") = some true)
    (a6 : PySem.W.nsIn K mainGlobals "NoText" = some (some (.ref c6)))
    (hg6 : PySem.W.findIn K (.ref c6) "__getattribute__" = some (some (.builtin "BaseException.__getattribute__")))
    (hk6 : PySem.W.findIn K (.ref c6) "__getattr__" = some none)
    (hs6 : PySem.W.subIn K (.ref c6) (.type "BaseException") = some true)
    (hd6 : PySem.W.hasDictIn K c6 = true)
    (ha6 : PySem.W.findIn K (.ref c6) "__class__" = some (some (.builtin "object.__class__")))
    (hm6 : PySem.W.mroIn K c6 (.type "object") = some true)
    (lc6 : PySem.W.isClsIn K c6 = true)
    (ty6 : PySem.W.typeIn K (.ref c6) = some (.type "type"))
    (ss6 : PySem.W.subIn K (.ref c6) (.ref S) = some true)
    (sv6 : PySem.W.subIn K (.ref c6) (.type "ValueError") = some true)
    (a7 : PySem.W.nsIn K mainGlobals "NoRow" = some (some (.ref c7)))
    (hg7 : PySem.W.findIn K (.ref c7) "__getattribute__" = some (some (.builtin "BaseException.__getattribute__")))
    (hk7 : PySem.W.findIn K (.ref c7) "__getattr__" = some none)
    (hs7 : PySem.W.subIn K (.ref c7) (.type "BaseException") = some true)
    (hd7 : PySem.W.hasDictIn K c7 = true)
    (ha7 : PySem.W.findIn K (.ref c7) "__class__" = some (some (.builtin "object.__class__")))
    (hm7 : PySem.W.mroIn K c7 (.type "object") = some true)
    (lc7 : PySem.W.isClsIn K c7 = true)
    (ty7 : PySem.W.typeIn K (.ref c7) = some (.type "type"))
    (ss7 : PySem.W.subIn K (.ref c7) (.ref S) = some true)
    (sv7 : PySem.W.subIn K (.ref c7) (.type "ValueError") = some true)
    (a8 : PySem.W.nsIn K mainGlobals "NoBack" = some (some (.ref c8)))
    (hg8 : PySem.W.findIn K (.ref c8) "__getattribute__" = some (some (.builtin "BaseException.__getattribute__")))
    (hk8 : PySem.W.findIn K (.ref c8) "__getattr__" = some none)
    (hs8 : PySem.W.subIn K (.ref c8) (.type "BaseException") = some true)
    (hd8 : PySem.W.hasDictIn K c8 = true)
    (ha8 : PySem.W.findIn K (.ref c8) "__class__" = some (some (.builtin "object.__class__")))
    (hm8 : PySem.W.mroIn K c8 (.type "object") = some true)
    (lc8 : PySem.W.isClsIn K c8 = true)
    (ty8 : PySem.W.typeIn K (.ref c8) = some (.type "type"))
    (ss8 : PySem.W.subIn K (.ref c8) (.ref S) = some true)
    (sv8 : PySem.W.subIn K (.ref c8) (.type "ValueError") = some true)
    (s00 : PySem.W.subIn K (.ref c0) (.ref c0) = some true)
    (s01 : PySem.W.subIn K (.ref c0) (.ref c1) = some false)
    (s02 : PySem.W.subIn K (.ref c0) (.ref c2) = some false)
    (s03 : PySem.W.subIn K (.ref c0) (.ref c3) = some false)
    (s04 : PySem.W.subIn K (.ref c0) (.ref c4) = some false)
    (s05 : PySem.W.subIn K (.ref c0) (.ref c5) = some false)
    (s06 : PySem.W.subIn K (.ref c0) (.ref c6) = some false)
    (s07 : PySem.W.subIn K (.ref c0) (.ref c7) = some false)
    (s08 : PySem.W.subIn K (.ref c0) (.ref c8) = some false)
    (s10 : PySem.W.subIn K (.ref c1) (.ref c0) = some false)
    (s11 : PySem.W.subIn K (.ref c1) (.ref c1) = some true)
    (s12 : PySem.W.subIn K (.ref c1) (.ref c2) = some false)
    (s13 : PySem.W.subIn K (.ref c1) (.ref c3) = some false)
    (s14 : PySem.W.subIn K (.ref c1) (.ref c4) = some false)
    (s15 : PySem.W.subIn K (.ref c1) (.ref c5) = some false)
    (s16 : PySem.W.subIn K (.ref c1) (.ref c6) = some false)
    (s17 : PySem.W.subIn K (.ref c1) (.ref c7) = some false)
    (s18 : PySem.W.subIn K (.ref c1) (.ref c8) = some false)
    (s20 : PySem.W.subIn K (.ref c2) (.ref c0) = some false)
    (s21 : PySem.W.subIn K (.ref c2) (.ref c1) = some false)
    (s22 : PySem.W.subIn K (.ref c2) (.ref c2) = some true)
    (s23 : PySem.W.subIn K (.ref c2) (.ref c3) = some false)
    (s24 : PySem.W.subIn K (.ref c2) (.ref c4) = some false)
    (s25 : PySem.W.subIn K (.ref c2) (.ref c5) = some false)
    (s26 : PySem.W.subIn K (.ref c2) (.ref c6) = some false)
    (s27 : PySem.W.subIn K (.ref c2) (.ref c7) = some false)
    (s28 : PySem.W.subIn K (.ref c2) (.ref c8) = some false)
    (s30 : PySem.W.subIn K (.ref c3) (.ref c0) = some false)
    (s31 : PySem.W.subIn K (.ref c3) (.ref c1) = some false)
    (s32 : PySem.W.subIn K (.ref c3) (.ref c2) = some false)
    (s33 : PySem.W.subIn K (.ref c3) (.ref c3) = some true)
    (s34 : PySem.W.subIn K (.ref c3) (.ref c4) = some false)
    (s35 : PySem.W.subIn K (.ref c3) (.ref c5) = some false)
    (s36 : PySem.W.subIn K (.ref c3) (.ref c6) = some false)
    (s37 : PySem.W.subIn K (.ref c3) (.ref c7) = some false)
    (s38 : PySem.W.subIn K (.ref c3) (.ref c8) = some false)
    (s40 : PySem.W.subIn K (.ref c4) (.ref c0) = some false)
    (s41 : PySem.W.subIn K (.ref c4) (.ref c1) = some false)
    (s42 : PySem.W.subIn K (.ref c4) (.ref c2) = some false)
    (s43 : PySem.W.subIn K (.ref c4) (.ref c3) = some false)
    (s44 : PySem.W.subIn K (.ref c4) (.ref c4) = some true)
    (s45 : PySem.W.subIn K (.ref c4) (.ref c5) = some false)
    (s46 : PySem.W.subIn K (.ref c4) (.ref c6) = some false)
    (s47 : PySem.W.subIn K (.ref c4) (.ref c7) = some false)
    (s48 : PySem.W.subIn K (.ref c4) (.ref c8) = some false)
    (s50 : PySem.W.subIn K (.ref c5) (.ref c0) = some false)
    (s51 : PySem.W.subIn K (.ref c5) (.ref c1) = some false)
    (s52 : PySem.W.subIn K (.ref c5) (.ref c2) = some false)
    (s53 : PySem.W.subIn K (.ref c5) (.ref c3) = some false)
    (s54 : PySem.W.subIn K (.ref c5) (.ref c4) = some false)
    (s55 : PySem.W.subIn K (.ref c5) (.ref c5) = some true)
    (s56 : PySem.W.subIn K (.ref c5) (.ref c6) = some false)
    (s57 : PySem.W.subIn K (.ref c5) (.ref c7) = some false)
    (s58 : PySem.W.subIn K (.ref c5) (.ref c8) = some false)
    (s60 : PySem.W.subIn K (.ref c6) (.ref c0) = some false)
    (s61 : PySem.W.subIn K (.ref c6) (.ref c1) = some false)
    (s62 : PySem.W.subIn K (.ref c6) (.ref c2) = some false)
    (s63 : PySem.W.subIn K (.ref c6) (.ref c3) = some false)
    (s64 : PySem.W.subIn K (.ref c6) (.ref c4) = some false)
    (s65 : PySem.W.subIn K (.ref c6) (.ref c5) = some false)
    (s66 : PySem.W.subIn K (.ref c6) (.ref c6) = some true)
    (s67 : PySem.W.subIn K (.ref c6) (.ref c7) = some false)
    (s68 : PySem.W.subIn K (.ref c6) (.ref c8) = some false)
    (s70 : PySem.W.subIn K (.ref c7) (.ref c0) = some false)
    (s71 : PySem.W.subIn K (.ref c7) (.ref c1) = some false)
    (s72 : PySem.W.subIn K (.ref c7) (.ref c2) = some false)
    (s73 : PySem.W.subIn K (.ref c7) (.ref c3) = some false)
    (s74 : PySem.W.subIn K (.ref c7) (.ref c4) = some false)
    (s75 : PySem.W.subIn K (.ref c7) (.ref c5) = some false)
    (s76 : PySem.W.subIn K (.ref c7) (.ref c6) = some false)
    (s77 : PySem.W.subIn K (.ref c7) (.ref c7) = some true)
    (s78 : PySem.W.subIn K (.ref c7) (.ref c8) = some false)
    (s80 : PySem.W.subIn K (.ref c8) (.ref c0) = some false)
    (s81 : PySem.W.subIn K (.ref c8) (.ref c1) = some false)
    (s82 : PySem.W.subIn K (.ref c8) (.ref c2) = some false)
    (s83 : PySem.W.subIn K (.ref c8) (.ref c3) = some false)
    (s84 : PySem.W.subIn K (.ref c8) (.ref c4) = some false)
    (s85 : PySem.W.subIn K (.ref c8) (.ref c5) = some false)
    (s86 : PySem.W.subIn K (.ref c8) (.ref c6) = some false)
    (s87 : PySem.W.subIn K (.ref c8) (.ref c7) = some false)
    (s88 : PySem.W.subIn K (.ref c8) (.ref c8) = some true)
    (xc5 : PySem.W.excIn K c5 [.type "ValueError", .type "Exception", .type "BaseException", .type "object"] "ValueError.__new__" = true)
    (kp5 : PySem.W.keepIn K (.ref c5) = true) :
    LawG l w K 11 63 "script" mg top h := by
  have e := htop.symm.trans (PySem.W.mg_of X G b_fL)
  cases e
  have F_fM := fun_mk (st := sFre) l_fM c_fM k_fM
  have B_fM := F_fM.binds (ps := ["pen"]) fun _ _ _ _ _ _ us hl => match us, hl with | [_], _ => rfl
  have g_fM := PySem.W.mg_of X G b_fM
  have F_fD := fun_mk (st := sDrw) l_fD c_fD k_fD
  have B_fD := F_fD.binds (ps := ["pen", "many"]) fun _ _ _ _ _ _ us hl => match us, hl with | [_, _], _ => rfl
  have g_fD := PySem.W.mg_of X G b_fD
  have F_fO := fun_mk (st := sOpn) l_fO c_fO k_fO
  have B_fO := F_fO.binds (ps := ["script"]) fun _ _ _ _ _ _ us hl => match us, hl with | [_], _ => rfl
  have g_fO := PySem.W.mg_of X G b_fO
  have F_fC := fun_mk (st := Cl.sClm) l_fC c_fC k_fC
  have B_fC := F_fC.binds (ps := ["pen", "most", "wide"]) fun _ _ _ _ _ _ us hl => match us, hl with | [_, _, _], _ => rfl
  have g_fC := PySem.W.mg_of X G b_fC
  have F_fB := fun_mk (st := Cl.sBok) l_fB c_fB k_fB
  have B_fB := F_fB.binds (ps := ["pen", "most"]) fun _ _ _ _ _ _ us hl => match us, hl with | [_, _], _ => rfl
  have g_fB := PySem.W.mg_of X G b_fB
  have F_fl := fun_mk (st := sElf) l_fl c_fl k_fl
  have B_fl := F_fl.binds (ps := ["claim", "held"]) fun _ _ _ _ _ _ us hl => match us, hl with | [_, _], _ => rfl
  have g_fl := PySem.W.mg_of X G b_fl
  have F_fc := fun_mk (st := sClo) l_fc c_fc k_fc
  have B_fc := F_fc.binds (ps := ["claims", "says"]) fun _ _ _ _ _ _ us hl => match us, hl with | [_, _], _ => rfl
  have g_fc := PySem.W.mg_of X G b_fc
  have F_fe := fun_mk (st := sEfa) l_fe c_fe k_fe
  have B_fe := F_fe.binds (ps := ["claims", "claim"]) fun _ _ _ _ _ _ us hl => match us, hl with | [_, _], _ => rfl
  have g_fe := PySem.W.mg_of X G b_fe
  have F_fw := fun_mk (st := sEwr) l_fw c_fw k_fw
  have B_fw := F_fw.binds (ps := ["book", "telling"]) fun _ _ _ _ _ _ us hl => match us, hl with | [_, _], _ => rfl
  have g_fw := PySem.W.mg_of X G b_fw
  have F_fu := fun_mk (st := sEcu) l_fu c_fu k_fu
  have B_fu := F_fu.binds (ps := ["one", "other"]) fun _ _ _ _ _ _ us hl => match us, hl with | [_, _], _ => rfl
  have g_fu := PySem.W.mg_of X G b_fu
  have F_ft := fun_mk (st := sEtl) l_ft c_ft k_ft
  have B_ft := F_ft.binds (ps := ["pen", "book"]) fun _ _ _ _ _ _ us hl => match us, hl with | [_, _], _ => rfl
  have g_ft := PySem.W.mg_of X G b_ft
  have F_fr := fun_mk (st := sEtu) l_fr c_fr k_fr
  have B_fr := F_fr.binds (ps := ["pen", "telling"]) fun _ _ _ _ _ _ us hl => match us, hl with | [_, _], _ => rfl
  have g_fr := PySem.W.mg_of X G b_fr
  have F_fY := fun_mk (st := sFsy) l_fY c_fY k_fY
  have B_fY := F_fY.binds (ps := ["claim", "held"]) fun _ _ _ _ _ _ us hl => match us, hl with | [_, _], _ => rfl
  have g_fY := PySem.W.mg_of X G b_fY
  have F_fA := fun_mk (st := sFfa) l_fA c_fA k_fA
  have B_fA := F_fA.binds (ps := ["claims", "held"]) fun _ _ _ _ _ _ us hl => match us, hl with | [_, _], _ => rfl
  have g_fA := PySem.W.mg_of X G b_fA
  have F_fS := fun_mk (st := sFst) l_fS c_fS k_fS
  have B_fS := F_fS.binds (ps := ["claims", "held"]) fun _ _ _ _ _ _ us hl => match us, hl with | [_, _], _ => rfl
  have g_fS := PySem.W.mg_of X G b_fS
  have F_fF := fun_mk (st := sFod) l_fF c_fF k_fF
  have B_fF := F_fF.binds (ps := ["claims", "says"]) fun _ _ _ _ _ _ us hl => match us, hl with | [_, _], _ => rfl
  have g_fF := PySem.W.mg_of X G b_fF
  have F_fP := fun_mk (st := sOpp) l_fP c_fP k_fP
  have B_fP := F_fP.binds (ps := ["claim"]) fun _ _ _ _ _ _ us hl => match us, hl with | [_], _ => rfl
  have g_fP := PySem.W.mg_of X G b_fP
  have F_fb := fun_mk (st := sFbf) l_fb c_fb k_fb
  have B_fb := F_fb.binds (ps := ["claims", "claim"]) fun _ _ _ _ _ _ us hl => match us, hl with | [_, _], _ => rfl
  have g_fb := PySem.W.mg_of X G b_fb
  have F_fW := fun_mk (st := sWrg) l_fW c_fW k_fW
  have B_fW := F_fW.binds (ps := ["book", "telling"]) fun _ _ _ _ _ _ us hl => match us, hl with | [_, _], _ => rfl
  have g_fW := PySem.W.mg_of X G b_fW
  have F_fk := fun_mk (st := sChk) l_fk c_fk k_fk
  have B_fk := F_fk.binds (ps := ["book", "telling"]) fun _ _ _ _ _ _ us hl => match us, hl with | [_, _], _ => rfl
  have g_fk := PySem.W.mg_of X G b_fk
  have F_pw := fun_mk (st := Ct.sWho) l_pw c_pw k_pw
  have B_pw := F_pw.binds (ps := ["thing"]) fun _ _ _ _ _ _ us hl => match us, hl with | [_], _ => rfl
  have g_pw := PySem.W.mg_of X G b_pw
  have F_pe := fun_mk (st := Ct.sCme) l_pe c_pe k_pe
  have B_pe := F_pe.binds (ps := ["one", "other", "k"]) fun _ _ _ _ _ _ us hl => match us, hl with | [_, _, _], _ => rfl
  have g_pe := PySem.W.mg_of X G b_pe
  have F_pn := fun_mk (st := Ct.sCon) l_pn c_pn k_pn
  have B_pn := F_pn.binds (ps := ["one", "other", "k"]) fun _ _ _ _ _ _ us hl => match us, hl with | [_, _, _], _ => rfl
  have g_pn := PySem.W.mg_of X G b_pn
  have F_pu := fun_mk (st := Lp.sNum) l_pu c_pu k_pu
  have B_pu := F_pu.binds (ps := ["thing", "many"]) fun _ _ _ _ _ _ us hl => match us, hl with | [_, _], _ => rfl
  have g_pu := PySem.W.mg_of X G b_pu
  have F_pr := fun_mk (st := Lp.sRow) l_pr c_pr k_pr
  have B_pr := F_pr.binds (ps := ["book", "claims", "row"]) fun _ _ _ _ _ _ us hl => match us, hl with | [_, _, _], _ => rfl
  have g_pr := PySem.W.mg_of X G b_pr
  have F_pp := fun_mk (st := Mp.sPut) l_pp c_pp k_pp
  have B_pp := F_pp.binds (ps := ["book", "rows", "claims", "row"]) fun _ _ _ _ _ _ us hl => match us, hl with | [_, _, _, _], _ => rfl
  have g_pp := PySem.W.mg_of X G b_pp
  have F_po := fun_mk (st := Mp.sCof) l_po c_po k_po
  have B_po := F_po.binds (ps := ["place", "other", "say"]) fun _ _ _ _ _ _ us hl => match us, hl with | [_, _, _], _ => rfl
  have g_po := PySem.W.mg_of X G b_po
  have F_pt := fun_mk (st := Mp.sPtd) l_pt c_pt k_pt
  have B_pt := F_pt.binds (ps := ["book", "rows", "claims", "places", "claim"]) fun _ _ _ _ _ _ us hl => match us, hl with | [_, _, _, _, _], _ => rfl
  have g_pt := PySem.W.mg_of X G b_pt
  have F_pm := fun_mk (st := Mp.sMwh) l_pm c_pm k_pm
  have B_pm := F_pm.binds (ps := ["book", "telling"]) fun _ _ _ _ _ _ us hl => match us, hl with | [_, _], _ => rfl
  have g_pm := PySem.W.mg_of X G b_pm
  have F_dw := fun_mk (st := Ml.sWho) l_dw c_dw k_dw
  have B_dw := F_dw.binds (ps := ["thing"]) fun _ _ _ _ _ _ us hl => match us, hl with | [_], _ => rfl
  have g_dw := PySem.W.mg_of X G b_dw
  have F_dn := fun_mk (st := Ml.sIsn) l_dn c_dn k_dn
  have B_dn := F_dn.binds (ps := ["thing", "many"]) fun _ _ _ _ _ _ us hl => match us, hl with | [_, _], _ => rfl
  have g_dn := PySem.W.mg_of X G b_dn
  have F_dq := fun_mk (st := Ml.sRcl) l_dq c_dq k_dq
  have B_dq := F_dq.binds (ps := ["book", "claims", "row"]) fun _ _ _ _ _ _ us hl => match us, hl with | [_, _, _], _ => rfl
  have g_dq := PySem.W.mg_of X G b_dq
  have F_dc := fun_mk (st := Ml.sEcs) l_dc c_dc k_dc
  have B_dc := F_dc.binds (ps := ["book", "ladder"]) fun _ _ _ _ _ _ us hl => match us, hl with | [_, _], _ => rfl
  have g_dc := PySem.W.mg_of X G b_dc
  have F_dv := fun_mk (st := Ml.sWid) l_dv c_dv k_dv
  have B_dv := F_dv.binds (ps := ["one", "other"]) fun _ _ _ _ _ _ us hl => match us, hl with | [_, _], _ => rfl
  have g_dv := PySem.W.mg_of X G b_dv
  have F_dr := fun_mk (st := Mr.sWhr) l_dr c_dr k_dr
  have B_dr := F_dr.binds (ps := ["book", "telling"]) fun _ _ _ _ _ _ us hl => match us, hl with | [_, _], _ => rfl
  have g_dr := PySem.W.mg_of X G b_dr
  have F_df := fun_mk (st := Mr.sRfs) l_df c_df k_df
  have B_df := F_df.binds (ps := ["book", "telling"]) fun _ _ _ _ _ _ us hl => match us, hl with | [_, _], _ => rfl
  have g_df := PySem.W.mg_of X G b_df
  have F_fL := fun_mk (st := K53.sLaw) l_fL c_fL k_fL
  have B_fL := F_fL.binds (ps := ["script"]) fun _ _ _ _ _ _ us hl => match us, hl with | [_], _ => rfl
  have g_fL := PySem.W.mg_of X G b_fL
  have F_gH := fun_mk (st := sFal) l_gH c_gH k_gH
  have B_gH := F_gH.binds (ps := ["claim", "held"]) fun _ _ _ _ _ _ us hl => match us, hl with | [_, _], _ => rfl
  have g_gH := PySem.W.mg_of X G b_gH
  have F_gO := fun_mk (st := Ct.sHop) l_gO c_gO k_gO
  have B_gO := F_gO.binds (ps := ["says"]) fun _ _ _ _ _ _ us hl => match us, hl with | [_], _ => rfl
  have g_gO := PySem.W.mg_of X G b_gO
  have C_gH : Se.FunC K "falls" "falls" sFal gH cH _ := ⟨⟨_, _, _, _, _, _, _, _, rfl, l_gH, c_gH⟩, k_gH⟩
  have C_gO : Se.FunC K "has_opposites" "has_opposites" Ct.sHop gO cO _ := ⟨⟨_, _, _, _, _, _, _, _, rfl, l_gO, c_gO⟩, k_gO⟩
  have M_MOST_THINGS := PySem.W.mg_of X G b_MOST_THINGS
  have M_MOST_TOLD := PySem.W.mg_of X G b_MOST_TOLD
  have Z_range := PySem.W.mg_none_of X G z_range
  have Z_isinstance := PySem.W.mg_none_of X G z_isinstance
  have Z_len := PySem.W.mg_none_of X G z_len
  have Z_list := PySem.W.mg_none_of X G z_list
  have Z_min := PySem.W.mg_none_of X G z_min
  have Z_tuple := PySem.W.mg_none_of X G z_tuple
  have Z_sorted := PySem.W.mg_none_of X G z_sorted
  have Z_all := PySem.W.mg_none_of X G z_all
  have Z_any := PySem.W.mg_none_of X G z_any
  have Z_bool := PySem.W.mg_none_of X G z_bool
  have Z_int := PySem.W.mg_none_of X G z_int
  have Z_enumerate := PySem.W.mg_none_of X G z_enumerate
  have Z_set := PySem.W.mg_none_of X G z_set
  have Z_zip := PySem.W.mg_none_of X G z_zip
  have Z_reversed := PySem.W.mg_none_of X G z_reversed
  have Z_max := PySem.W.mg_none_of X G z_max
  have Z_ValueError := PySem.W.mg_none_of X G z_ValueError
  refine ⟨PySem.W.fnOf "law" "law" (defArgs K53.sLaw) (defBody K53.sLaw) (defScope K53.sLaw) .none kV_fL dc_fL pm_fL an_fL cd_fL ct_fL, [(cH, PH), (cO, PO)], K53.spLaw PH PO K, ?_, ?_, ?_, fun s u => .of_eq rfl, fun H a ns _ hT hS => ?_, fun base hb hn_ hT => ?_⟩
  · intro p hp
    simp only [List.mem_cons, List.not_mem_nil, or_false] at hp
    rcases hp with rfl | rfl
    · exact ow "falls" (by simp) _ g_gH cH PH _ _ _ _ _ _ l_gH rfl rfl lc_H v_H
    · exact ow "has_opposites" (by simp) _ g_gO cO PO _ _ _ _ _ _ l_gO rfl rfl lc_O v_O
  · intro p hp
    simp only [List.mem_cons, List.not_mem_nil, or_false] at hp
    rcases hp with rfl | rfl
    · exact np_H
    · exact np_O
  · intro p hp
    simp only [List.mem_cons, List.not_mem_nil, or_false] at hp
    rcases hp with rfl | rfl
    · exact PySem.W.codeHd_of_K X hd_H
    · exact PySem.W.codeHd_of_K X hd_O
  · exact ⟨a, ns, rfl, hS, ⟨#[], hT (cH, PH) (by simp), trivial⟩, ⟨#[], hT (cO, PO) (by simp), trivial⟩, fun _ => rfl⟩
  · have t_H := hT (cH, PH) (by simp)
    have T_H : TabB base mg cH PH := ⟨t_H.code, t_H.bm, t_H.gP⟩
    have t_O := hT (cO, PO) (by simp)
    have T_O : TabB base mg cO PO := ⟨t_O.code, t_O.bm, t_O.gP⟩
    have Tp : Dr.Zp mg := by constructor <;> assumption
    have Ts : Cl.Zs mg := by constructor <;> assumption
    have Tf : Fo.Zf mg := by constructor <;> assumption
    have Tl : Fo.Zl mg := by constructor <;> assumption
    have Tkk : K53.Zk mg := by constructor <;> assumption
    have Tt : Te.Zt mg := by constructor <;> assumption
    have Tu : Te.Zu mg := by constructor <;> assumption
    have Tv : Te.Zv mg := by constructor <;> assumption
    have Tc : Ct.Zc mg := by constructor <;> assumption
    have Tlp : Lp.Zp mg := by constructor <;> assumption
    have Ta : Mp.Za mg := by constructor <;> assumption
    have Tb : Mp.Zb mg := by constructor <;> assumption
    have Tml : Ml.Zl mg := by constructor <;> assumption
    have Tq : Mr.Zq mg := by constructor <;> assumption
    have CT5 : Te.CT K mg c5 := ⟨xc5, PySem.W.mg_of X G a5, kp5, hs5, ty5⟩
    have Ot : Mr.Oth K mg c5 S (fun i => [c8, c0, c2, c1, c7, c6, c3, c4].getD i 0) := {
      gS := PySem.W.mg_of X G aS
      xS := Cf.exm_t bS (Cf.cls_s lS) tS ss5
      go := fun i x e => match i, e with | 0, e => by cases e; exact PySem.W.mg_of X G a8 | 1, e => by cases e; exact PySem.W.mg_of X G a0 | 2, e => by cases e; exact PySem.W.mg_of X G a2 | 3, e => by cases e; exact PySem.W.mg_of X G a1 | 4, e => by cases e; exact PySem.W.mg_of X G a7 | 5, e => by cases e; exact PySem.W.mg_of X G a6 | 6, e => by cases e; exact PySem.W.mg_of X G a3 | 7, e => by cases e; exact PySem.W.mg_of X G a4 | n + 8, e => by cases e
      no := fun i hi => match i, hi with | 0, _ => Cf.kit_f (Cf.cls_s lc8) ty8 s58 s55 | 1, _ => Cf.kit_f (Cf.cls_s lc0) ty0 s50 s55 | 2, _ => Cf.kit_f (Cf.cls_s lc2) ty2 s52 s55 | 3, _ => Cf.kit_f (Cf.cls_s lc1) ty1 s51 s55 | 4, _ => Cf.kit_f (Cf.cls_s lc7) ty7 s57 s55 | 5, _ => Cf.kit_f (Cf.cls_s lc6) ty6 s56 s55 | 6, _ => Cf.kit_f (Cf.cls_s lc3) ty3 s53 s55 | 7, _ => Cf.kit_f (Cf.cls_s lc4) ty4 s54 s55
      me := Cf.kit_t (Cf.cls_s lc5) ty5 s55
      kv := Cf.kit_v sv5
      ec := ⟨hg5, hk5, hs5, hd5, ha5, hn, ht, hm5⟩
      z_isinstance := Z_isinstance
      z_ValueError := Z_ValueError }
    have GD : FnOk l.prog w K mg base CX0 2 fD _ ["pen", "many"] spDrw := ok_drw F_fD F_fM B_fM g_fM Tp
    have GO : FnOk l.prog w K mg base CX0 1 fO _ ["script"] (spOpn K) := ok_opn F_fO Z_list
    have GC : FnOk l.prog w K mg base CX0 3 fC _ ["pen", "most", "wide"] Cl.spClm := Cl.ok_clm F_fC Ts F_fD B_fD g_fD GD
    have GB : FnOk l.prog w K mg base CX0 4 fB _ ["pen", "most"] Cl.spBok := Cl.ok_bok F_fB Ts F_fD B_fD g_fD GD F_fC B_fC g_fC GC
    have Gl : FnOk l.prog w K mg base CX0 1 fl _ ["claim", "held"] spElf := ok_elf F_fl
    have Gc : FnOk l.prog w K mg base CX0 2 fc _ ["claims", "says"] spClo := ok_clo F_fc Tl F_fl B_fl g_fl Gl
    have Ge : FnOk l.prog w K mg base CX0 3 fe _ ["claims", "claim"] (spFbf PH) := ok_efa F_fe F_fc B_fc g_fc Gc
    have Gw : FnOk l.prog w K mg base CX0 4 fw _ ["book", "telling"] (spWrg PH) := ok_ewr F_fw Tt F_fe B_fe g_fe Ge
    have Gu : FnOk l.prog w K mg base CX0 1 fu _ ["one", "other"] Tk.spEcu := Tk.ok_ecu F_fu Tu
    have Gt : FnOk l.prog w K mg base CX0 3 ft _ ["pen", "book"] Tk.spEtl := Tk.ok_etl F_ft Tu F_fD B_fD g_fD GD F_fu B_fu g_fu Gu
    have Gr : FnOk l.prog w K mg base CX0 4 fr _ ["pen", "telling"] Tk.spEtu := Tk.ok_etu F_fr Tu F_fD B_fD g_fD GD F_fC B_fC g_fC GC
    have GH : FnOk l.prog w K mg base CX0 3 gH _ ["claim", "held"] (spFal PH) := ok_fal C_gH Tf T_H
    have GY : FnOk l.prog w K mg base CX0 1 fY _ ["claim", "held"] spFsy := ok_fsy F_fY Tf
    have GA : FnOk l.prog w K mg base CX0 4 fA _ ["claims", "held"] (spFfa PH) := ok_ffa F_fA Tf k_gH B_gH g_gH GH
    have GS : FnOk l.prog w K mg base CX0 2 fS _ ["claims", "held"] spFst := ok_fst F_fS Tf F_fY B_fY g_fY GY
    have GF : FnOk l.prog w K mg base CX0 5 fF _ ["claims", "says"] (spFod PH) := ok_fod F_fF Tf F_fA B_fA g_fA GA F_fS B_fS g_fS GS
    have GP : FnOk l.prog w K mg base CX0 1 fP _ ["claim"] spOpp := ok_opp F_fP
    have Gb : FnOk l.prog w K mg base CX0 6 fb _ ["claims", "claim"] (spFbf PH) := ok_fbf F_fb F_fF B_fF g_fF GF F_fP B_fP g_fP GP
    have GW : FnOk l.prog w K mg base CX0 7 fW _ ["book", "telling"] (spWrg PH) := ok_wrg F_fW Tt F_fb B_fb g_fb Gb
    have Gk : FnOk l.prog w K mg base (L2.CX l.prog w) 8 fk _ ["book", "telling"] (spChk c5 PH) := ok_chk F_fk Tv CT5 M_MOST_TOLD F_fW B_fW g_fW GW
    have Pw : FnOk l.prog w K mg base CX0 1 pw _ ["thing"] Ct.spWho := Ct.ok_who F_pw Tc
    have Pe : FnOk l.prog w K mg base CX0 2 pe _ ["one", "other", "k"] Ct.spCme := Ct.ok_cme F_pe Tc M_MOST_THINGS F_pw B_pw g_pw Pw
    have Po : FnOk l.prog w K mg base CX0 3 gO _ ["says"] (Ct.spHop PO) := Ct.ok_hop C_gO Tc T_O
    have Pn : FnOk l.prog w K mg base CX0 4 pn _ ["one", "other", "k"] (Ct.spCon PO) := Ct.ok_con F_pn Tc F_pe B_pe g_pe Pe k_gO B_gO g_gO Po
    have Pu : FnOk l.prog w K mg base CX0 2 pu _ ["thing", "many"] Lp.spNum := Lp.ok_num F_pu F_pw B_pw g_pw Pw
    have Pr : FnOk l.prog w K mg base CX0 5 pr _ ["book", "claims", "row"] (Lp.spRow PO) := Lp.ok_row F_pr Tlp F_pu B_pu g_pu Pu F_pn B_pn g_pn Pn
    have Pp : FnOk l.prog w K mg base CX0 6 pp _ ["book", "rows", "claims", "row"] (Mp.spPut PO) := Mp.ok_put F_pp Ta F_pr B_pr g_pr Pr
    have Pc : FnOk l.prog w K mg base CX0 1 po _ ["place", "other", "say"] Mp.spCof := Mp.ok_cof F_po
    have Pt : FnOk l.prog w K mg base CX0 7 pt _ ["book", "rows", "claims", "places", "claim"] (Mp.spPtd PH PO) := Mp.ok_ptd F_pt Ta F_fF B_fF g_fF GF F_fP B_fP g_fP GP F_pp B_pp g_pp Pp F_po B_po g_po Pc
    have Pm : FnOk l.prog w K mg base (L2.CX l.prog w) 9 pm _ ["book", "telling"] (Mp.spMwh c5 PH PO) := Mp.ok_mwh F_pm Tb F_fk B_fk g_fk Gk F_pt B_pt g_pt Pt F_pp B_pp g_pp Pp
    have Dw : FnOk l.prog w K mg base CX0 1 dw _ ["thing"] Ml.spWhoI := Ml.ok_who F_dw Tml
    have Dn : FnOk l.prog w K mg base CX0 2 dn _ ["thing", "many"] Ml.spIsn := Ml.ok_isn F_dn F_dw B_dw g_dw Dw
    have Dq : FnOk l.prog w K mg base CX0 3 dq _ ["book", "claims", "row"] Ml.spErc := Ml.ok_rcl F_dq Tml F_dw B_dw g_dw Dw F_dn B_dn g_dn Dn
    have Dc : FnOk l.prog w K mg base CX0 4 dc _ ["book", "ladder"] Ml.spEcs := Ml.ok_ecs F_dc Tml F_dq B_dq g_dq Dq
    have Dv : FnOk l.prog w K mg base CX0 1 dv _ ["one", "other"] Ml.spWid := Ml.ok_wid F_dv Tml
    have Dr' : FnOk l.prog w K mg base CX0 10 dr _ ["book", "telling"] (Mr.spWhr PH PO) := Mr.ok_whr F_dr Tq F_pm B_pm g_pm Pm F_dc B_dc g_dc Dc F_dn B_dn g_dn Dn F_dv B_dv g_dv Dv
    have Df : FnOk l.prog w K mg base CX0 10 df _ ["book", "telling"] (Mr.spRfs PH PO) := Mr.ok_rfs F_df CT5 Ot F_pm B_pm g_pm Pm
    exact K53.ok_law F_fL Tkk F_fO B_fO g_fO GO F_fD B_fD g_fD GD F_fB B_fB g_fB GB F_ft B_ft g_ft Gt F_fr B_fr g_fr Gr F_fw B_fw g_fw Gw F_dr B_dr g_dr Dr' F_df B_df g_df Df
end K53
open PySem PySem.W PyProof.Rows
set_option maxHeartbeats 0 in
theorem PySem.Challenge.cw_sparecut_k53_tellings_made_whole_holds : PySem.Challenge.rw_sparecut_k53_tellings_made_whole.Holds := by
  w_on; o_law; k_head; (case hw => w_witness2)
  k_fill
  refine Eg.walk_own (l := PySem.Challenge.rw_sparecut_k53_tellings_made_whole) (m := 63) (k := 11) (x := "script") ["falls", "has_opposites"] rfl (by decide) rfl ⟨rfl, by decide, by decide⟩ (by decide +kernel) (fun w h Y => PySem.W.kIn_of Y) ?F
  case F =>
    intro w mg fa h Y KX G hmg ow
    refine' K53.all_mk KX G hmg ow ?b_fM ?l_fM ?c_fM ?k_fM ?b_fD ?l_fD ?c_fD ?k_fD ?b_fO ?l_fO ?c_fO ?k_fO ?b_fC ?l_fC ?c_fC ?k_fC ?b_fB ?l_fB ?c_fB ?k_fB ?b_fl ?l_fl ?c_fl ?k_fl ?b_fc ?l_fc ?c_fc ?k_fc ?b_fe ?l_fe ?c_fe ?k_fe ?b_fw ?l_fw ?c_fw ?k_fw ?b_fu ?l_fu ?c_fu ?k_fu ?b_ft ?l_ft ?c_ft ?k_ft ?b_fr ?l_fr ?c_fr ?k_fr ?b_fY ?l_fY ?c_fY ?k_fY ?b_fA ?l_fA ?c_fA ?k_fA ?b_fS ?l_fS ?c_fS ?k_fS ?b_fF ?l_fF ?c_fF ?k_fF ?b_fP ?l_fP ?c_fP ?k_fP ?b_fb ?l_fb ?c_fb ?k_fb ?b_fW ?l_fW ?c_fW ?k_fW ?b_fk ?l_fk ?c_fk ?k_fk ?b_pw ?l_pw ?c_pw ?k_pw ?b_pe ?l_pe ?c_pe ?k_pe ?b_pn ?l_pn ?c_pn ?k_pn ?b_pu ?l_pu ?c_pu ?k_pu ?b_pr ?l_pr ?c_pr ?k_pr ?b_pp ?l_pp ?c_pp ?k_pp ?b_po ?l_po ?c_po ?k_po ?b_pt ?l_pt ?c_pt ?k_pt ?b_pm ?l_pm ?c_pm ?k_pm ?b_dw ?l_dw ?c_dw ?k_dw ?b_dn ?l_dn ?c_dn ?k_dn ?b_dq ?l_dq ?c_dq ?k_dq ?b_dc ?l_dc ?c_dc ?k_dc ?b_dv ?l_dv ?c_dv ?k_dv ?b_dr ?l_dr ?c_dr ?k_dr ?b_df ?l_df ?c_df ?k_df ?b_fL ?l_fL ?c_fL ?k_fL ?b_gH ?l_gH ?c_gH ?k_gH ?b_gO ?l_gO ?c_gO ?k_gO ?lc_H ?v_H ?hd_H ?np_H ?lc_O ?v_O ?hd_O ?np_O ?b_MOST_THINGS ?b_MOST_TOLD ?z_range ?z_isinstance ?z_len ?z_list ?z_min ?z_tuple ?z_sorted ?z_all ?z_any ?z_bool ?z_int ?z_enumerate ?z_set ?z_zip ?z_reversed ?z_max ?z_ValueError ?aS ?bS ?hn ?ht ?lS ?tS ?a0 ?hg0 ?hk0 ?hs0 ?hd0 ?ha0 ?hm0 ?lc0 ?ty0 ?ss0 ?sv0 ?a1 ?hg1 ?hk1 ?hs1 ?hd1 ?ha1 ?hm1 ?lc1 ?ty1 ?ss1 ?sv1 ?a2 ?hg2 ?hk2 ?hs2 ?hd2 ?ha2 ?hm2 ?lc2 ?ty2 ?ss2 ?sv2 ?a3 ?hg3 ?hk3 ?hs3 ?hd3 ?ha3 ?hm3 ?lc3 ?ty3 ?ss3 ?sv3 ?a4 ?hg4 ?hk4 ?hs4 ?hd4 ?ha4 ?hm4 ?lc4 ?ty4 ?ss4 ?sv4 ?a5 ?hg5 ?hk5 ?hs5 ?hd5 ?ha5 ?hm5 ?lc5 ?ty5 ?ss5 ?sv5 ?a6 ?hg6 ?hk6 ?hs6 ?hd6 ?ha6 ?hm6 ?lc6 ?ty6 ?ss6 ?sv6 ?a7 ?hg7 ?hk7 ?hs7 ?hd7 ?ha7 ?hm7 ?lc7 ?ty7 ?ss7 ?sv7 ?a8 ?hg8 ?hk8 ?hs8 ?hd8 ?ha8 ?hm8 ?lc8 ?ty8 ?ss8 ?sv8 ?s00 ?s01 ?s02 ?s03 ?s04 ?s05 ?s06 ?s07 ?s08 ?s10 ?s11 ?s12 ?s13 ?s14 ?s15 ?s16 ?s17 ?s18 ?s20 ?s21 ?s22 ?s23 ?s24 ?s25 ?s26 ?s27 ?s28 ?s30 ?s31 ?s32 ?s33 ?s34 ?s35 ?s36 ?s37 ?s38 ?s40 ?s41 ?s42 ?s43 ?s44 ?s45 ?s46 ?s47 ?s48 ?s50 ?s51 ?s52 ?s53 ?s54 ?s55 ?s56 ?s57 ?s58 ?s60 ?s61 ?s62 ?s63 ?s64 ?s65 ?s66 ?s67 ?s68 ?s70 ?s71 ?s72 ?s73 ?s74 ?s75 ?s76 ?s77 ?s78 ?s80 ?s81 ?s82 ?s83 ?s84 ?s85 ?s86 ?s87 ?s88 ?xc5 ?kp5
    (case b_fM => k_is)
    (case l_fM => k_is)
    (case c_fM => k_is)
    (case k_fM => k_is)
    (case b_fD => k_is)
    (case l_fD => k_is)
    (case c_fD => k_is)
    (case k_fD => k_is)
    (case b_fO => k_is)
    (case l_fO => k_is)
    (case c_fO => k_is)
    (case k_fO => k_is)
    (case b_fC => k_is)
    (case l_fC => k_is)
    (case c_fC => k_is)
    (case k_fC => k_is)
    (case b_fB => k_is)
    (case l_fB => k_is)
    (case c_fB => k_is)
    (case k_fB => k_is)
    (case b_fl => k_is)
    (case l_fl => k_is)
    (case c_fl => k_is)
    (case k_fl => k_is)
    (case b_fc => k_is)
    (case l_fc => k_is)
    (case c_fc => k_is)
    (case k_fc => k_is)
    (case b_fe => k_is)
    (case l_fe => k_is)
    (case c_fe => k_is)
    (case k_fe => k_is)
    (case b_fw => k_is)
    (case l_fw => k_is)
    (case c_fw => k_is)
    (case k_fw => k_is)
    (case b_fu => k_is)
    (case l_fu => k_is)
    (case c_fu => k_is)
    (case k_fu => k_is)
    (case b_ft => k_is)
    (case l_ft => k_is)
    (case c_ft => k_is)
    (case k_ft => k_is)
    (case b_fr => k_is)
    (case l_fr => k_is)
    (case c_fr => k_is)
    (case k_fr => k_is)
    (case b_fY => k_is)
    (case l_fY => k_is)
    (case c_fY => k_is)
    (case k_fY => k_is)
    (case b_fA => k_is)
    (case l_fA => k_is)
    (case c_fA => k_is)
    (case k_fA => k_is)
    (case b_fS => k_is)
    (case l_fS => k_is)
    (case c_fS => k_is)
    (case k_fS => k_is)
    (case b_fF => k_is)
    (case l_fF => k_is)
    (case c_fF => k_is)
    (case k_fF => k_is)
    (case b_fP => k_is)
    (case l_fP => k_is)
    (case c_fP => k_is)
    (case k_fP => k_is)
    (case b_fb => k_is)
    (case l_fb => k_is)
    (case c_fb => k_is)
    (case k_fb => k_is)
    (case b_fW => k_is)
    (case l_fW => k_is)
    (case c_fW => k_is)
    (case k_fW => k_is)
    (case b_fk => k_is)
    (case l_fk => k_is)
    (case c_fk => k_is)
    (case k_fk => k_is)
    (case b_pw => k_is)
    (case l_pw => k_is)
    (case c_pw => k_is)
    (case k_pw => k_is)
    (case b_pe => k_is)
    (case l_pe => k_is)
    (case c_pe => k_is)
    (case k_pe => k_is)
    (case b_pn => k_is)
    (case l_pn => k_is)
    (case c_pn => k_is)
    (case k_pn => k_is)
    (case b_pu => k_is)
    (case l_pu => k_is)
    (case c_pu => k_is)
    (case k_pu => k_is)
    (case b_pr => k_is)
    (case l_pr => k_is)
    (case c_pr => k_is)
    (case k_pr => k_is)
    (case b_pp => k_is)
    (case l_pp => k_is)
    (case c_pp => k_is)
    (case k_pp => k_is)
    (case b_po => k_is)
    (case l_po => k_is)
    (case c_po => k_is)
    (case k_po => k_is)
    (case b_pt => k_is)
    (case l_pt => k_is)
    (case c_pt => k_is)
    (case k_pt => k_is)
    (case b_pm => k_is)
    (case l_pm => k_is)
    (case c_pm => k_is)
    (case k_pm => k_is)
    (case b_dw => k_is)
    (case l_dw => k_is)
    (case c_dw => k_is)
    (case k_dw => k_is)
    (case b_dn => k_is)
    (case l_dn => k_is)
    (case c_dn => k_is)
    (case k_dn => k_is)
    (case b_dq => k_is)
    (case l_dq => k_is)
    (case c_dq => k_is)
    (case k_dq => k_is)
    (case b_dc => k_is)
    (case l_dc => k_is)
    (case c_dc => k_is)
    (case k_dc => k_is)
    (case b_dv => k_is)
    (case l_dv => k_is)
    (case c_dv => k_is)
    (case k_dv => k_is)
    (case b_dr => k_is)
    (case l_dr => k_is)
    (case c_dr => k_is)
    (case k_dr => k_is)
    (case b_df => k_is)
    (case l_df => k_is)
    (case c_df => k_is)
    (case k_df => k_is)
    (case b_fL => k_is)
    (case l_fL => k_is)
    (case c_fL => k_is)
    (case k_fL => k_is)
    (case b_gH => k_is)
    (case l_gH => k_is)
    (case c_gH => k_is)
    (case k_gH => k_is)
    (case b_gO => k_is)
    (case l_gO => k_is)
    (case c_gO => k_is)
    (case k_gO => k_is)
    (case lc_H => k_is)
    (case v_H => exact rfl)
    (case hd_H => kernel_rfl)
    (case np_H => kernel_rfl)
    (case lc_O => k_is)
    (case v_O => exact rfl)
    (case hd_O => kernel_rfl)
    (case np_O => kernel_rfl)
    (case b_MOST_THINGS => k_is)
    (case b_MOST_TOLD => k_is)
    (case z_range => k_is)
    (case z_isinstance => k_is)
    (case z_len => k_is)
    (case z_list => k_is)
    (case z_min => k_is)
    (case z_tuple => k_is)
    (case z_sorted => k_is)
    (case z_all => k_is)
    (case z_any => k_is)
    (case z_bool => k_is)
    (case z_int => k_is)
    (case z_enumerate => k_is)
    (case z_set => k_is)
    (case z_zip => k_is)
    (case z_reversed => k_is)
    (case z_max => k_is)
    (case z_ValueError => k_is)
    (case aS => k_is)
    (case bS => k_is)
    (case hn => k_is)
    (case ht => k_is)
    (case lS => k_is)
    (case tS => k_is)
    (case a0 => k_is)
    (case hg0 => k_is)
    (case hk0 => k_is)
    (case hs0 => k_is)
    (case hd0 => k_is)
    (case ha0 => k_is)
    (case hm0 => k_is)
    (case lc0 => k_is)
    (case ty0 => k_is)
    (case ss0 => k_is)
    (case sv0 => k_is)
    (case a1 => k_is)
    (case hg1 => k_is)
    (case hk1 => k_is)
    (case hs1 => k_is)
    (case hd1 => k_is)
    (case ha1 => k_is)
    (case hm1 => k_is)
    (case lc1 => k_is)
    (case ty1 => k_is)
    (case ss1 => k_is)
    (case sv1 => k_is)
    (case a2 => k_is)
    (case hg2 => k_is)
    (case hk2 => k_is)
    (case hs2 => k_is)
    (case hd2 => k_is)
    (case ha2 => k_is)
    (case hm2 => k_is)
    (case lc2 => k_is)
    (case ty2 => k_is)
    (case ss2 => k_is)
    (case sv2 => k_is)
    (case a3 => k_is)
    (case hg3 => k_is)
    (case hk3 => k_is)
    (case hs3 => k_is)
    (case hd3 => k_is)
    (case ha3 => k_is)
    (case hm3 => k_is)
    (case lc3 => k_is)
    (case ty3 => k_is)
    (case ss3 => k_is)
    (case sv3 => k_is)
    (case a4 => k_is)
    (case hg4 => k_is)
    (case hk4 => k_is)
    (case hs4 => k_is)
    (case hd4 => k_is)
    (case ha4 => k_is)
    (case hm4 => k_is)
    (case lc4 => k_is)
    (case ty4 => k_is)
    (case ss4 => k_is)
    (case sv4 => k_is)
    (case a5 => k_is)
    (case hg5 => k_is)
    (case hk5 => k_is)
    (case hs5 => k_is)
    (case hd5 => k_is)
    (case ha5 => k_is)
    (case hm5 => k_is)
    (case lc5 => k_is)
    (case ty5 => k_is)
    (case ss5 => k_is)
    (case sv5 => k_is)
    (case a6 => k_is)
    (case hg6 => k_is)
    (case hk6 => k_is)
    (case hs6 => k_is)
    (case hd6 => k_is)
    (case ha6 => k_is)
    (case hm6 => k_is)
    (case lc6 => k_is)
    (case ty6 => k_is)
    (case ss6 => k_is)
    (case sv6 => k_is)
    (case a7 => k_is)
    (case hg7 => k_is)
    (case hk7 => k_is)
    (case hs7 => k_is)
    (case hd7 => k_is)
    (case ha7 => k_is)
    (case hm7 => k_is)
    (case lc7 => k_is)
    (case ty7 => k_is)
    (case ss7 => k_is)
    (case sv7 => k_is)
    (case a8 => k_is)
    (case hg8 => k_is)
    (case hk8 => k_is)
    (case hs8 => k_is)
    (case hd8 => k_is)
    (case ha8 => k_is)
    (case hm8 => k_is)
    (case lc8 => k_is)
    (case ty8 => k_is)
    (case ss8 => k_is)
    (case sv8 => k_is)
    (case s00 => k_is)
    (case s01 => k_is)
    (case s02 => k_is)
    (case s03 => k_is)
    (case s04 => k_is)
    (case s05 => k_is)
    (case s06 => k_is)
    (case s07 => k_is)
    (case s08 => k_is)
    (case s10 => k_is)
    (case s11 => k_is)
    (case s12 => k_is)
    (case s13 => k_is)
    (case s14 => k_is)
    (case s15 => k_is)
    (case s16 => k_is)
    (case s17 => k_is)
    (case s18 => k_is)
    (case s20 => k_is)
    (case s21 => k_is)
    (case s22 => k_is)
    (case s23 => k_is)
    (case s24 => k_is)
    (case s25 => k_is)
    (case s26 => k_is)
    (case s27 => k_is)
    (case s28 => k_is)
    (case s30 => k_is)
    (case s31 => k_is)
    (case s32 => k_is)
    (case s33 => k_is)
    (case s34 => k_is)
    (case s35 => k_is)
    (case s36 => k_is)
    (case s37 => k_is)
    (case s38 => k_is)
    (case s40 => k_is)
    (case s41 => k_is)
    (case s42 => k_is)
    (case s43 => k_is)
    (case s44 => k_is)
    (case s45 => k_is)
    (case s46 => k_is)
    (case s47 => k_is)
    (case s48 => k_is)
    (case s50 => k_is)
    (case s51 => k_is)
    (case s52 => k_is)
    (case s53 => k_is)
    (case s54 => k_is)
    (case s55 => k_is)
    (case s56 => k_is)
    (case s57 => k_is)
    (case s58 => k_is)
    (case s60 => k_is)
    (case s61 => k_is)
    (case s62 => k_is)
    (case s63 => k_is)
    (case s64 => k_is)
    (case s65 => k_is)
    (case s66 => k_is)
    (case s67 => k_is)
    (case s68 => k_is)
    (case s70 => k_is)
    (case s71 => k_is)
    (case s72 => k_is)
    (case s73 => k_is)
    (case s74 => k_is)
    (case s75 => k_is)
    (case s76 => k_is)
    (case s77 => k_is)
    (case s78 => k_is)
    (case s80 => k_is)
    (case s81 => k_is)
    (case s82 => k_is)
    (case s83 => k_is)
    (case s84 => k_is)
    (case s85 => k_is)
    (case s86 => k_is)
    (case s87 => k_is)
    (case s88 => k_is)
    (case xc5 => k_exc)
    (case kp5 => k_is)
