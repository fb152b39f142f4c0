import PyProof.Rows.All
import Wide.All
import OpenK.AllK
import Wide.FinOn
import PyProof.EqAt
import PyProof.EqKinds
import PyProof.TupleCall
import PySem.Challenge.RW_sparecut_k09_refusals_apart
import HandS.ForMost
import HandS.Evl
import HandS.Conv
import HandS.Exc
import HandS.ExcOwn
import HandS.ExcInit
import HandS.ExcValue
import HandS.ExcIs
import KE.KExcIs
import KE.KxText
set_option Elab.async false
set_option linter.all false
set_option maxRecDepth 100000
set_option maxHeartbeats 2000000
namespace Dr
open PySem PySem.Spec PyProof.Rows L2
/-! ### the drawing of numbers: smixed, sdraw, sopen -/
def topS (i : Nat) : Stmt := PySem.Challenge.pw_sparecut_k09_refusals_apart.main.body.getD i (.Pass ⟨0, 0, 0, 0⟩)
abbrev sMix : Stmt := topS 12
abbrev sDrw : Stmt := topS 13
abbrev sOpn : Stmt := topS 14
theorem scMix : FnScope ["cell", "at", "one", "two", "three"] ["cell", "at"] (defScope sMix) := ⟨rfl, rfl, rfl, by decide +kernel, rfl, by decide +kernel, by decide +kernel⟩
theorem scDrw : FnScope ["feed", "many", "at", "cell", "digit"] ["feed", "many"] (defScope sDrw) := ⟨rfl, rfl, rfl, by decide +kernel, rfl, by decide +kernel, by decide +kernel⟩
theorem scOpn : FnScope ["script"] ["script"] (defScope sOpn) := ⟨rfl, rfl, rfl, by decide +kernel, rfl, by decide +kernel, by decide +kernel⟩
/-- what lies at f: cells (at c), a place, a rest; at most B cells were taken -/
def Feed (H : Hp) (f c : Addr) (B : Nat) : Prop := ∃ (ns : List Int) (n : Nat) (r : Int),
  H f = some (.lst [.ref c, .int n, .int r]) ∧ H c = some (.lst (ns.map V.int)) ∧ ns.length ≤ 60 ∧ n ≤ B
/-- all but f is as it was -/
def But (f : Addr) (H H' : Hp) : Prop := ∀ b, b ≠ f → H' b = H b
theorem But.refl (f : Addr) (H : Hp) : But f H H := fun _ _ => rfl
theorem But.trans {f : Addr} {H H1 H2 : Hp} (a : But f H H1) (b : But f H1 H2) : But f H H2 := fun x n => (b x n).trans (a x n)
theorem Feed.mono {H : Hp} {f c : Addr} {B B' : Nat} (h : Feed H f c B) (l : B ≤ B') : Feed H f c B' := by
  obtain ⟨ns, n, r, h1, h2, h3, h4⟩ := h
  exact ⟨ns, n, r, h1, h2, h3, Nat.le_trans h4 l⟩
theorem Feed.same {H H' : Hp} {f c : Addr} {B : Nat} (h : Feed H f c B) (s : Same H H') : Feed H' f c B := by
  obtain ⟨ns, n, r, h1, h2, h3, h4⟩ := h
  exact ⟨ns, n, r, s _ _ h1, s _ _ h2, h3, h4⟩
theorem Feed.upd {H : Hp} {f c D : Addr} {B : Nat} {o : HO} (h : Feed H f c B) (nf : D ≠ f) (nc : D ≠ c) : Feed (upd H D o) f c B := by
  obtain ⟨ns, n, r, h1, h2, h3, h4⟩ := h
  exact ⟨ns, n, r, by rw [upd_ne (Ne.symm nf)]; exact h1, by rw [upd_ne (Ne.symm nc)]; exact h2, h3, h4⟩
theorem Feed.nf {H : Hp} {f c D : Addr} {B : Nat} (h : Feed H f c B) (n : H D = none) : D ≠ f := by
  obtain ⟨_, _, _, h1, _⟩ := h
  exact Ne.symm (ne_of_none h1 n)
theorem Feed.nc {H : Hp} {f c D : Addr} {B : Nat} (h : Feed H f c B) (n : H D = none) : D ≠ c := by
  obtain ⟨_, _, _, _, h2, _⟩ := h
  exact Ne.symm (ne_of_none h2 n)
theorem feed_ne {H : Hp} {f c : Addr} {ns : List Int} {a : V} {as : List V} (h1 : H f = some (.lst (.ref c :: as))) (h2 : H c = some (.lst (ns.map V.int))) : c ≠ f := by
  intro e
  rw [e, h1] at h2
  have z := HO.lst.inj (Option.some.inj h2)
  cases ns with
  | nil => cases z
  | cons x r => cases z
section
variable {P : Program} {w : World} {K : PySem.W.Frag} {mg : Str → Option Value} {base : Heap}
def spMix : Sp := fun vs H Q _ => ∃ (c : Int) (n : Nat), vs = [.int c, .int n] ∧ n ≤ 2 ^ 60 ∧ ∀ r : Int, Q (.int r) H
theorem ok_mix {f : Addr} {fd : FuncData} {k : Nat} (F : Fun K "_law_smixed" "_law_smixed" sMix f fd) : FnOk P w K mg base CX0 (k + 1) f fd ["cell", "at"] spMix := by
  refine F.ok scMix (fun vs H Q E h => ?_) (fun cdv A outer s H vs Q E hr h => ?_)
  · obtain ⟨c, n, rfl, _⟩ := h
    rfl
  · obtain ⟨c, n, rfl, hn, q⟩ := h
    refine ⟨_, pss_cons (ps_set (i := 2) scMix.nd rfl (.inl rfl) (pe_op op_mod (pe_op op_add (pe_op op_add (pe_op op_mul (pe_op op_mod (pv 0) pe_int) pe_int) (pe_op op_mul (pv 1) pe_int)) pe_int) pe_int))
      (pss_cons (ps_set (i := 3) scMix.nd rfl (.inl rfl) (pe_op op_mod (pe_op op_add (pe_op op_add (pe_op op_mul (pv 2) (pv 2)) (pe_op op_mul (pe_op op_mul (pv 1) (pv 1)) pe_int)) pe_int) pe_int))
      (pss_cons (ps_set (i := 4) scMix.nd rfl (.inl rfl) (pe_op op_mod (pe_op op_add (pe_op op_add (pe_op op_mul (pv 3) (pv 3)) (pv 2)) (pv 1)) pe_int))
      (pss_one (ps_ret (pe_op op_add (pe_op op_mul (pe_op op_add (pe_op op_mul (pv 4) pe_int) (pv 3)) pe_int) (pv 2)))))), ?_⟩
    refine ⟨_, rfl, _, _, rfl, rfl, by show (0 : Int) < 2147483647; decide, _, _, rfl, rfl, .inr ⟨by decide, by decide⟩, _, rfl, _, _, rfl, rfl, .inr ⟨by decide, by decide⟩, _, _, rfl, rfl, _, _, rfl, rfl, _, _, rfl, rfl, by show (0 : Int) < 2147483629; decide, ?_⟩
    generalize e1 : (c % 2147483647 * 48271 + (n : Int) * 7919 + 11) % 2147483629 = one
    have o1 : 0 ≤ one := by rw [← e1]; exact Int.emod_nonneg _ (by decide)
    have o2 : one < 2147483629 := by rw [← e1]; exact Int.emod_lt_of_pos _ (by decide)
    refine ⟨_, rfl, _, rfl, _, _, rfl, rfl, .inl ⟨by omega, by omega⟩, _, rfl, _, rfl, _, _, rfl, rfl, .inl ⟨by omega, by omega⟩, _, _, rfl, rfl, .inr ⟨by decide, by decide⟩, _, _, rfl, rfl, _, _, rfl, rfl, _, _, rfl, rfl, by show (0 : Int) < 2147483587; decide, ?_⟩
    generalize e2 : (one * one + (n : Int) * (n : Int) * 31 + 5) % 2147483587 = two
    have t1 : 0 ≤ two := by rw [← e2]; exact Int.emod_nonneg _ (by decide)
    have t2 : two < 2147483587 := by rw [← e2]; exact Int.emod_lt_of_pos _ (by decide)
    refine ⟨_, rfl, _, rfl, _, _, rfl, rfl, .inl ⟨by omega, by omega⟩, _, rfl, _, _, rfl, rfl, _, rfl, _, _, rfl, rfl, _, _, rfl, rfl, by show (0 : Int) < 2147483563; decide, ?_⟩
    exact ⟨_, rfl, _, _, rfl, rfl, .inr ⟨by decide, by decide⟩, _, rfl, _, _, rfl, rfl, _, _, rfl, rfl, .inr ⟨by decide, by decide⟩, _, rfl, _, _, rfl, rfl, q _⟩
/-- sdraw(feed, many): any number from 0 to many - 1 -/
def spDrw : Sp := fun vs H Q _ => ∃ (f c : Addr) (m : Int) (B : Nat), vs = [.ref f, .int m] ∧ 0 < m ∧ m < 2 ^ 29 ∧ Feed H f c B ∧ B ≤ 2 ^ 59 ∧
  ∀ (d : Int) (H' : Hp), 0 ≤ d → d < m → Feed H' f c (B + 1) → But f H H' → Q (.int d) H'
theorem ok_drw {f fM : Addr} {fd fdM : FuncData} {k : Nat} (F : Fun K "_law_sdraw" "_law_sdraw" sDrw f fd) (FM : Fun K "_law_smixed" "_law_smixed" sMix fM fdM) (bM : Binds K fdM ["cell", "at"] []) (gM : mg "_law_smixed" = some (.ref fM)) (ml : mg "len" = none) :
    FnOk P w K mg base CX0 (k + 2) f fd ["feed", "many"] spDrw := by
  have GM : FnOk P w K mg base CX0 1 fM fdM ["cell", "at"] spMix := ok_mix FM
  refine F.ok scDrw (fun vs H Q E h => ?_) (fun cdv A outer s H vs Q E hr h => ?_)
  · obtain ⟨f, c, m, B, rfl, _⟩ := h
    rfl
  · obtain ⟨f, c, m, B, rfl, m0, m1, hF, hB, q⟩ := h
    have hr1 : Room 1 _ := hr.mono (by omega)
    refine ⟨_, Evl.pss_cut (ps_if (pt_cmpR op_lt (pe_ix ix_list (pv 0) pe_int (fun _ _ => rfl)) (pv 1) (nomark _))
        (pss_cons (ps_set (i := 2) scDrw.nd rfl (.inl rfl) (pe_ix ix_list (pv 0) pe_int (fun _ _ => rfl)))
        (pss_cons (ps_set (i := 3) scDrw.nd rfl (.inl rfl) (pe_op op_mul (pv 2) pe_int))
        (Evl.pss_cut (ps_if (pt_cmpR op_gt (pe_callB call_len_seq (by rfl) ml PySem.boot_len (pa_cons (pe_ix ix_list (pv 0) pe_int (fun _ _ => rfl)) pa_nil)) pe_int (nomark _))
            (pss_one (ps_set (i := 3) scDrw.nd rfl (.inl rfl) (pe_ix ix_list (pe_ix ix_list (pv 0) pe_int (fun _ _ => rfl)) (pe_op op_mod (pv 2) (pe_callB call_len_seq (by rfl) ml PySem.boot_len (pa_cons (pe_ix ix_list (pv 0) pe_int (fun _ _ => rfl)) pa_nil))) (fun _ _ => rfl)))) pss_nil)
        (pss_cons (ps_asg (pe_op op_add (pv 2) pe_int) (pg_sub (pv 0) pe_int set_list))
        (Evl.pss_cut (ps_asg (pv 3) (pg_sub (pv 0) pe_int set_list))
        (pss_one (ps_if (PW.pt (pw_or (pt_cmpR op_lt (pv 3) (pe_op op_pow pe_int pe_int) (nomark _)) (pw_or1 (pt_cmpR op_ge (pv 2) (pe_callB call_len_seq (by rfl) ml PySem.boot_len (pa_cons (pe_ix ix_list (pv 0) pe_int (fun _ _ => rfl)) pa_nil)) (nomark _)))))
          (pss_one (ps_asg (pe_call GM hr1 (by rfl) gM FM.kp bM .nil pass0 (pa_cons (pv 3) (pa_cons (pv 2) pa_nil))) (pg_sub (pv 0) pe_int set_list))) pss_nil)))))))
        pss_nil)
      (pss_cons (ps_set (i := 4) scDrw.nd rfl (.inl rfl) (pe_op op_mod (pe_ix ix_list (pv 0) pe_int (fun _ _ => rfl)) (pv 1)))
      (pss_cons (ps_asg (pe_op op_fdiv (pe_ix ix_list (pv 0) pe_int (fun _ _ => rfl)) (pv 1)) (pg_sub (pv 0) pe_int set_list))
      (pss_one (ps_ret (pv 4))))), ?_⟩
    obtain ⟨ns, n, r, h1, h2, h3, h4⟩ := hF
    have hcf : c ≠ f := feed_ne (a := .non) h1 h2
    have hS : SqL K H f [.ref c, .int n, .int r] := .of h1
    have hC : SqL K H c (ns.map V.int) := .of h2
    refine Evl.q_cut (M := fun σ' H' => ∃ (y2 y3 : Option V) (n' : Nat) (r' : Int), σ' = [some (.ref f), some (.int m), y2, y3, none] ∧ H' f = some (.lst [.ref c, .int n', .int r']) ∧ n' ≤ B + 1 ∧ But f H H') ?_ ?_
    · refine ⟨.ref f, rfl, f, _, 2, _, rfl, rfl, hS, rfl, .int m, rfl, _, _, rfl, rfl, _, rfl, ite2 (fun e => ?_) (fun e => ?_)⟩
      · refine ⟨.ref f, rfl, f, _, 1, _, rfl, rfl, hS, rfl, ?_⟩
        refine ⟨_, rfl, _, _, rfl, rfl, .inr ⟨by decide, by decide⟩, ?_⟩
        refine Evl.q_cut (M := fun σ' H' => ∃ (z : Int), σ' = [some (.ref f), some (.int m), some (.int n), some (.int z), none] ∧ H' = H) ?_ ?_
        · refine ⟨.ref f, rfl, f, _, 0, _, rfl, rfl, hS, rfl, c, _, rfl, .inl hC, _, _, rfl, rfl, _, rfl, ite2 (fun e => ?_) (fun e => ?_)⟩
          · have l0 : 0 < ns.length := by
              have z : (0 : Int) < ((ns.map V.int).length : Int) := of_decide_eq_true e
              rw [List.length_map] at z
              omega
            have l1 : n % ns.length < ns.length := Nat.mod_lt _ l0
            refine ⟨.ref f, rfl, f, _, 0, _, rfl, rfl, hS, rfl, _, rfl, .ref f, rfl, f, _, 0, _, rfl, rfl, hS, rfl, c, _, rfl, .inl hC, _, _, rfl, rfl, ?_, c, _, _, .int (ns[n % ns.length]), rfl, rfl, hC, ?_, ?_⟩
            · show (0 : Int) < ((ns.map V.int).length : Int)
              rw [List.length_map]
              omega
            · refine at_of (j := n % ns.length) ?_ ?_
              · rw [List.length_map]
                exact (Int.natCast_emod n ns.length).symm
              · rw [List.getElem?_map, List.getElem?_eq_getElem l1]
                rfl
            · exact ⟨_, rfl, rfl⟩
          · exact ⟨_, rfl, rfl⟩
        · rintro σ' H' ⟨z, rfl, rfl⟩
          refine ⟨_, rfl, _, _, rfl, rfl, _, rfl, f, _, 1, 1, rfl, rfl, h1, rfl, ?_⟩
          refine Evl.q_cut (M := fun σ' H2 => σ' = [some (.ref f), some (.int m), some (.int n), some (.int z), none] ∧ But f H' H2 ∧ H2 f = some (.lst [.ref c, .int ((n + 1 : Nat) : Int), .int z])) ?_ ?_
          · refine ⟨_, rfl, _, rfl, f, _, 2, 2, rfl, rfl, upd_same, rfl, rfl, fun b nb => ?_, upd_same⟩
            rw [upd_ne nb, upd_ne nb]
          rintro σ' H2 ⟨rfl, b2, f2⟩
          have hS2 : SqL K H2 f [.ref c, .int ((n + 1 : Nat) : Int), .int z] := .of f2
          have hC2 : SqL K H2 c (ns.map V.int) := .of ((b2 c hcf).trans h2)
          have mix : ∀ D : Ends, D.nx = (fun σ' H'' => ∃ (y2 y3 : Option V) (n' : Nat) (r' : Int), σ' = [some (.ref f), some (.int m), y2, y3, none] ∧ H'' f = some (.lst [.ref c, .int n', .int r']) ∧ n' ≤ B + 1 ∧ But f H' H'') →
              tAsg (tCall spMix [] E0 (tCons (tVar 3) (tCons (tVar 2) tNil))) (gSub (tVar 0) (tC (.int 2)) rSetL) D [some (.ref f), some (.int m), some (.int n), some (.int z), none] H2 := by
            intro D hD
            refine ⟨_, rfl, _, rfl, z, n, rfl, by omega, fun r2 => ?_⟩
            refine ⟨_, rfl, f, _, 2, 2, rfl, rfl, f2, rfl, ?_⟩
            rw [hD]
            exact ⟨_, _, n + 1, r2, rfl, upd_same, by omega, fun b nb => by rw [upd_ne nb]; exact b2 b nb⟩
          refine ⟨_, rfl, _, _, rfl, rfl, ⟨by decide, by decide, by decide⟩, _, _, rfl, rfl, _, rfl, ite2 (fun e => ?_) (fun e => ?_)⟩
          · exact iteT (mix _ rfl)
          · refine ⟨_, rfl, .ref f, rfl, f, _, 0, _, rfl, rfl, hS2, rfl, c, _, rfl, .inl hC2, _, _, rfl, rfl, _, rfl, ite2 (fun e => ?_) (fun e => ?_)⟩
            · exact mix _ rfl
            · exact ⟨_, _, n + 1, z, rfl, f2, by omega, b2⟩
      · exact ⟨none, none, n, r, rfl, h1, by omega, But.refl f H⟩
    · rintro σ' H' ⟨y2, y3, n', r', rfl, f1, ln, b1⟩
      have hS1 : SqL K H' f [.ref c, .int n', .int r'] := .of f1
      refine ⟨.ref f, rfl, f, _, 2, _, rfl, rfl, hS1, rfl, .int m, rfl, _, _, rfl, rfl, m0, ?_⟩
      refine ⟨.ref f, rfl, f, _, 2, _, rfl, rfl, hS1, rfl, .int m, rfl, _, _, rfl, rfl, ⟨m0, by omega⟩, .ref f, rfl, f, _, 2, 2, rfl, rfl, f1, rfl, ?_⟩
      refine ⟨_, rfl, q (r' % m) _ (Int.emod_nonneg _ (by omega)) (Int.emod_lt_of_pos _ m0) ⟨ns, n', r' / m, upd_same, ?_, h3, ln⟩ fun b nb => ?_⟩
      · rw [upd_ne hcf, b1 c hcf]
        exact h2
      · rw [upd_ne nb]
        exact b1 b nb
/-- sopen(script) -/
def spOpn (K : PySem.W.Frag) : Sp := fun vs H Q _ => ∃ (a : Addr) (ns : List Int), vs = [.ref a] ∧ SqL K H a (ns.map V.int) ∧ ∀ (f c : Addr) (H' : Hp), H f = none → H c = none → Same H H' → Feed H' f c 0 → Q (.ref f) H'
theorem cut60 (ns : List Int) : cutV (ns.map V.int) none (some 60) = (ns.take 60).map V.int := by
  unfold cutV
  rw [HT.sIx_none, show HT.sIx (ns.map V.int).length (ns.map V.int).length (some 60) = min 60 (ns.map V.int).length from HT.sIx_nat _ _ 60]
  rw [List.drop_zero, Nat.sub_zero, List.map_take, List.length_map]
  by_cases h : ns.length ≤ 60
  · rw [Nat.min_eq_right h, List.take_of_length_le (by rw [List.length_map]; exact Nat.le_refl _), List.take_of_length_le (by rw [List.length_map]; exact h)]
  · rw [Nat.min_eq_left (by omega)]
theorem same_upd {H : Hp} {p : Addr} {o : HO} (h : H p = none) : Same H (upd H p o) := fun b x e => by
  rw [upd_ne (ne_of_none e h)]
  exact e
theorem ok_opn {f : Addr} {fd : FuncData} {k : Nat} (F : Fun K "_law_sopen" "_law_sopen" sOpn f fd) (ml : mg "list" = none) : FnOk P w K mg base CX0 (k + 1) f fd ["script"] (spOpn K) := by
  refine F.ok scOpn (fun vs H Q E h => ?_) (fun cdv A outer s H vs Q E hr h => ?_)
  · obtain ⟨a, ns, rfl, _⟩ := h
    rfl
  · obtain ⟨a, ns, rfl, hS, q⟩ := h
    refine ⟨_, pss_one (ps_ret (pe_lst (pa_cons (pe_callTy call_list_of (by rfl) ml (by decide +kernel) (pa_cons (pe_slice sl_list (pv 0) po_none (po_some pe_int)) pa_nil)) (pa_cons pe_int (pa_cons pe_int pa_nil))))), ?_⟩
    refine ⟨.ref a, rfl, 60, rfl, a, _, rfl, hS, fun c nc => ?_⟩
    refine ⟨c, _, rfl, .inl (.of upd_same), fun d nd => ?_⟩
    refine ⟨by show 3 ≤ sizeLine; decide, fun p np => ?_⟩
    have s1 : Same H (upd H c (.lst (cutV (ns.map V.int) none (some 60)))) := same_upd nc
    have s2 := s1.trans (same_upd (o := .lst (cutV (ns.map V.int) none (some 60))) nd)
    have s3 := s2.trans (same_upd (o := .lst [.ref d, .int 0, .int 0]) np)
    refine q p d _ (s2.free np) (s1.free nd) s3 ⟨ns.take 60, 0, 0, upd_same, ?_, ?_, Nat.le_refl _⟩
    · have ndp : d ≠ p := ne_of_none (upd_same (H := upd H c (.lst (cutV (ns.map V.int) none (some 60)))) (a := d) (o := .lst (cutV (ns.map V.int) none (some 60)))) np
      rw [upd_ne ndp, upd_same, cut60]
    · rw [List.length_take]
      omega
end
end Dr
namespace Nw
open PySem PySem.Spec PyProof.Rows L2
/-! ### readings that hide the heap: what is new is told by its facts alone -/
theorem same_new {H : Hp} {p : Addr} {o : HO} (h : H p = none) : Same H (upd H p o) := fun b x e => by
  rw [upd_ne (ne_of_none e h)]
  exact e
theorem sqt {K : PySem.W.Frag} {H H' : Hp} {a : Addr} {xs : List V} (e : Same H H') (h : SqT K H a xs) : SqT K H' a xs := by
  rcases h with (h | ⟨o, h⟩) | h
  · exact .inl (.inl (e _ _ h))
  · exact .inl (.inr ⟨o, e _ _ h⟩)
  · exact .inr h
/-- a new object o at a place of its own -/
def New (H : Hp) (o : HO) (Q : VK) : Prop := ∀ p H2, H p = none → Same H H2 → H2 p = some o → (∀ b, b ≠ p → H2 b = H b) → Q (.ref p) H2
theorem New.to {H : Hp} {o : HO} {Q : VK} (h : New H o Q) : ∀ p, H p = none → Q (.ref p) (upd H p o) := fun p n => h p _ n (same_new n) upd_same fun b nb => upd_ne nb
section
variable {X : Cx} {e : Expr} {es : List Expr} {t t' : TE} {ta : TA} {pos : Pos}
theorem pe_weak (h : PE X e t) (i : ∀ σ H Q, t' σ H Q → t σ H Q) : PE X e t' := ⟨fun pins s σ H Q I q => h.run pins s σ H Q I (i σ H Q q)⟩
theorem op_weak {f : Value → Value → Sem Value} {r r' : R2} (h : OpR X f r) (i : ∀ x y H Q, r' x y H Q → r x y H Q) : OpR X f r' := fun pins s σ H x y v u Q I rx ry q => h pins s σ H x y v u Q I rx ry (i x y H Q q)
theorem call_weak {f : Value} {r r' : List V → Hp → VK → Prop} (h : CallR X f r) (i : ∀ xs H Q, r' xs H Q → r xs H Q) : CallR X f r' := fun pins s σ H xs us Q I rx q => h pins s σ H xs us Q I rx (i xs H Q q)
theorem mt_weak {id : String} {r r' : V → List V → Hp → VK → Prop} (h : MtR X id r) (i : ∀ x xs H Q, r' x xs H Q → r x xs H Q) : MtR X id r' := fun pins s σ H x xs v us Q I rx rs q => h pins s σ H x xs v us Q I rx rs (i x xs H Q q)
theorem sl_weak {r r' : V → Option Int → Option Int → Hp → VK → Prop} (h : SlR X r) (i : ∀ x lo hi H Q, r' x lo hi H Q → r x lo hi H Q) : SlR X r' := fun pins s σ H x v vl vu lo hi sl Q I rx a b c q => h pins s σ H x v vl vu lo hi sl Q I rx a b c (i x lo hi H Q q)
/-- what follows may be asked for less -/
def clA (t : TA) : TA := fun σ H R => ∃ R' : List V → Hp → Prop, (∀ xs H1, R' xs H1 → R xs H1) ∧ t σ H R'
theorem pa_cl (h : PA X es ta) : PA X es (clA ta) := ⟨fun ps pins s σ H Q I ⟨R', i, q⟩ => thn (h.run ps pins s σ H R' I q) fun us s1 ⟨vs, H1, I1, r1, q1⟩ => ⟨vs, H1, I1, r1, i vs H1 q1⟩⟩
def clE (t : TE) : TE := fun σ H R => ∃ R' : VK, (∀ v H1, R' v H1 → R v H1) ∧ t σ H R'
theorem pe_cl (h : PE X e t) : PE X e (clE t) := ⟨fun pins s σ H Q I ⟨R', i, q⟩ => thn (h.run pins s σ H R' I q) fun u s1 ⟨v, H1, I1, r1, q1⟩ => ⟨v, H1, I1, r1, i v H1 q1⟩⟩
def nLst (t : TA) : TE := fun σ H Q => t σ H fun xs H1 => xs.length ≤ sizeLine ∧ New H1 (.lst xs) Q
def nTup (t : TA) : TE := fun σ H Q => t σ H fun xs H1 => xs.length ≤ sizeLine ∧ New H1 (.tup xs) Q
theorem pe_lstN (h : PA X es ta) : PE X (.List es pos) (nLst ta) := pe_weak (pe_lst (pa_cl h)) fun _ _ _ q => ⟨_, fun _ _ z => ⟨z.1, z.2.to⟩, q⟩
theorem pe_tupN {x1} (h : PA X es ta) : PE X (.Tuple es x1 pos) (nTup ta) := pe_weak (pe_tup (pa_cl h)) fun _ _ _ q => ⟨_, fun _ _ z => ⟨z.1, z.2.to⟩, q⟩
/-- xs + ys (lists) -/
def rCatN : R2 := fun x y H Q => ∃ p q xs ys, x = .ref p ∧ y = .ref q ∧ H p = some (.lst xs) ∧ H q = some (.lst ys) ∧ xs.length + ys.length ≤ sizeLine ∧ New H (.lst (xs ++ ys)) Q
theorem op_catN : OpR X (binaryOp .Add) rCatN := op_weak op_cat fun x y H Q ⟨p, q, xs, ys, h1, h2, h3, h4, h5, h6⟩ => ⟨p, q, xs, ys, h1, h2, h3, h4, h5, h6.to⟩
end
/-! ### data by its values -/
theorem dp_bls {K : PySem.W.Frag} {H : Hp} : ∀ bs : List Bool, DpAll K H (bs.map V.bl) (bs.map PyData.bool)
  | [] => .nil
  | b :: r => .cons (.bl b) (dp_bls r)
theorem dp_ints {K : PySem.W.Frag} {H : Hp} : ∀ ns : List Int, DpAll K H (ns.map V.int) (ns.map PyData.int)
  | [] => .nil
  | b :: r => .cons (.int b) (dp_ints r)
/-- flat data: numbers, truths, None -/
def flatD : PyData → Bool
  | .none | .bool _ | .int _ => true
  | _ => false
theorem flat_lay : ∀ ds : List PyData, ds.all flatD = true → PyData.canLayAll0 ds = true
  | [], _ => rfl
  | d :: r, h => by
    rw [List.all_cons, Bool.and_eq_true] at h
    show (PyData.canLay0 d && PyData.canLayAll0 r) = true
    rw [flat_lay r h.2, Bool.and_true]
    cases d <;> first | rfl | exact Bool.noConfusion h.1
theorem flat_depth : ∀ ds : List PyData, ds.all flatD = true → PyData.depthAll ds ≤ 1
  | [], _ => by decide
  | d :: r, h => by
    rw [List.all_cons, Bool.and_eq_true] at h
    have ih := flat_depth r h.2
    have hd : PyData.depth d ≤ 1 := by
      cases d <;> first | decide | exact Bool.noConfusion h.1 | exact Nat.zero_le _ | exact Nat.le_refl _
    show Nat.max (PyData.depth d) (PyData.depthAll r) ≤ 1
    exact Nat.max_le.mpr ⟨hd, ih⟩
theorem shaped_list {ds : List PyData} (h : ds.all flatD = true) : SeqAt.shaped (.list ds) = true := by
  have e := flat_depth ds h
  have e2 : PyData.depth (.list ds) ≤ 64 := by
    show PyData.depthAll ds + 1 ≤ 64
    omega
  show (PyData.canLayAll0 ds && decide (PyData.depth (.list ds) ≤ 64)) = true
  rw [flat_lay ds h, decide_eq_true e2]
  rfl
theorem shaped_tuple {ds : List PyData} (h : ds.all flatD = true) : SeqAt.shaped (.tuple ds) = true := by
  have e := flat_depth ds h
  have e2 : PyData.depth (.tuple ds) ≤ 64 := by
    show PyData.depthAll ds + 1 ≤ 64
    omega
  show (PyData.canLayAll0 ds && decide (PyData.depth (.tuple ds) ≤ 64)) = true
  rw [flat_lay ds h, decide_eq_true e2]
  rfl
theorem flat_bls (bs : List Bool) : (bs.map PyData.bool).all flatD = true := by
  rw [List.all_map, List.all_eq_true]
  exact fun _ _ => rfl
theorem flat_ints (ns : List Int) : (ns.map PyData.int).all flatD = true := by
  rw [List.all_map, List.all_eq_true]
  exact fun _ _ => rfl
theorem eqv_self {d : PyData} (h : SeqAt.shaped d = true) : PyData.eqv d d = true := SeqAt.eqv_refl d (SeqAt.canLay_of_shaped h)
end Nw
namespace Ev1
open PySem PySem.Spec PyProof.Rows L2 Nw
/-! ### exceptions as values -/
/-- at a an exception of the class cls, its dict d -/
def ExV (cls : Value) (d : Option Addr) (a : Addr) : HO := .ext fun h => ∃ (oe : Obj) (vs : Array Value), h.get? a = some oe ∧ Zc cls d oe ∧ oe.data = .fields vs
/-- an exception that was made of the class cls, its dict d: it stands at a place of its own -/
def Made (H1 : Hp) (cls : Value) (d : Option Addr) (Q : VK) : Prop := ∀ a H3, H1 a = none → Same H1 H3 → H3 a = some (ExV cls d a) → Q (.ref a) H3
theorem pe_made {X : Cx} {e : Expr} {t : L2.St → Hp → XK → Prop} (m : PMk X e t) : PE X e (fun σ H Q => t σ H fun cls d H1 => Made H1 cls d Q) := by
  refine ⟨fun pins s σ H Q I h => thn (m pins s σ H _ I h) fun u s1 z => ?_⟩
  obtain ⟨a, oe, vs, sI, H1, cls, d, rfl, J, k, na, ha, hz, hd, _, ha1, os, ag, _, q⟩ := z
  have new : ObjOk X.prog X.w (upd H1 a (ExV cls d a)) s1.heap a (ExV cls d a) := ⟨⟨oe, vs, ha, hz, hd⟩, ⟨oe, ha⟩, fun h1 h2 ⟨o, v, y, r⟩ i => ⟨o, v, i o y, r⟩⟩
  exact ⟨.ref a, upd H1 a (ExV cls d a), J.call' (ch := []) os (Un.laidN k na ha1) (J.hok.laidN k ha1 new) ag (fun b y => absurd y (by simp)), rfl, q a _ ha1 (same_new ha1) upd_same⟩
/-- at a an exception of the class D, with the field at = y -/
def ExF (H : Hp) (a D : Addr) (y : V) : Prop := ∃ dx, H a = some (ExV (.ref D) (some dx) a) ∧ H dx = some (.xd [(("at" : Str), y)])
/-- at a an exception of the class D -/
def ExAt (H : Hp) (a D : Addr) : Prop := H a = some (ExO (.ref D) a) ∨ ∃ y, ExF H a D y
theorem ExF.same {H H' : Hp} {a D : Addr} {y : V} (h : ExF H a D y) (s : Same H H') : ExF H' a D y := by
  obtain ⟨dx, h1, h2⟩ := h
  exact ⟨dx, s _ _ h1, s _ _ h2⟩
theorem ExAt.same {H H' : Hp} {a D : Addr} (h : ExAt H a D) (s : Same H H') : ExAt H' a D := by
  rcases h with h | ⟨y, h⟩
  · exact .inl (s _ _ h)
  · exact .inr ⟨y, h.same s⟩
theorem notCls_of {o : Obj} {vs : Array Value} (hd : o.data = .fields vs) : PySem.W.notCls o = true := by
  unfold PySem.W.notCls
  rw [hd]
section
variable {X : Cx} {pins : List (Addr × Obj)} {σ : L2.St} {H : Hp} {s : Shared} {a D : Addr} {y : V}
theorem ExF.inst (I : Inv X pins σ H s) (h : ExF H a D y) : ∃ ox od u, PySem.W.InstAt s.heap a ox D (some od) ∧ PySem.W.lookIn "at" od = some (some u) ∧ RelV y u := by
  obtain ⟨dx, h1, h2⟩ := h
  have z1 : ObjOk X.prog X.w H s.heap a (.ext fun h => ∃ (oe : Obj) (vs : Array Value), h.get? a = some oe ∧ Zc (.ref D) (some dx) oe ∧ oe.data = .fields vs) := I.hok a _ h1
  obtain ⟨⟨oe, vs, ha, ⟨hc, hd⟩, hv⟩, _⟩ := z1
  have z2 : ObjOk X.prog X.w H s.heap dx (.xd [(("at" : Str), y)]) := I.hok dx _ h2
  obtain ⟨mA, hn, hr⟩ := z2
  obtain ⟨od, ho, hl⟩ := lookIn_ns hn
  have l : List.lookup ("at" : Str) [(("at" : Str), y)] = some y := by simp [List.lookup]
  obtain ⟨u, hu, ru⟩ := RelO.some_of (v := y) (o := mA "at") (by rw [← l]; exact hr "at")
  exact ⟨oe, od, u, ⟨ha, hc, notCls_of hv, by rw [hd]; exact ho⟩, by rw [hl, hu], ru⟩
theorem ExAt.inst (I : Inv X pins σ H s) (h : ExAt H a D) : ∃ ox od, PySem.W.InstAt s.heap a ox D od := by
  rcases h with h | ⟨y, h⟩
  · obtain ⟨⟨oe, vs, ha, ⟨hc, hd⟩, hv, _⟩, _⟩ := I.hok a _ h
    exact ⟨oe, none, ⟨ha, hc, notCls_of hv, by rw [hd]; exact trivial⟩⟩
  · obtain ⟨ox, od, _, J, _⟩ := h.inst I
    exact ⟨ox, some od, J⟩
end
/-- X(e), X an own class without own __init__ -/
def tExN (C : Addr) (te : TE) : TE := fun σ H Q => te σ H fun _ H1 => ∀ a H2, H1 a = none → Same H1 H2 → H2 a = some (ExO (.ref C) a) → Q (.ref a) H2
theorem pe_excN {X : Cx} {C : Addr} {bmB : List Value} {B newId initId : String} {x : Str} {e : Expr} {te : TE} {p pos : Pos} (F : ExcBaseFacts B newId initId bmB) (q : PySem.W.excIn X.K C bmB newId = true) (gC : X.mg x = some (.ref C)) (kC : PySem.W.keepIn X.K (.ref C) = true) (hg : Gl X x)
    (he : PE X e te) (hs : starEach [e] X.env = (false, eval e X.env) :: starEach [] X.env := by rfl) (hdb : (x == ("__debug__" : Str)) = false := by decide) : PE X (.Call (.Name x p) [e] [] pos) (tExN C te) :=
  pe_weak (pe_exc1 F q gC kC hg (pe_cl he) hs hdb) fun _ _ _ h => ⟨_, fun _ _ z a na => z a _ na (same_new na) upd_same, h⟩
/-- isinstance(e, c) of an exception -/
def rIsX (K : PySem.W.Frag) : List V → Hp → VK → Prop := fun xs H Q => ∃ (a D : Addr) (c : V) (cv : Value) (b : Bool), xs = [.ref a, c] ∧ ExAt H a D ∧ ExcC K D ∧ (∀ u, RelV c u → u = cv) ∧ PySem.W.kitOne K (.ref D) cv = some b ∧ Q (.bl b) H
theorem call_isX {X : Cx} : CallR X (.builtin "isinstance") (rIsX X.K) := by
  intro pins s σ H xs us Q I r h
  obtain ⟨a, D, c, cv, b, rfl, hE, C, hcv, e, q⟩ := h
  cases r with
  | cons rx rr =>
    cases rr with
    | cons rt rr =>
      cases rr
      cases rx
      have ec := hcv _ rt
      subst ec
      obtain ⟨ox, od, J⟩ := hE.inst I
      have cl : (PySem.W.clsIn X.K D).isSome = true := by
        obtain ⟨cd, hc, _⟩ := PySem.W.any_some C.hd
        rw [hc]
        rfl
      exact PySem.W.kia_one (PySem.W.kitx_exc cl C.hg C.hk C.hs C.ha C.hn C.ht C.hm) I.kIn J e (fun z => nomatch z) fun tk => ⟨.bl b, H, I.kept (t' := tk) fun _ _ z => z, rfl, q⟩
/-- e.at of an exception -/
def tAtX (K : PySem.W.Frag) (te : TE) : TE := fun σ H Q => te σ H fun x H1 => ∃ (a D : Addr) (y : V), x = .ref a ∧ ExF H1 a D y ∧ ExcC K D ∧ PySem.W.findIn K (.ref D) "at" = some none ∧ Q y H1
theorem pe_atX {X : Cx} {e : Expr} {te : TE} {pos : Pos} (he : PE X e te) (hb : attributeBase e "at" X.env (eval e X.env) = eval e X.env := by rfl) : PE X (.Attribute e "at" pos) (tAtX X.K te) := by
  refine ⟨fun pins s σ H Q I h => attr_of hb (thn (he.run pins s σ H _ I h) fun u s1 hh => ?_)⟩
  obtain ⟨x, H1, I1, rx, a, D, y, rfl, hE, C, nf, q⟩ := hh
  cases rx
  obtain ⟨ox, od, u, J, l, ru⟩ := hE.inst I1
  exact HandSPX.exc_get I1.kIn J C.hg C.hk C.hs (PySem.W.findObj_own C.hd nf rfl l) (handed_of ru) ⟨y, H1, I1.tok _, ru, q⟩
/-- the promise of «def __init__(self, at): self.at = at» -/
def spInit (K : PySem.W.Frag) : Sp := fun vs H Q _ => ∃ (a C : Addr) (y : V), vs = [.ref a, y] ∧ OexC K C ∧ PySem.W.findIn K (.ref C) "at" = some none ∧ H a = some (exo a C none) ∧
  ∀ dx, H dx = none → dx ≠ a → Q .non (upd (upd H dx (exd dx [(("at" : Str), y)])) a (exo a C (some dx)))
theorem del_new {H1 : Hp} {a dx : Addr} {o1 o2 o3 : HO} (na : H1 a = none) (ne : dx ≠ a) : del (upd (upd (upd H1 a o1) dx o2) a o3) a = upd H1 dx o2 := by
  funext b
  by_cases hb : b = a
  · subst hb
    rw [del_same, upd_ne (Ne.symm ne), na]
  · rw [del_ne hb, upd_ne hb]
    by_cases hd : b = dx
    · subst hd
      rw [upd_same, upd_same]
    · rw [upd_ne hd, upd_ne hd, upd_ne hb]
/-- what C(y) asks, C with that __init__: the exception and its field -/
theorem made_F {K : PySem.W.Frag} {C : Addr} {y : V} {H1 : Hp} {Q : VK} (T : OexC K C) (nf : PySem.W.findIn K (.ref C) "at" = some none) (h : ∀ a H2, H1 a = none → Same H1 H2 → ExF H2 a C y → Q (.ref a) H2) :
    [y].length ≤ 1000 ∧ ∀ a, H1 a = none → spInit K (.ref a :: ([y] ++ [])) (upd H1 a (exo a C none)) (fun v H2 => v = .non ∧ ∃ (d : Addr) (fs : List (Str × V)), H2 a = some (exo a C (some d)) ∧ H2 d = some (exd d fs) ∧ H1 d = none ∧
      Made (upd (del H2 a) d (.xd fs)) (Value.ref C) (some d) Q) (fun _ _ _ => False) := by
  refine ⟨by simp, fun a na => ⟨a, C, y, rfl, T, nf, upd_same, fun dx nd ne => ?_⟩⟩
  have nd1 : H1 dx = none := by
    rw [upd_ne ne] at nd
    exact nd
  refine ⟨rfl, dx, [(("at" : Str), y)], upd_same, by rw [upd_ne ne, upd_same], nd1, ?_⟩
  rw [del_new na ne, upd_upd]
  intro b H3 nb s3 e3
  have sd : Same H1 (upd H1 dx (.xd [(("at" : Str), y)])) := same_new nd1
  exact h b H3 (sd.free nb) (sd.trans s3) ⟨dx, e3, s3 _ _ upd_same⟩
end Ev1
namespace K9
open PySem PySem.Spec PyProof.Rows L2 Nw Ev1 Dr
abbrev sLaw : Stmt := topS 15
abbrev nLaw : List Str := ["script", "feed", "text", "number", "made", "k", "one", "sorts", "others", "turn", "j"]
theorem scL : FnScope nLaw ["script"] (defScope sLaw) := ⟨rfl, rfl, rfl, by decide +kernel, rfl, by decide +kernel, by decide +kernel⟩
abbrev sIn1 : Stmt := inClass (topS 3) 0
abbrev sIn2 : Stmt := inClass (topS 8) 0
theorem scI1 : FnScope ["self", "at"] ["self", "at"] (defScope sIn1) := ⟨rfl, rfl, rfl, by decide +kernel, rfl, by decide +kernel, by decide +kernel⟩
theorem scI2 : FnScope ["self", "at"] ["self", "at"] (defScope sIn2) := ⟨rfl, rfl, rfl, by decide +kernel, rfl, by decide +kernel, by decide +kernel⟩
section
variable {P : Program} {w : World} {K : PySem.W.Frag} {mg : Str → Option Value} {base : Heap}
theorem init_reads {K : PySem.W.Frag} {vs : List V} {H : Hp} {Q : VK} {E : XK} (h : spInit K vs H Q E) : tOst K "at" (tVar 0) (tVar 1) { nx := fun _ H' => Q .non H', rt := Q } (start ["self", "at"] vs) H := by
  obtain ⟨a, C, y, rfl, T, nf, ha, q⟩ := h
  exact ⟨_, rfl, _, rfl, a, C, rfl, T, nf, .inl ⟨ha, fun dx nd ne => q dx nd ne⟩⟩
theorem ok_in1 {f : Addr} {fd : FuncData} {k : Nat} (F : Fun K "__init__" "NoLadder.__init__" sIn1 f fd) : FnOk P w K mg base CX0 (k + 1) f fd ["self", "at"] (spInit K) := by
  refine F.ok scI1 (fun vs H Q E h => ?_) (fun cdv A outer s H vs Q E hr h => ⟨_, pss_one (ps_ost (pv 0) (pv 1)), init_reads h⟩)
  obtain ⟨a, C, y, rfl, _⟩ := h
  rfl
theorem ok_in2 {f : Addr} {fd : FuncData} {k : Nat} (F : Fun K "__init__" "NoText.__init__" sIn2 f fd) : FnOk P w K mg base CX0 (k + 1) f fd ["self", "at"] (spInit K) := by
  refine F.ok scI2 (fun vs H Q E h => ?_) (fun cdv A outer s H vs Q E hr h => ⟨_, pss_one (ps_ost (pv 0) (pv 1)), init_reads h⟩)
  obtain ⟨a, C, y, rfl, _⟩ := h
  rfl
/-- the nine names -/
abbrev nm9 : List Str := ["NoCut", "NoLadder", "NoInstead", "TooGreat", "TooMany", "NoTelling", "NoText", "NoRow", "NoBack"]
abbrev veB : List Value := [.type "ValueError", .type "Exception", .type "BaseException", .type "object"]
/-- what the top has written of the classes -/
structure Txt (K : PySem.W.Frag) (mg : Str → Option Value) (cs : Nat → Addr) (S : Addr) : Prop where
  g : ∀ i x, nm9[i]? = some x → mg x = some (.ref (cs i))
  gS : mg "SpareError" = some (.ref S)
  kp : ∀ i, i < 9 → PySem.W.keepIn K (.ref (cs i)) = true
  ec : ∀ i, i < 9 → ExcC K (cs i)
  xc : ∀ i, i < 9 → i ≠ 1 → i ≠ 6 → PySem.W.excIn K (cs i) veB "ValueError.__new__" = true
  ap : ∀ i j, i < 9 → j < 9 → PySem.W.kitOne K (.ref (cs i)) (.ref (cs j)) = some (decide (j = i))
  ks : ∀ i, i < 9 → PySem.W.kitOne K (.ref (cs i)) (.ref S) = some true
  kv : ∀ i, i < 9 → PySem.W.kitOne K (.ref (cs i)) (.type "ValueError") = some true
  o1 : OexC K (cs 1)
  o6 : OexC K (cs 6)
  n1 : PySem.W.findIn K (.ref (cs 1)) "at" = some none
  n6 : PySem.W.findIn K (.ref (cs 6)) "at" = some none
  z_range : mg "range" = none
  z_isinstance : mg "isinstance" = none
  z_ValueError : mg "ValueError" = none
  z_len : mg "len" = none
  z_list : mg "list" = none
def spLaw (K : PySem.W.Frag) : Sp := fun vs H Q _ => ∃ (a : Addr) (ns : List Int), vs = [.ref a] ∧ SqL K H a (ns.map V.int) ∧ ∀ H', Q (.bl true) H'
theorem one_len (c : Nat) : (⟨#[c]⟩ : Str).length = 1 := rfl
theorem sum_ones : ∀ ys : List Str, (∀ y ∈ ys, y.length = 1) → (ys.map (·.length)).sum = ys.length
  | [], _ => rfl
  | y :: r, h => by
    rw [List.map_cons, List.sum_cons, sum_ones r fun z hz => h z (List.mem_cons_of_mem _ hz), h y List.mem_cons_self, List.length_cons]
    omega
theorem dec_nat (t i : Nat) : decide (V.int (0 + (t : Int)) = V.int (0 + (i : Int))) = decide (t = i) := by
  by_cases h : t = i
  · subst h
    rw [decide_eq_true rfl, decide_eq_true rfl]
  · rw [decide_eq_false h, decide_eq_false fun e => h (by have := V.int.inj e; omega)]
theorem abc_at {d : Int} (h0 : 0 ≤ d) (h1 : d < 6) : ∃ c, atI (Str.ofString "abcxyz").cps.toList d = some c := by
  have e : d = 0 ∨ d = 1 ∨ d = 2 ∨ d = 3 ∨ d = 4 ∨ d = 5 := by omega
  rcases e with rfl | rfl | rfl | rfl | rfl | rfl <;> exact ⟨_, rfl⟩
theorem ok_law {cs : Nat → Addr} {S f fM fD fO f1 f6 : Addr} {fd fdM fdD fdO fd1 fd6 : FuncData} (FL : Fun K "law" "law" sLaw f fd) (T : Txt K mg cs S)
    (FM : Fun K "_law_smixed" "_law_smixed" sMix fM fdM) (bM : Binds K fdM ["cell", "at"] []) (gM : mg "_law_smixed" = some (.ref fM))
    (FD : Fun K "_law_sdraw" "_law_sdraw" sDrw fD fdD) (bD : Binds K fdD ["feed", "many"] []) (gD : mg "_law_sdraw" = some (.ref fD))
    (FO : Fun K "_law_sopen" "_law_sopen" sOpn fO fdO) (bO : Binds K fdO ["script"] []) (gO : mg "_law_sopen" = some (.ref fO))
    (F1 : Fun K "__init__" "NoLadder.__init__" sIn1 f1 fd1) (b1 : Binds K fd1 ["self", "at"] []) (i1 : PySem.W.findIn K (.ref (cs 1)) "__init__" = some (some (.ref f1))) (t1 : PySem.W.typeIn K (.ref f1) = some (.type "function"))
    (F6 : Fun K "__init__" "NoText.__init__" sIn2 f6 fd6) (b6 : Binds K fd6 ["self", "at"] []) (i6 : PySem.W.findIn K (.ref (cs 6)) "__init__" = some (some (.ref f6))) (t6 : PySem.W.typeIn K (.ref f6) = some (.type "function")) :
    FnOk P w K mg base CX0 6 f fd ["script"] (spLaw K) := by
  have GD : FnOk P w K mg base CX0 2 fD fdD ["feed", "many"] spDrw := ok_drw FD FM bM gM T.z_len
  have GO : FnOk P w K mg base CX0 1 fO fdO ["script"] (spOpn K) := ok_opn FO T.z_list
  have G1 : FnOk P w K mg base CX0 1 f1 fd1 ["self", "at"] (spInit K) := ok_in1 F1
  have G6 : FnOk P w K mg base CX0 1 f6 fd6 ["self", "at"] (spInit K) := ok_in2 F6
  refine FL.ok scL (fun vs H Q E h => ?_) (fun cdv A outer s H vs Q E hr h => ?_)
  · obtain ⟨a, ns, rfl, _⟩ := h
    rfl
  · obtain ⟨a, ns, rfl, hS, q⟩ := h
    have hr1 : Room 1 _ := hr.mono (by decide)
    have hr2 : Room 2 _ := hr.mono (by decide)
    refine ⟨_, (pss_cons (ps_set (i := 1) scL.nd rfl (.inr rfl) (pe_call GO hr1 (by rfl) gO FO.kp bO .nil pass0 (pa_cons (pv 0) pa_nil)))
      (Evl.pss_cut (ps_set (i := 2) scL.nd rfl (.inl rfl) (pe_op op_add_str pe_str (pe_join pe_str (pe_lc (own := [("turn", 9)]) (g := (gName 9)) (tt := tYes) rfl scL.nd (pi_range1 (by rfl) T.z_range (pa_cons (pe_call GD hr2 (by rfl) gD FD.kp bD .nil pass0 (pa_cons (pv 1) (pa_cons pe_int pa_nil))) pa_nil)) (blkOk_by (N := nLaw) (sc := defScope sLaw) (by decide +kernel)) (fun _ _ _ _ _ => (pg_name (i := 9) scL.nd rfl (.inl rfl))) (fun _ _ _ _ _ => pts_nil) (fun _ _ _ _ _ => (pe_ix ix_str pe_str (pe_call GD hr2 (by rfl) gD FD.kp bD .nil pass0 (pa_cons (pv 1) (pa_cons pe_int pa_nil))) (fun _ _ => rfl)))))))
      (Evl.pss_cut (ps_set (i := 3) scL.nd rfl (.inl rfl) (pe_op op_sub (pe_call GD hr2 (by rfl) gD FD.kp bD .nil pass0 (pa_cons (pv 1) (pa_cons (pe_op op_pow pe_int pe_int) pa_nil))) (pe_op op_mul pe_int (pe_op op_pow pe_int pe_int))))
      (pss_cons (ps_set (i := 4) scL.nd rfl (.inl rfl) (pe_lstN (pa_cons (pe_excN F.excBase_ValueError (T.xc 0 (by decide) (by decide) (by decide)) (T.g 0 _ rfl) (T.kp 0 (by decide)) (by rfl) (pv 2)) (pa_cons (pe_made (pmk_oex T.o1 i1 t1 G1 hr2 b1 .nil pass0 (by rfl) (T.g 1 _ rfl) (pa_cons (pv 3) pa_nil))) (pa_cons (pe_excN F.excBase_ValueError (T.xc 2 (by decide) (by decide) (by decide)) (T.g 2 _ rfl) (T.kp 2 (by decide)) (by rfl) (pv 2)) pa_nil)))))
      (pss_cons (ps_set (i := 4) scL.nd rfl (.inl rfl) (pe_op op_catN (pv 4) (pe_lstN (pa_cons (pe_excN F.excBase_ValueError (T.xc 3 (by decide) (by decide) (by decide)) (T.g 3 _ rfl) (T.kp 3 (by decide)) (by rfl) (pv 2)) (pa_cons (pe_excN F.excBase_ValueError (T.xc 4 (by decide) (by decide) (by decide)) (T.g 4 _ rfl) (T.kp 4 (by decide)) (by rfl) (pv 2)) (pa_cons (pe_excN F.excBase_ValueError (T.xc 5 (by decide) (by decide) (by decide)) (T.g 5 _ rfl) (T.kp 5 (by decide)) (by rfl) (pv 2)) pa_nil))))))
      (Evl.pss_cut (ps_set (i := 4) scL.nd rfl (.inl rfl) (pe_op op_catN (pv 4) (pe_lstN (pa_cons (pe_made (pmk_oex T.o6 i6 t6 G6 hr2 b6 .nil pass0 (by rfl) (T.g 6 _ rfl) (pa_cons (pv 3) pa_nil))) (pa_cons (pe_excN F.excBase_ValueError (T.xc 7 (by decide) (by decide) (by decide)) (T.g 7 _ rfl) (T.kp 7 (by decide)) (by rfl) (pv 2)) (pa_cons (pe_excN F.excBase_ValueError (T.xc 8 (by decide) (by decide) (by decide)) (T.g 8 _ rfl) (T.kp 8 (by decide)) (by rfl) (pv 2)) pa_nil))))))
      (pss_cons (ps_for PassesOwn.never rfl (pi_range1 (by rfl) T.z_range (pa_cons pe_int pa_nil)) (pg_name (i := 5) scL.nd rfl (.inr rfl)) (pss_cons (ps_set (i := 6) scL.nd rfl (.inl rfl) (pe_ix ix_list (pv 4) (pv 5) (fun _ _ => rfl)))
      (pss_cons (ps_set (i := 7) scL.nd rfl (.inl rfl) (pe_lstN (pa_cons (pe_callB call_isX (by rfl) T.z_isinstance (by decide +kernel) (pa_cons (pv 6) (pa_cons (pe_glob (v := .ref (cs 0)) rfl (T.g 0 _ rfl) rfl) pa_nil))) (pa_cons (pe_callB call_isX (by rfl) T.z_isinstance (by decide +kernel) (pa_cons (pv 6) (pa_cons (pe_glob (v := .ref (cs 1)) rfl (T.g 1 _ rfl) rfl) pa_nil))) pa_nil))))
      (pss_cons (ps_set (i := 7) scL.nd rfl (.inl rfl) (pe_op op_catN (pv 7) (pe_lstN (pa_cons (pe_callB call_isX (by rfl) T.z_isinstance (by decide +kernel) (pa_cons (pv 6) (pa_cons (pe_glob (v := .ref (cs 2)) rfl (T.g 2 _ rfl) rfl) pa_nil))) (pa_cons (pe_callB call_isX (by rfl) T.z_isinstance (by decide +kernel) (pa_cons (pv 6) (pa_cons (pe_glob (v := .ref (cs 3)) rfl (T.g 3 _ rfl) rfl) pa_nil))) pa_nil)))))
      (pss_cons (ps_set (i := 7) scL.nd rfl (.inl rfl) (pe_op op_catN (pv 7) (pe_lstN (pa_cons (pe_callB call_isX (by rfl) T.z_isinstance (by decide +kernel) (pa_cons (pv 6) (pa_cons (pe_glob (v := .ref (cs 4)) rfl (T.g 4 _ rfl) rfl) pa_nil))) (pa_cons (pe_callB call_isX (by rfl) T.z_isinstance (by decide +kernel) (pa_cons (pv 6) (pa_cons (pe_glob (v := .ref (cs 5)) rfl (T.g 5 _ rfl) rfl) pa_nil))) pa_nil)))))
      (pss_cons (ps_set (i := 7) scL.nd rfl (.inl rfl) (pe_op op_catN (pv 7) (pe_lstN (pa_cons (pe_callB call_isX (by rfl) T.z_isinstance (by decide +kernel) (pa_cons (pv 6) (pa_cons (pe_glob (v := .ref (cs 6)) rfl (T.g 6 _ rfl) rfl) pa_nil))) (pa_cons (pe_callB call_isX (by rfl) T.z_isinstance (by decide +kernel) (pa_cons (pv 6) (pa_cons (pe_glob (v := .ref (cs 7)) rfl (T.g 7 _ rfl) rfl) pa_nil))) pa_nil)))))
      (Evl.pss_cut (ps_expr (pe_bm PySem.F.plainAttrs_list PySem.F.slot_list_append PySem.F.type_list_append mt_append (pv 7) (pa_cons (pe_callB call_isX (by rfl) T.z_isinstance (by decide +kernel) (pa_cons (pv 6) (pa_cons (pe_glob (v := .ref (cs 8)) rfl (T.g 8 _ rfl) rfl) pa_nil))) pa_nil)))
      (pss_cons (ps_if (pt_cmpR (op_neD hr.units) (pv 7) (pe_lc (own := [("j", 10)]) (g := (gName 10)) (tt := tYes) rfl scL.nd (pi_range1 (by rfl) T.z_range (pa_cons pe_int pa_nil)) (blkOk_by (N := nLaw) (sc := defScope sLaw) (by decide +kernel)) (fun _ _ _ _ _ => (pg_name (i := 10) scL.nd rfl (.inl rfl))) (fun _ _ _ _ _ => pts_nil) (fun _ _ _ _ _ => (pe_cmpR op_eq (pv 10) (pv 5) (nomark _)))) (nomark _)) pss_never pss_nil)
      (pss_one (ps_if (PW.pt (pw_or (pt_not (pt_val (pe_callB call_isX (by rfl) T.z_isinstance (by decide +kernel) (pa_cons (pv 6) (pa_cons (pe_glob (v := .ref S) rfl T.gS rfl) pa_nil))))) (pw_or1 (pt_not (pt_val (pe_callB call_isX (by rfl) T.z_isinstance (by decide +kernel) (pa_cons (pv 6) (pa_cons (pe_bltn (v := .ty "ValueError") (by rfl) T.z_ValueError PyProof.Rows.Boot.«ValueError» rfl) pa_nil)))))))) pss_never pss_nil))))))))))
      (pss_cons (ps_set (i := 8) scL.nd rfl (.inl rfl) (pe_lstN (pa_cons (pe_made (pmk_oex T.o1 i1 t1 G1 hr2 b1 .nil pass0 (by rfl) (T.g 1 _ rfl) (pa_cons (pe_op op_add (pe_op op_mul (pv 3) (pe_op op_pow pe_int pe_int)) pe_int) pa_nil))) (pa_cons (pe_made (pmk_oex T.o6 i6 t6 G6 hr2 b6 .nil pass0 (by rfl) (T.g 6 _ rfl) (pa_cons (pe_op op_add (pe_op op_mul (pv 3) (pe_op op_pow pe_int pe_int)) pe_int) pa_nil))) pa_nil))))
      (pss_cons (ps_if (pt_cmpR (op_neD hr.units) (pe_lc (te := tAtX K (tVar 6)) (own := [("one", 6)]) (g := (gName 6)) (tt := tYes) rfl scL.nd (pi_list (pv 8)) (blkOk_by (N := nLaw) (sc := defScope sLaw) (by decide +kernel)) (fun _ _ _ _ _ => (pg_name (i := 6) scL.nd rfl (.inl rfl))) (fun _ _ _ _ _ => pts_nil) (fun _ _ _ _ _ => (pe_atX (pv 6)))) (pe_lstN (pa_cons (pe_op op_add (pe_op op_mul (pv 3) (pe_op op_pow pe_int pe_int)) pe_int) (pa_cons (pe_op op_add (pe_op op_mul (pv 3) (pe_op op_pow pe_int pe_int)) pe_int) pa_nil))) (nomark _)) pss_never pss_nil)
      (pss_one (ps_ret (pe_and (pe_cmpR op_eq (pe_atX (pe_ix ix_list (pv 4) pe_int (fun _ _ => rfl))) (pv 3) (nomark _)) (pe_one (pe_cmpR op_eq (pe_atX (pe_ix ix_list (pv 4) pe_int (fun _ _ => rfl))) (pv 3) (nomark _))))))))))))))), ?_⟩
    refine ⟨.ref a, rfl, a, ns, rfl, hS, fun fe c H1 nf nc s1 F1 => ?_⟩
    -- text
    refine Evl.q_cut (M := fun σ' H' => ∃ z : Str, σ' = [some (.ref a), some (.ref fe), some (.str z), none, none, none, none, none, none, none, none] ∧ Feed H' fe c 10) ?_ ?_
    · refine ⟨⟨_, rfl⟩, _, rfl, fe, c, 9, 0, rfl, by decide, by decide, F1, by decide, fun n H2 n0 n1 F2 b2 => ?_⟩
      refine ⟨n, rfl, by omega, by omega, fun D nD => ?_⟩
      have nDf : D ≠ fe := F2.nf nD
      have nDc : D ≠ c := F2.nc nD
      refine lc_range (Pv := fun i H' => Feed H' fe c (1 + i) ∧ ∃ ys : List Str, H' D = some (.lst (ys.map V.str)) ∧ ys.length = i ∧ ∀ y ∈ ys, y.length = 1) ?_ ?_ ?_
      · exact ⟨F2.same (Dr.same_upd nD), [], upd_same, rfl, fun y hy => nomatch hy⟩
      · rintro i H' hi ⟨F3, ys, hD, ly, sy⟩
        refine ⟨rfl, ?_⟩
        refine ⟨_, rfl, fe, c, 6, 1 + i, rfl, by decide, by decide, F3, by omega, fun d H4 d0 d1 F4 b4 => ?_⟩
        obtain ⟨ch, hc⟩ := abc_at d0 d1
        refine ⟨_, _, ch, rfl, rfl, by decide, hc, ?_⟩
        have hD4 : H4 D = some (.lst (ys.map V.str)) := (b4 D nDf).trans hD
        refine ⟨_, hD4, by rw [List.length_map]; exact small1000 (by omega), ?_⟩
        refine ⟨(F4.upd nDf nDc).mono (by omega), ys ++ [⟨#[ch]⟩], ?_, ?_, ?_⟩
        · rw [upd_same, List.map_append]
          rfl
        · rw [List.length_append, ly]
          rfl
        · intro y hy
          rcases List.mem_append.mp hy with hy | hy
          · exact sy y hy
          · rw [List.mem_singleton.mp hy]
            rfl
      · rintro H' ⟨F3, ys, hD, ly, sy⟩
        refine ⟨_, D, ys, rfl, rfl, .inl (.of hD), ?_, _, _, rfl, rfl, ?_, ?_⟩
        · rw [sum_ones ys sy]
          show ys.length + ys.length * 0 ≤ 16777216
          omega
        · rw [PySem.W.KT.join_ones ys sy]
          show 1 + ys.length ≤ sizeLine
          exact Nat.le_trans (by omega : 1 + ys.length ≤ 1000) (by decide)
        · exact ⟨_, rfl, F3.mono (by omega)⟩
    -- number
    rintro σ' H2 ⟨z, rfl, F2⟩
    refine Evl.q_cut (M := fun σ' H' => ∃ m : Int, σ' = [some (.ref a), some (.ref fe), some (.str z), some (.int m), none, none, none, none, none, none, none] ∧ -(500000) ≤ m ∧ m < 500000) ?_ ?_
    · refine ⟨_, rfl, _, _, rfl, rfl, ⟨by decide, by decide, by decide⟩, fe, c, _, 10, rfl, by decide, by decide, F2, by decide, fun d H3 d0 d1 F3 b3 => ?_⟩
      refine ⟨_, _, rfl, rfl, ⟨by decide, by decide, by decide⟩, _, _, rfl, rfl, .inl ⟨by decide, by decide⟩, _, _, rfl, rfl, ?_⟩
      have d1' : d < 1000000 := d1
      refine ⟨d - 500000, rfl, by omega, by omega⟩
    rintro σ' H3 ⟨m, rfl, m0, m1⟩
    -- made
    refine ⟨_, rfl, fun a0 H4 n0 s4 e0 => ?_⟩
    refine ⟨_, rfl, made_F T.o1 T.n1 fun a1 H5 n1 s5 e1 => ?_⟩
    refine ⟨_, rfl, fun a2 H6 n2 s6 e2 => ?_⟩
    refine ⟨by show 3 ≤ sizeLine; decide, fun p1 H7 np1 s7 l1 _ => ?_⟩
    refine ⟨_, rfl, _, rfl, fun a3 H8 n3 s8 e3 => ?_⟩
    refine ⟨_, rfl, fun a4 H9 n4 s9 e4 => ?_⟩
    refine ⟨_, rfl, fun a5 H10 n5 s10 e5 => ?_⟩
    refine ⟨by show 3 ≤ sizeLine; decide, fun p2 H11 np2 s11 l2 _ => ?_⟩
    refine ⟨p1, p2, _, _, rfl, rfl, s11 _ _ (s10 _ _ (s9 _ _ (s8 _ _ l1))), l2, by show 6 ≤ sizeLine; decide, fun p3 H12 np3 s12 l3 _ => ?_⟩
    refine Evl.q_cut (M := fun σ' H' => ∃ (as : Nat → Addr) (M : Addr), σ' = [some (.ref a), some (.ref fe), some (.str z), some (.int m), some (.ref M), none, none, none, none, none, none] ∧ H' M = some (.lst ((List.range 9).map fun i => V.ref (as i))) ∧
      (∀ i, i < 9 → ExAt H' (as i) (cs i)) ∧ ExF H' (as 1) (cs 1) (.int m) ∧ ExF H' (as 6) (cs 6) (.int m)) ?_ ?_
    · refine ⟨_, rfl, _, rfl, made_F T.o6 T.n6 fun a6 H13 n6 s13 e6 => ?_⟩
      refine ⟨_, rfl, fun a7 H14 n7 s14 e7 => ?_⟩
      refine ⟨_, rfl, fun a8 H15 n8 s15 e8 => ?_⟩
      refine ⟨by show 3 ≤ sizeLine; decide, fun p4 H16 np4 s16 l4 _ => ?_⟩
      refine ⟨p3, p4, _, _, rfl, rfl, s16 _ _ (s15 _ _ (s14 _ _ (s13 _ _ l3))), l4, by show 9 ≤ sizeLine; decide, fun p5 H17 np5 s17 l5 _ => ?_⟩
      have t16 := s16.trans s17
      have t15 := s15.trans t16
      have t14 := s14.trans t15
      have t13 := s13.trans t14
      have t12 := s12.trans t13
      have t11 := s11.trans t12
      have t10 := s10.trans t11
      have t9 := s9.trans t10
      have t8 := s8.trans t9
      have t7 := s7.trans t8
      have t6' := s6.trans t7
      have t5 := s5.trans t6'
      have f1' : ExF H17 a1 (cs 1) (.int m) := e1.same t6'
      have f6' : ExF H17 a6 (cs 6) (.int m) := e6.same t14
      refine ⟨fun i => [a0, a1, a2, a3, a4, a5, a6, a7, a8].getD i 0, p5, rfl, l5, fun i hi => ?_, f1', f6'⟩
      match i, hi with
      | 0, _ => exact .inl (t5 _ _ e0)
      | 1, _ => exact .inr ⟨_, f1'⟩
      | 2, _ => exact .inl (t7 _ _ e2)
      | 3, _ => exact .inl (t9 _ _ e3)
      | 4, _ => exact .inl (t10 _ _ e4)
      | 5, _ => exact .inl (t11 _ _ e5)
      | 6, _ => exact .inr ⟨_, f6'⟩
      | 7, _ => exact .inl (t15 _ _ e7)
      | 8, _ => exact .inl (t16 _ _ e8)
    rintro σ' Hm ⟨as, M, rfl, hM, hE, g1, g6⟩
    -- the loop
    refine ⟨9, rfl, by decide, by decide, for_range (Pv := fun i σ H' => ∃ y5 y6 y7, σ = [some (.ref a), some (.ref fe), some (.str z), some (.int m), some (.ref M), y5, y6, y7, none, none, none] ∧ Same Hm H') ?_ ?_ ?_⟩
    · exact ⟨none, none, none, rfl, Same.refl _⟩
    · rintro i σ H' hi ⟨y5, y6, y7, rfl, sm⟩
      have hi : i < 9 := hi
      refine ⟨_, rfl, _, rfl, M, _, _, .ref (as i), rfl, rfl, .of (sm _ _ hM), at_of (j := i) (by omega) (by rw [List.getElem?_map, List.getElem?_range hi]; rfl), ?_⟩
      refine ⟨_, rfl, as i, cs i, .ref (cs 0), .ref (cs 0), decide (0 = i), rfl, (hE i hi).same sm, T.ec i hi, fun u r => r, T.ap i 0 hi (by decide), ?_⟩
      refine ⟨_, rfl, as i, cs i, .ref (cs 1), .ref (cs 1), decide (1 = i), rfl, (hE i hi).same sm, T.ec i hi, fun u r => r, T.ap i 1 hi (by decide), ?_⟩
      refine ⟨by show 2 ≤ sizeLine; decide, fun q1 J1 nq1 u1 k1 _ => ?_⟩
      have v1 := sm.trans u1
      refine ⟨_, rfl, _, rfl, as i, cs i, .ref (cs 2), .ref (cs 2), decide (2 = i), rfl, (hE i hi).same v1, T.ec i hi, fun u r => r, T.ap i 2 hi (by decide), ?_⟩
      refine ⟨_, rfl, as i, cs i, .ref (cs 3), .ref (cs 3), decide (3 = i), rfl, (hE i hi).same v1, T.ec i hi, fun u r => r, T.ap i 3 hi (by decide), ?_⟩
      refine ⟨by show 2 ≤ sizeLine; decide, fun q2 J2 nq2 u2 k2 _ => ?_⟩
      refine ⟨q1, q2, _, _, rfl, rfl, u2 _ _ k1, k2, by show 4 ≤ sizeLine; decide, fun q3 J3 nq3 u3 k3 _ => ?_⟩
      have v3 := v1.trans (u2.trans u3)
      refine ⟨_, rfl, _, rfl, as i, cs i, .ref (cs 4), .ref (cs 4), decide (4 = i), rfl, (hE i hi).same v3, T.ec i hi, fun u r => r, T.ap i 4 hi (by decide), ?_⟩
      refine ⟨_, rfl, as i, cs i, .ref (cs 5), .ref (cs 5), decide (5 = i), rfl, (hE i hi).same v3, T.ec i hi, fun u r => r, T.ap i 5 hi (by decide), ?_⟩
      refine ⟨by show 2 ≤ sizeLine; decide, fun q4 J4 nq4 u4 k4 _ => ?_⟩
      refine ⟨q3, q4, _, _, rfl, rfl, u4 _ _ k3, k4, by show 6 ≤ sizeLine; decide, fun q5 J5 nq5 u5 k5 _ => ?_⟩
      have v5 := v3.trans (u4.trans u5)
      refine ⟨_, rfl, _, rfl, as i, cs i, .ref (cs 6), .ref (cs 6), decide (6 = i), rfl, (hE i hi).same v5, T.ec i hi, fun u r => r, T.ap i 6 hi (by decide), ?_⟩
      refine ⟨_, rfl, as i, cs i, .ref (cs 7), .ref (cs 7), decide (7 = i), rfl, (hE i hi).same v5, T.ec i hi, fun u r => r, T.ap i 7 hi (by decide), ?_⟩
      refine ⟨by show 2 ≤ sizeLine; decide, fun q6 J6 nq6 u6 k6 _ => ?_⟩
      refine ⟨q5, q6, _, _, rfl, rfl, u6 _ _ k5, k6, by show 8 ≤ sizeLine; decide, fun q7 J7 nq7 u7 k7 _ => ?_⟩
      have v6 := v5.trans u6
      have v7 := v6.trans u7
      have nq7m : Hm q7 = none := v6.free nq7
      refine Evl.q_cut (M := fun σ' H2 => σ' = [some (.ref a), some (.ref fe), some (.str z), some (.int m), some (.ref M), some (.int (0 + (i : Int))), some (.ref (as i)), some (.ref q7), none, none, none] ∧ Same Hm H2 ∧ H2 q7 = some (.lst (((List.range 9).map fun j => decide (j = i)).map V.bl))) ?_ ?_
      · refine ⟨_, rfl, .inl ⟨rfl, _, .of k7⟩, _, rfl, as i, cs i, .ref (cs 8), .ref (cs 8), decide (8 = i), rfl, (hE i hi).same v7, T.ec i hi, fun u r => r, T.ap i 8 hi (by decide), ?_⟩
        refine ⟨q7, _, _, rfl, rfl, k7, by show 8 < sizeLine; decide, rfl, fun b o e => ?_, upd_same⟩
        rw [upd_ne (ne_of_none e nq7m)]
        exact v7 _ _ e
      rintro σ' J8 ⟨rfl, v8, k8⟩
      -- sorts != ..
      refine ⟨_, rfl, 9, rfl, by decide, by decide, fun D nD => ?_⟩
      refine lc_range (Pv := fun t H2 => Same J8 H2 ∧ H2 D = some (.lst (((List.range t).map fun j => decide (j = i)).map V.bl))) ?_ ?_ ?_
      · exact ⟨same_new nD, upd_same⟩
      · rintro t H2 ht ⟨s2, hD⟩
        have ht : t < 9 := ht
        refine ⟨rfl, _, rfl, _, rfl, rfl, _, hD, ?_, fun b o e => ?_, ?_⟩
        · rw [List.length_map, List.length_map, List.length_range]
          exact small1000 (by omega)
        · rw [upd_ne (ne_of_none e nD)]
          exact s2 _ _ e
        · rw [upd_same, List.range_succ, List.map_append, List.map_append, dec_nat]
          rfl
      · rintro H2 ⟨s2, hD⟩
        have s82 := v8.trans s2
        refine ⟨_, _, .lst (.of (s2 _ _ k8)) (dp_bls _), .lst (.of hD) (dp_bls _), shaped_list (flat_bls _), shaped_list (flat_bls _), false, congrArg (fun b => V.bl (!b)) (eqv_self (shaped_list (flat_bls ((List.range 9).map fun j => decide (j = i))))), ?_⟩
        -- isinstance(one, SpareError), isinstance(one, ValueError)
        refine ⟨_, rfl, as i, cs i, .ref S, .ref S, true, rfl, (hE i hi).same s82, T.ec i hi, fun u r => r, T.ks i hi, _, rfl, ?_⟩
        refine ⟨_, rfl, as i, cs i, .ty "ValueError", .type "ValueError", true, rfl, (hE i hi).same s82, T.ec i hi, fun u r => r, T.kv i hi, _, rfl, ?_⟩
        exact ⟨_, _, _, rfl, s82⟩
    · rintro σ H' ⟨y5, y6, y7, rfl, sm⟩
      -- others
      refine ⟨_, rfl, _, _, rfl, rfl, ⟨by decide, by decide, by decide⟩, _, _, rfl, rfl, .inl ⟨by omega, by omega⟩, _, _, rfl, rfl, made_F T.o1 T.n1 fun b1 J1 nb1 u1 x1 => ?_⟩
      refine ⟨_, rfl, _, _, rfl, rfl, ⟨by decide, by decide, by decide⟩, _, _, rfl, rfl, .inl ⟨by omega, by omega⟩, _, _, rfl, rfl, made_F T.o6 T.n6 fun b2 J2 nb2 u2 x2 => ?_⟩
      refine ⟨by show 2 ≤ sizeLine; decide, fun O J3 nO u3 kO _ => ?_⟩
      have w1 : ExF J3 b1 (cs 1) (.int (m * 10 ^ 30 + 1)) := x1.same (u2.trans u3)
      have w2 : ExF J3 b2 (cs 6) (.int (m * 10 ^ 30 + 2)) := x2.same u3
      have sm3 : Same Hm J3 := sm.trans (u1.trans (u2.trans u3))
      generalize hv1 : m * 10 ^ 30 + 1 = v1 at w1
      generalize hv2 : m * 10 ^ 30 + 2 = v2 at w2
      refine ⟨_, rfl, O, rfl, ⟨_, .of kO⟩, fun D nD => ?_⟩
      refine lc_list (xs := [.ref b1, .ref b2]) (Pv := fun t H2 => Same J3 H2 ∧ H2 D = some (.lst (([v1, v2].take t).map V.int))) ?_ ?_ ?_ ?_
      · exact ⟨same_new nD, upd_same⟩
      · exact fun t H2 _ p => .of (p.1 _ _ kO)
      · rintro t x H2 hx ⟨s2, hD⟩
        match t, hx with
        | 0, hx =>
          cases hx
          refine ⟨rfl, _, rfl, b1, cs 1, .int v1, rfl, w1.same s2, T.ec 1 (by decide), T.n1, _, hD, by show 0 < sizeLine; decide, fun b o e => ?_, upd_same⟩
          rw [upd_ne (ne_of_none e nD)]
          exact s2 _ _ e
        | 1, hx =>
          cases hx
          refine ⟨rfl, _, rfl, b2, cs 6, .int v2, rfl, w2.same s2, T.ec 6 (by decide), T.n6, _, hD, by show 1 < sizeLine; decide, fun b o e => ?_, upd_same⟩
          rw [upd_ne (ne_of_none e nD)]
          exact s2 _ _ e
      · rintro H2 ⟨s2, hD⟩
        refine ⟨_, rfl, _, _, rfl, rfl, ⟨by decide, by decide, by decide⟩, _, _, rfl, rfl, .inl ⟨by omega, by omega⟩, _, _, rfl, rfl, ?_⟩
        refine ⟨_, rfl, _, _, rfl, rfl, ⟨by decide, by decide, by decide⟩, _, _, rfl, rfl, .inl ⟨by omega, by omega⟩, _, _, rfl, rfl, ?_⟩
        refine ⟨by show 2 ≤ sizeLine; decide, fun p J4 np u4 kp _ => ?_⟩
        have kp' : J4 p = some (.lst ([v1, v2].map V.int)) := by
          rw [← hv1, ← hv2]
          exact kp
        have sm4 : Same Hm J4 := sm3.trans (s2.trans u4)
        refine ⟨_, _, .lst (.of (u4 _ _ hD)) (dp_ints _), .lst (.of kp') (dp_ints _), shaped_list (flat_ints _), shaped_list (flat_ints _), false, congrArg (fun b => V.bl (!b)) (eqv_self (shaped_list (flat_ints [v1, v2]))), ?_⟩
        -- made[1].at == number and made[6].at == number
        refine ⟨_, rfl, M, _, 1, .ref (as 1), rfl, rfl, .of (sm4 _ _ hM), rfl, as 1, cs 1, .int m, rfl, g1.same sm4, T.ec 1 (by decide), T.n1, _, rfl, rfl, _, rfl, ?_⟩
        rw [decide_eq_true rfl]
        refine ⟨_, rfl, M, _, 6, .ref (as 6), rfl, rfl, .of (sm4 _ _ hM), rfl, as 6, cs 6, .int m, rfl, g6.same sm4, T.ec 6 (by decide), T.n6, _, rfl, rfl, ?_⟩
        rw [decide_eq_true rfl]
        exact q _
end
end K9
namespace K9
open PySem PySem.Spec PyProof.Rows L2 Nw Ev1 Dr
theorem cls_s {K : PySem.W.Frag} {C : Addr} (h : PySem.W.isClsIn K C = true) : (PySem.W.clsIn K C).isSome = true := h
theorem kit_cls {K : PySem.W.Frag} {t : Value} {D : Addr} {b : Bool} (h1 : (PySem.W.clsIn K D).isSome = true) (h2 : PySem.W.typeIn K (.ref D) = some (.type "type")) (h : PySem.W.subIn K t (.ref D) = some b) : PySem.W.kitCls K t (.ref D) = some b := by
  have e : ((PySem.W.clsIn K D).isSome && PySem.W.typeIn K (.ref D) == some (.type "type")) = true := by
    rw [h1, h2]
    rfl
  show (if ((PySem.W.clsIn K D).isSome && PySem.W.typeIn K (.ref D) == some (.type "type")) = true then PySem.W.subIn K t (.ref D) else none) = some b
  rw [if_pos e, h]
theorem kit_t {K : PySem.W.Frag} {t : Value} {D : Addr} (h1 : (PySem.W.clsIn K D).isSome = true) (h2 : PySem.W.typeIn K (.ref D) = some (.type "type")) (h : PySem.W.subIn K t (.ref D) = some true) : PySem.W.kitOne K t (.ref D) = some true := by
  unfold PySem.W.kitOne
  split
  · rfl
  · exact kit_cls h1 h2 h
theorem kit_f {K : PySem.W.Frag} {C D : Addr} (h1 : (PySem.W.clsIn K D).isSome = true) (h2 : PySem.W.typeIn K (.ref D) = some (.type "type")) (h : PySem.W.subIn K (.ref C) (.ref D) = some false) (hs : PySem.W.subIn K (.ref C) (.ref C) = some true) : PySem.W.kitOne K (.ref C) (.ref D) = some false := by
  unfold PySem.W.kitOne
  split
  · rename_i e
    have z : C = D := Value.ref.inj (beq_iff_eq.mp e)
    subst z
    rw [h] at hs
    cases hs
  · exact kit_cls h1 h2 h
theorem kit_v {K : PySem.W.Frag} {C : Addr} (h : PySem.W.subIn K (.ref C) (.type "ValueError") = some true) : PySem.W.kitOne K (.ref C) (.type "ValueError") = some true := by
  unfold PySem.W.kitOne
  split
  · rfl
  · show (if PySem.W.kitMeta "ValueError" = true then PySem.W.subIn K (.ref C) (.type "ValueError") else none) = some true
    rw [if_pos (by decide +kernel), h]
theorem all_mk {l : PySem.W.OpenLaw} {w : World} {K : PySem.W.Frag} {h : Heap} {mg : Str → Option Value} {fa : Addr} (X : K.In h) (G : h.Ns mainGlobals mg) (hfa : mg "law" = some (.ref fa)) {S c0 c1 c2 c3 c4 c5 c6 c7 c8 g1 g6 fM fD fO fL : Addr}
    {nm1 q1 : Str} {N1 : Addr} {bs1 bm1 : List Value} {sn1 : List Str} {sub1 : List Value} {ab1 : Bool} {col1 : Option Bool} {dd1 : Option Addr} {m01 m11 m21 m31 m51 : Option Value} {nm6 q6 : Str} {N6 : Addr} {bs6 bm6 : List Value} {sn6 : List Str} {sub6 : List Value} {ab6 : Bool} {col6 : Option Bool} {dd6 : Option Addr} {m06 m16 m26 m36 m56 : Option Value} {od_g1 an_g1 : Option Addr} {sl_g1 : Array (Option Value)} {oc_g1 kV_g1 dc_g1 pm_g1 cd_g1 ct_g1 : Value} {od_g6 an_g6 : Option Addr} {sl_g6 : Array (Option Value)} {oc_g6 kV_g6 dc_g6 pm_g6 cd_g6 ct_g6 : Value} {od_fM an_fM : Option Addr} {sl_fM : Array (Option Value)} {oc_fM kV_fM dc_fM pm_fM cd_fM ct_fM : Value} {od_fD an_fD : Option Addr} {sl_fD : Array (Option Value)} {oc_fD kV_fD dc_fD pm_fD cd_fD ct_fD : Value} {od_fO an_fO : Option Addr} {sl_fO : Array (Option Value)} {oc_fO kV_fO dc_fO pm_fO cd_fO ct_fO : Value} {od_fL an_fL : Option Addr} {sl_fL : Array (Option Value)} {oc_fL kV_fL dc_fL pm_fL cd_fL ct_fL : Value}
    (aS : PySem.W.nsIn K mainGlobals "SpareError" = some (some (.ref S)))
    (hn : PySem.W.specialIn K (.builtin "object.__class__") "__get__" = some (some (.builtin "getset_descriptor.__get__")))
    (ht : PySem.W.takesIn K (.builtin "object.__class__") = some true)
    (lS : PySem.W.isClsIn K S = true)
    (tS : PySem.W.typeIn K (.ref S) = some (.type "type"))
    (a0 : PySem.W.nsIn K mainGlobals "NoCut" = some (some (.ref c0)))
    (kp0 : PySem.W.keepIn K (.ref c0) = true)
    (hg0 : PySem.W.findIn K (.ref c0) "__getattribute__" = some (some (.builtin "BaseException.__getattribute__")))
    (hk0 : PySem.W.findIn K (.ref c0) "__getattr__" = some none)
    (hs0 : PySem.W.subIn K (.ref c0) (.type "BaseException") = some true)
    (hd0 : PySem.W.hasDictIn K c0 = true)
    (ha0 : PySem.W.findIn K (.ref c0) "__class__" = some (some (.builtin "object.__class__")))
    (hm0 : PySem.W.mroIn K c0 (.type "object") = some true)
    (lc0 : PySem.W.isClsIn K c0 = true)
    (ty0 : PySem.W.typeIn K (.ref c0) = some (.type "type"))
    (ss0 : PySem.W.subIn K (.ref c0) (.ref S) = some true)
    (sv0 : PySem.W.subIn K (.ref c0) (.type "ValueError") = some true)
    (xc0 : PySem.W.excIn K c0 veB "ValueError.__new__" = true)
    (a1 : PySem.W.nsIn K mainGlobals "NoLadder" = some (some (.ref c1)))
    (kp1 : PySem.W.keepIn K (.ref c1) = true)
    (hg1 : PySem.W.findIn K (.ref c1) "__getattribute__" = some (some (.builtin "BaseException.__getattribute__")))
    (hk1 : PySem.W.findIn K (.ref c1) "__getattr__" = some none)
    (hs1 : PySem.W.subIn K (.ref c1) (.type "BaseException") = some true)
    (hd1 : PySem.W.hasDictIn K c1 = true)
    (ha1 : PySem.W.findIn K (.ref c1) "__class__" = some (some (.builtin "object.__class__")))
    (hm1 : PySem.W.mroIn K c1 (.type "object") = some true)
    (lc1 : PySem.W.isClsIn K c1 = true)
    (ty1 : PySem.W.typeIn K (.ref c1) = some (.type "type"))
    (ss1 : PySem.W.subIn K (.ref c1) (.ref S) = some true)
    (sv1 : PySem.W.subIn K (.ref c1) (.type "ValueError") = some true)
    (a2 : PySem.W.nsIn K mainGlobals "NoInstead" = some (some (.ref c2)))
    (kp2 : PySem.W.keepIn K (.ref c2) = true)
    (hg2 : PySem.W.findIn K (.ref c2) "__getattribute__" = some (some (.builtin "BaseException.__getattribute__")))
    (hk2 : PySem.W.findIn K (.ref c2) "__getattr__" = some none)
    (hs2 : PySem.W.subIn K (.ref c2) (.type "BaseException") = some true)
    (hd2 : PySem.W.hasDictIn K c2 = true)
    (ha2 : PySem.W.findIn K (.ref c2) "__class__" = some (some (.builtin "object.__class__")))
    (hm2 : PySem.W.mroIn K c2 (.type "object") = some true)
    (lc2 : PySem.W.isClsIn K c2 = true)
    (ty2 : PySem.W.typeIn K (.ref c2) = some (.type "type"))
    (ss2 : PySem.W.subIn K (.ref c2) (.ref S) = some true)
    (sv2 : PySem.W.subIn K (.ref c2) (.type "ValueError") = some true)
    (xc2 : PySem.W.excIn K c2 veB "ValueError.__new__" = true)
    (a3 : PySem.W.nsIn K mainGlobals "TooGreat" = some (some (.ref c3)))
    (kp3 : PySem.W.keepIn K (.ref c3) = true)
    (hg3 : PySem.W.findIn K (.ref c3) "__getattribute__" = some (some (.builtin "BaseException.__getattribute__")))
    (hk3 : PySem.W.findIn K (.ref c3) "__getattr__" = some none)
    (hs3 : PySem.W.subIn K (.ref c3) (.type "BaseException") = some true)
    (hd3 : PySem.W.hasDictIn K c3 = true)
    (ha3 : PySem.W.findIn K (.ref c3) "__class__" = some (some (.builtin "object.__class__")))
    (hm3 : PySem.W.mroIn K c3 (.type "object") = some true)
    (lc3 : PySem.W.isClsIn K c3 = true)
    (ty3 : PySem.W.typeIn K (.ref c3) = some (.type "type"))
    (ss3 : PySem.W.subIn K (.ref c3) (.ref S) = some true)
    (sv3 : PySem.W.subIn K (.ref c3) (.type "ValueError") = some true)
    (xc3 : PySem.W.excIn K c3 veB "ValueError.__new__" = true)
    (a4 : PySem.W.nsIn K mainGlobals "TooMany" = some (some (.ref c4)))
    (kp4 : PySem.W.keepIn K (.ref c4) = true)
    (hg4 : PySem.W.findIn K (.ref c4) "__getattribute__" = some (some (.builtin "BaseException.__getattribute__")))
    (hk4 : PySem.W.findIn K (.ref c4) "__getattr__" = some none)
    (hs4 : PySem.W.subIn K (.ref c4) (.type "BaseException") = some true)
    (hd4 : PySem.W.hasDictIn K c4 = true)
    (ha4 : PySem.W.findIn K (.ref c4) "__class__" = some (some (.builtin "object.__class__")))
    (hm4 : PySem.W.mroIn K c4 (.type "object") = some true)
    (lc4 : PySem.W.isClsIn K c4 = true)
    (ty4 : PySem.W.typeIn K (.ref c4) = some (.type "type"))
    (ss4 : PySem.W.subIn K (.ref c4) (.ref S) = some true)
    (sv4 : PySem.W.subIn K (.ref c4) (.type "ValueError") = some true)
    (xc4 : PySem.W.excIn K c4 veB "ValueError.__new__" = true)
    (a5 : PySem.W.nsIn K mainGlobals "NoTelling" = some (some (.ref c5)))
    (kp5 : PySem.W.keepIn K (.ref c5) = true)
    (hg5 : PySem.W.findIn K (.ref c5) "__getattribute__" = some (some (.builtin "BaseException.__getattribute__")))
    (hk5 : PySem.W.findIn K (.ref c5) "__getattr__" = some none)
    (hs5 : PySem.W.subIn K (.ref c5) (.type "BaseException") = some true)
    (hd5 : PySem.W.hasDictIn K c5 = true)
    (ha5 : PySem.W.findIn K (.ref c5) "__class__" = some (some (.builtin "object.__class__")))
    (hm5 : PySem.W.mroIn K c5 (.type "object") = some true)
    (lc5 : PySem.W.isClsIn K c5 = true)
    (ty5 : PySem.W.typeIn K (.ref c5) = some (.type "type"))
    (ss5 : PySem.W.subIn K (.ref c5) (.ref S) = some true)
    (sv5 : PySem.W.subIn K (.ref c5) (.type "ValueError") = some true)
    (xc5 : PySem.W.excIn K c5 veB "ValueError.__new__" = true)
    (a6 : PySem.W.nsIn K mainGlobals "NoText" = some (some (.ref c6)))
    (kp6 : PySem.W.keepIn K (.ref c6) = true)
    (hg6 : PySem.W.findIn K (.ref c6) "__getattribute__" = some (some (.builtin "BaseException.__getattribute__")))
    (hk6 : PySem.W.findIn K (.ref c6) "__getattr__" = some none)
    (hs6 : PySem.W.subIn K (.ref c6) (.type "BaseException") = some true)
    (hd6 : PySem.W.hasDictIn K c6 = true)
    (ha6 : PySem.W.findIn K (.ref c6) "__class__" = some (some (.builtin "object.__class__")))
    (hm6 : PySem.W.mroIn K c6 (.type "object") = some true)
    (lc6 : PySem.W.isClsIn K c6 = true)
    (ty6 : PySem.W.typeIn K (.ref c6) = some (.type "type"))
    (ss6 : PySem.W.subIn K (.ref c6) (.ref S) = some true)
    (sv6 : PySem.W.subIn K (.ref c6) (.type "ValueError") = some true)
    (a7 : PySem.W.nsIn K mainGlobals "NoRow" = some (some (.ref c7)))
    (kp7 : PySem.W.keepIn K (.ref c7) = true)
    (hg7 : PySem.W.findIn K (.ref c7) "__getattribute__" = some (some (.builtin "BaseException.__getattribute__")))
    (hk7 : PySem.W.findIn K (.ref c7) "__getattr__" = some none)
    (hs7 : PySem.W.subIn K (.ref c7) (.type "BaseException") = some true)
    (hd7 : PySem.W.hasDictIn K c7 = true)
    (ha7 : PySem.W.findIn K (.ref c7) "__class__" = some (some (.builtin "object.__class__")))
    (hm7 : PySem.W.mroIn K c7 (.type "object") = some true)
    (lc7 : PySem.W.isClsIn K c7 = true)
    (ty7 : PySem.W.typeIn K (.ref c7) = some (.type "type"))
    (ss7 : PySem.W.subIn K (.ref c7) (.ref S) = some true)
    (sv7 : PySem.W.subIn K (.ref c7) (.type "ValueError") = some true)
    (xc7 : PySem.W.excIn K c7 veB "ValueError.__new__" = true)
    (a8 : PySem.W.nsIn K mainGlobals "NoBack" = some (some (.ref c8)))
    (kp8 : PySem.W.keepIn K (.ref c8) = true)
    (hg8 : PySem.W.findIn K (.ref c8) "__getattribute__" = some (some (.builtin "BaseException.__getattribute__")))
    (hk8 : PySem.W.findIn K (.ref c8) "__getattr__" = some none)
    (hs8 : PySem.W.subIn K (.ref c8) (.type "BaseException") = some true)
    (hd8 : PySem.W.hasDictIn K c8 = true)
    (ha8 : PySem.W.findIn K (.ref c8) "__class__" = some (some (.builtin "object.__class__")))
    (hm8 : PySem.W.mroIn K c8 (.type "object") = some true)
    (lc8 : PySem.W.isClsIn K c8 = true)
    (ty8 : PySem.W.typeIn K (.ref c8) = some (.type "type"))
    (ss8 : PySem.W.subIn K (.ref c8) (.ref S) = some true)
    (sv8 : PySem.W.subIn K (.ref c8) (.type "ValueError") = some true)
    (xc8 : PySem.W.excIn K c8 veB "ValueError.__new__" = true)
    (s00 : PySem.W.subIn K (.ref c0) (.ref c0) = some true)
    (s01 : PySem.W.subIn K (.ref c0) (.ref c1) = some false)
    (s02 : PySem.W.subIn K (.ref c0) (.ref c2) = some false)
    (s03 : PySem.W.subIn K (.ref c0) (.ref c3) = some false)
    (s04 : PySem.W.subIn K (.ref c0) (.ref c4) = some false)
    (s05 : PySem.W.subIn K (.ref c0) (.ref c5) = some false)
    (s06 : PySem.W.subIn K (.ref c0) (.ref c6) = some false)
    (s07 : PySem.W.subIn K (.ref c0) (.ref c7) = some false)
    (s08 : PySem.W.subIn K (.ref c0) (.ref c8) = some false)
    (s10 : PySem.W.subIn K (.ref c1) (.ref c0) = some false)
    (s11 : PySem.W.subIn K (.ref c1) (.ref c1) = some true)
    (s12 : PySem.W.subIn K (.ref c1) (.ref c2) = some false)
    (s13 : PySem.W.subIn K (.ref c1) (.ref c3) = some false)
    (s14 : PySem.W.subIn K (.ref c1) (.ref c4) = some false)
    (s15 : PySem.W.subIn K (.ref c1) (.ref c5) = some false)
    (s16 : PySem.W.subIn K (.ref c1) (.ref c6) = some false)
    (s17 : PySem.W.subIn K (.ref c1) (.ref c7) = some false)
    (s18 : PySem.W.subIn K (.ref c1) (.ref c8) = some false)
    (s20 : PySem.W.subIn K (.ref c2) (.ref c0) = some false)
    (s21 : PySem.W.subIn K (.ref c2) (.ref c1) = some false)
    (s22 : PySem.W.subIn K (.ref c2) (.ref c2) = some true)
    (s23 : PySem.W.subIn K (.ref c2) (.ref c3) = some false)
    (s24 : PySem.W.subIn K (.ref c2) (.ref c4) = some false)
    (s25 : PySem.W.subIn K (.ref c2) (.ref c5) = some false)
    (s26 : PySem.W.subIn K (.ref c2) (.ref c6) = some false)
    (s27 : PySem.W.subIn K (.ref c2) (.ref c7) = some false)
    (s28 : PySem.W.subIn K (.ref c2) (.ref c8) = some false)
    (s30 : PySem.W.subIn K (.ref c3) (.ref c0) = some false)
    (s31 : PySem.W.subIn K (.ref c3) (.ref c1) = some false)
    (s32 : PySem.W.subIn K (.ref c3) (.ref c2) = some false)
    (s33 : PySem.W.subIn K (.ref c3) (.ref c3) = some true)
    (s34 : PySem.W.subIn K (.ref c3) (.ref c4) = some false)
    (s35 : PySem.W.subIn K (.ref c3) (.ref c5) = some false)
    (s36 : PySem.W.subIn K (.ref c3) (.ref c6) = some false)
    (s37 : PySem.W.subIn K (.ref c3) (.ref c7) = some false)
    (s38 : PySem.W.subIn K (.ref c3) (.ref c8) = some false)
    (s40 : PySem.W.subIn K (.ref c4) (.ref c0) = some false)
    (s41 : PySem.W.subIn K (.ref c4) (.ref c1) = some false)
    (s42 : PySem.W.subIn K (.ref c4) (.ref c2) = some false)
    (s43 : PySem.W.subIn K (.ref c4) (.ref c3) = some false)
    (s44 : PySem.W.subIn K (.ref c4) (.ref c4) = some true)
    (s45 : PySem.W.subIn K (.ref c4) (.ref c5) = some false)
    (s46 : PySem.W.subIn K (.ref c4) (.ref c6) = some false)
    (s47 : PySem.W.subIn K (.ref c4) (.ref c7) = some false)
    (s48 : PySem.W.subIn K (.ref c4) (.ref c8) = some false)
    (s50 : PySem.W.subIn K (.ref c5) (.ref c0) = some false)
    (s51 : PySem.W.subIn K (.ref c5) (.ref c1) = some false)
    (s52 : PySem.W.subIn K (.ref c5) (.ref c2) = some false)
    (s53 : PySem.W.subIn K (.ref c5) (.ref c3) = some false)
    (s54 : PySem.W.subIn K (.ref c5) (.ref c4) = some false)
    (s55 : PySem.W.subIn K (.ref c5) (.ref c5) = some true)
    (s56 : PySem.W.subIn K (.ref c5) (.ref c6) = some false)
    (s57 : PySem.W.subIn K (.ref c5) (.ref c7) = some false)
    (s58 : PySem.W.subIn K (.ref c5) (.ref c8) = some false)
    (s60 : PySem.W.subIn K (.ref c6) (.ref c0) = some false)
    (s61 : PySem.W.subIn K (.ref c6) (.ref c1) = some false)
    (s62 : PySem.W.subIn K (.ref c6) (.ref c2) = some false)
    (s63 : PySem.W.subIn K (.ref c6) (.ref c3) = some false)
    (s64 : PySem.W.subIn K (.ref c6) (.ref c4) = some false)
    (s65 : PySem.W.subIn K (.ref c6) (.ref c5) = some false)
    (s66 : PySem.W.subIn K (.ref c6) (.ref c6) = some true)
    (s67 : PySem.W.subIn K (.ref c6) (.ref c7) = some false)
    (s68 : PySem.W.subIn K (.ref c6) (.ref c8) = some false)
    (s70 : PySem.W.subIn K (.ref c7) (.ref c0) = some false)
    (s71 : PySem.W.subIn K (.ref c7) (.ref c1) = some false)
    (s72 : PySem.W.subIn K (.ref c7) (.ref c2) = some false)
    (s73 : PySem.W.subIn K (.ref c7) (.ref c3) = some false)
    (s74 : PySem.W.subIn K (.ref c7) (.ref c4) = some false)
    (s75 : PySem.W.subIn K (.ref c7) (.ref c5) = some false)
    (s76 : PySem.W.subIn K (.ref c7) (.ref c6) = some false)
    (s77 : PySem.W.subIn K (.ref c7) (.ref c7) = some true)
    (s78 : PySem.W.subIn K (.ref c7) (.ref c8) = some false)
    (s80 : PySem.W.subIn K (.ref c8) (.ref c0) = some false)
    (s81 : PySem.W.subIn K (.ref c8) (.ref c1) = some false)
    (s82 : PySem.W.subIn K (.ref c8) (.ref c2) = some false)
    (s83 : PySem.W.subIn K (.ref c8) (.ref c3) = some false)
    (s84 : PySem.W.subIn K (.ref c8) (.ref c4) = some false)
    (s85 : PySem.W.subIn K (.ref c8) (.ref c5) = some false)
    (s86 : PySem.W.subIn K (.ref c8) (.ref c6) = some false)
    (s87 : PySem.W.subIn K (.ref c8) (.ref c7) = some false)
    (s88 : PySem.W.subIn K (.ref c8) (.ref c8) = some true)
    (x1 : K.lookup c1 = some (excClassObj nm1 q1 c1 N1 bs1 bm1 true sn1 sub1 ab1 col1 dd1 m01 m11 m21 m31 m51 "ValueError.__new__"))
    (rv1 : PySem.HandSPX.refsVE bm1 = true)
    (sa1 : PySem.W.findIn K (.ref c1) "__setattr__" = some (some (.builtin "object.__setattr__")))
    (na1 : PySem.W.findIn K (.ref c1) "at" = some none)
    (in1 : PySem.W.findIn K (.ref c1) "__init__" = some (some (.ref g1)))
    (tf1 : PySem.W.typeIn K (.ref g1) = some (.type "function"))
    (x6 : K.lookup c6 = some (excClassObj nm6 q6 c6 N6 bs6 bm6 true sn6 sub6 ab6 col6 dd6 m06 m16 m26 m36 m56 "ValueError.__new__"))
    (rv6 : PySem.HandSPX.refsVE bm6 = true)
    (sa6 : PySem.W.findIn K (.ref c6) "__setattr__" = some (some (.builtin "object.__setattr__")))
    (na6 : PySem.W.findIn K (.ref c6) "at" = some none)
    (in6 : PySem.W.findIn K (.ref c6) "__init__" = some (some (.ref g6)))
    (tf6 : PySem.W.typeIn K (.ref g6) = some (.type "function"))
    (l_g1 : K.lookup g1 = some ⟨oc_g1, od_g1, .func (PySem.W.fnOf "__init__" "NoLadder.__init__" (defArgs sIn1) (defBody sIn1) (defScope sIn1) .none kV_g1 dc_g1 pm_g1 an_g1 cd_g1 ct_g1), sl_g1⟩)
    (c_g1 : PySem.W.codeIn K cd_g1 "NoLadder.__init__" = true)
    (k_g1 : PySem.W.keepIn K (.ref g1) = true)
    (l_g6 : K.lookup g6 = some ⟨oc_g6, od_g6, .func (PySem.W.fnOf "__init__" "NoText.__init__" (defArgs sIn2) (defBody sIn2) (defScope sIn2) .none kV_g6 dc_g6 pm_g6 an_g6 cd_g6 ct_g6), sl_g6⟩)
    (c_g6 : PySem.W.codeIn K cd_g6 "NoText.__init__" = true)
    (k_g6 : PySem.W.keepIn K (.ref g6) = true)
    (b_fM : PySem.W.nsIn K mainGlobals "_law_smixed" = some (some (.ref fM)))
    (l_fM : K.lookup fM = some ⟨oc_fM, od_fM, .func (PySem.W.fnOf "_law_smixed" "_law_smixed" (defArgs sMix) (defBody sMix) (defScope sMix) .none kV_fM dc_fM pm_fM an_fM cd_fM ct_fM), sl_fM⟩)
    (c_fM : PySem.W.codeIn K cd_fM "_law_smixed" = true)
    (k_fM : PySem.W.keepIn K (.ref fM) = true)
    (b_fD : PySem.W.nsIn K mainGlobals "_law_sdraw" = some (some (.ref fD)))
    (l_fD : K.lookup fD = some ⟨oc_fD, od_fD, .func (PySem.W.fnOf "_law_sdraw" "_law_sdraw" (defArgs sDrw) (defBody sDrw) (defScope sDrw) .none kV_fD dc_fD pm_fD an_fD cd_fD ct_fD), sl_fD⟩)
    (c_fD : PySem.W.codeIn K cd_fD "_law_sdraw" = true)
    (k_fD : PySem.W.keepIn K (.ref fD) = true)
    (b_fO : PySem.W.nsIn K mainGlobals "_law_sopen" = some (some (.ref fO)))
    (l_fO : K.lookup fO = some ⟨oc_fO, od_fO, .func (PySem.W.fnOf "_law_sopen" "_law_sopen" (defArgs sOpn) (defBody sOpn) (defScope sOpn) .none kV_fO dc_fO pm_fO an_fO cd_fO ct_fO), sl_fO⟩)
    (c_fO : PySem.W.codeIn K cd_fO "_law_sopen" = true)
    (k_fO : PySem.W.keepIn K (.ref fO) = true)
    (b_fL : PySem.W.nsIn K mainGlobals "law" = some (some (.ref fL)))
    (l_fL : K.lookup fL = some ⟨oc_fL, od_fL, .func (PySem.W.fnOf "law" "law" (defArgs sLaw) (defBody sLaw) (defScope sLaw) .none kV_fL dc_fL pm_fL an_fL cd_fL ct_fL), sl_fL⟩)
    (c_fL : PySem.W.codeIn K cd_fL "law" = true)
    (k_fL : PySem.W.keepIn K (.ref fL) = true)
    (z_range : PySem.W.nsIn K mainGlobals "range" = some none)
    (z_isinstance : PySem.W.nsIn K mainGlobals "isinstance" = some none)
    (z_ValueError : PySem.W.nsIn K mainGlobals "ValueError" = some none)
    (z_len : PySem.W.nsIn K mainGlobals "len" = some none)
    (z_list : PySem.W.nsIn K mainGlobals "list" = some none) :
    ∃ fd : FuncData, (∀ (s : Shared) (v : Value), BindsTo s fd ⟨[v], []⟩ [("script", v)]) ∧ ∀ base : Heap, K.In base → base.Ns mainGlobals mg → FnOk l.prog w K mg base CX0 6 fa fd ["script"] (spLaw K) := by
  have e := hfa.symm.trans (PySem.W.mg_of X G b_fL)
  cases e
  have F1 := fun_mk (st := sIn1) l_g1 c_g1 k_g1
  have F6 := fun_mk (st := sIn2) l_g6 c_g6 k_g6
  have FM := fun_mk (st := sMix) l_fM c_fM k_fM
  have FD := fun_mk (st := sDrw) l_fD c_fD k_fD
  have FO := fun_mk (st := sOpn) l_fO c_fO k_fO
  have FL := fun_mk (st := sLaw) l_fL c_fL k_fL
  have b1 := F1.binds (ps := ["self", "at"]) fun _ _ _ _ _ _ us hl => match us, hl with | [_, _], _ => rfl
  have b6 := F6.binds (ps := ["self", "at"]) fun _ _ _ _ _ _ us hl => match us, hl with | [_, _], _ => rfl
  have bM := FM.binds (ps := ["cell", "at"]) fun _ _ _ _ _ _ us hl => match us, hl with | [_, _], _ => rfl
  have bD := FD.binds (ps := ["feed", "many"]) fun _ _ _ _ _ _ us hl => match us, hl with | [_, _], _ => rfl
  have bO := FO.binds (ps := ["script"]) fun _ _ _ _ _ _ us hl => match us, hl with | [_], _ => rfl
  have T : Txt K mg (fun i => [c0, c1, c2, c3, c4, c5, c6, c7, c8].getD i 0) S := {
    g := fun i x e => match i, e with
    | 0, e => by cases e; exact PySem.W.mg_of X G a0
    | 1, e => by cases e; exact PySem.W.mg_of X G a1
    | 2, e => by cases e; exact PySem.W.mg_of X G a2
    | 3, e => by cases e; exact PySem.W.mg_of X G a3
    | 4, e => by cases e; exact PySem.W.mg_of X G a4
    | 5, e => by cases e; exact PySem.W.mg_of X G a5
    | 6, e => by cases e; exact PySem.W.mg_of X G a6
    | 7, e => by cases e; exact PySem.W.mg_of X G a7
    | 8, e => by cases e; exact PySem.W.mg_of X G a8
    | n + 9, e => by cases e
    gS := PySem.W.mg_of X G aS
    kp := fun i hi => match i, hi with
    | 0, _ => kp0
    | 1, _ => kp1
    | 2, _ => kp2
    | 3, _ => kp3
    | 4, _ => kp4
    | 5, _ => kp5
    | 6, _ => kp6
    | 7, _ => kp7
    | 8, _ => kp8
    ec := fun i hi => match i, hi with
    | 0, _ => ⟨hg0, hk0, hs0, hd0, ha0, hn, ht, hm0⟩
    | 1, _ => ⟨hg1, hk1, hs1, hd1, ha1, hn, ht, hm1⟩
    | 2, _ => ⟨hg2, hk2, hs2, hd2, ha2, hn, ht, hm2⟩
    | 3, _ => ⟨hg3, hk3, hs3, hd3, ha3, hn, ht, hm3⟩
    | 4, _ => ⟨hg4, hk4, hs4, hd4, ha4, hn, ht, hm4⟩
    | 5, _ => ⟨hg5, hk5, hs5, hd5, ha5, hn, ht, hm5⟩
    | 6, _ => ⟨hg6, hk6, hs6, hd6, ha6, hn, ht, hm6⟩
    | 7, _ => ⟨hg7, hk7, hs7, hd7, ha7, hn, ht, hm7⟩
    | 8, _ => ⟨hg8, hk8, hs8, hd8, ha8, hn, ht, hm8⟩
    xc := fun i hi h1 h6 => match i, hi, h1, h6 with
    | 0, _, _, _ => xc0
    | 1, _, h, _ => absurd rfl h
    | 2, _, _, _ => xc2
    | 3, _, _, _ => xc3
    | 4, _, _, _ => xc4
    | 5, _, _, _ => xc5
    | 6, _, _, h => absurd rfl h
    | 7, _, _, _ => xc7
    | 8, _, _, _ => xc8
    ap := fun i j hi hj => match i, hi, j, hj with
    | 0, _, 0, _ => kit_t (cls_s lc0) ty0 s00
    | 0, _, 1, _ => kit_f (cls_s lc1) ty1 s01 s00
    | 0, _, 2, _ => kit_f (cls_s lc2) ty2 s02 s00
    | 0, _, 3, _ => kit_f (cls_s lc3) ty3 s03 s00
    | 0, _, 4, _ => kit_f (cls_s lc4) ty4 s04 s00
    | 0, _, 5, _ => kit_f (cls_s lc5) ty5 s05 s00
    | 0, _, 6, _ => kit_f (cls_s lc6) ty6 s06 s00
    | 0, _, 7, _ => kit_f (cls_s lc7) ty7 s07 s00
    | 0, _, 8, _ => kit_f (cls_s lc8) ty8 s08 s00
    | 1, _, 0, _ => kit_f (cls_s lc0) ty0 s10 s11
    | 1, _, 1, _ => kit_t (cls_s lc1) ty1 s11
    | 1, _, 2, _ => kit_f (cls_s lc2) ty2 s12 s11
    | 1, _, 3, _ => kit_f (cls_s lc3) ty3 s13 s11
    | 1, _, 4, _ => kit_f (cls_s lc4) ty4 s14 s11
    | 1, _, 5, _ => kit_f (cls_s lc5) ty5 s15 s11
    | 1, _, 6, _ => kit_f (cls_s lc6) ty6 s16 s11
    | 1, _, 7, _ => kit_f (cls_s lc7) ty7 s17 s11
    | 1, _, 8, _ => kit_f (cls_s lc8) ty8 s18 s11
    | 2, _, 0, _ => kit_f (cls_s lc0) ty0 s20 s22
    | 2, _, 1, _ => kit_f (cls_s lc1) ty1 s21 s22
    | 2, _, 2, _ => kit_t (cls_s lc2) ty2 s22
    | 2, _, 3, _ => kit_f (cls_s lc3) ty3 s23 s22
    | 2, _, 4, _ => kit_f (cls_s lc4) ty4 s24 s22
    | 2, _, 5, _ => kit_f (cls_s lc5) ty5 s25 s22
    | 2, _, 6, _ => kit_f (cls_s lc6) ty6 s26 s22
    | 2, _, 7, _ => kit_f (cls_s lc7) ty7 s27 s22
    | 2, _, 8, _ => kit_f (cls_s lc8) ty8 s28 s22
    | 3, _, 0, _ => kit_f (cls_s lc0) ty0 s30 s33
    | 3, _, 1, _ => kit_f (cls_s lc1) ty1 s31 s33
    | 3, _, 2, _ => kit_f (cls_s lc2) ty2 s32 s33
    | 3, _, 3, _ => kit_t (cls_s lc3) ty3 s33
    | 3, _, 4, _ => kit_f (cls_s lc4) ty4 s34 s33
    | 3, _, 5, _ => kit_f (cls_s lc5) ty5 s35 s33
    | 3, _, 6, _ => kit_f (cls_s lc6) ty6 s36 s33
    | 3, _, 7, _ => kit_f (cls_s lc7) ty7 s37 s33
    | 3, _, 8, _ => kit_f (cls_s lc8) ty8 s38 s33
    | 4, _, 0, _ => kit_f (cls_s lc0) ty0 s40 s44
    | 4, _, 1, _ => kit_f (cls_s lc1) ty1 s41 s44
    | 4, _, 2, _ => kit_f (cls_s lc2) ty2 s42 s44
    | 4, _, 3, _ => kit_f (cls_s lc3) ty3 s43 s44
    | 4, _, 4, _ => kit_t (cls_s lc4) ty4 s44
    | 4, _, 5, _ => kit_f (cls_s lc5) ty5 s45 s44
    | 4, _, 6, _ => kit_f (cls_s lc6) ty6 s46 s44
    | 4, _, 7, _ => kit_f (cls_s lc7) ty7 s47 s44
    | 4, _, 8, _ => kit_f (cls_s lc8) ty8 s48 s44
    | 5, _, 0, _ => kit_f (cls_s lc0) ty0 s50 s55
    | 5, _, 1, _ => kit_f (cls_s lc1) ty1 s51 s55
    | 5, _, 2, _ => kit_f (cls_s lc2) ty2 s52 s55
    | 5, _, 3, _ => kit_f (cls_s lc3) ty3 s53 s55
    | 5, _, 4, _ => kit_f (cls_s lc4) ty4 s54 s55
    | 5, _, 5, _ => kit_t (cls_s lc5) ty5 s55
    | 5, _, 6, _ => kit_f (cls_s lc6) ty6 s56 s55
    | 5, _, 7, _ => kit_f (cls_s lc7) ty7 s57 s55
    | 5, _, 8, _ => kit_f (cls_s lc8) ty8 s58 s55
    | 6, _, 0, _ => kit_f (cls_s lc0) ty0 s60 s66
    | 6, _, 1, _ => kit_f (cls_s lc1) ty1 s61 s66
    | 6, _, 2, _ => kit_f (cls_s lc2) ty2 s62 s66
    | 6, _, 3, _ => kit_f (cls_s lc3) ty3 s63 s66
    | 6, _, 4, _ => kit_f (cls_s lc4) ty4 s64 s66
    | 6, _, 5, _ => kit_f (cls_s lc5) ty5 s65 s66
    | 6, _, 6, _ => kit_t (cls_s lc6) ty6 s66
    | 6, _, 7, _ => kit_f (cls_s lc7) ty7 s67 s66
    | 6, _, 8, _ => kit_f (cls_s lc8) ty8 s68 s66
    | 7, _, 0, _ => kit_f (cls_s lc0) ty0 s70 s77
    | 7, _, 1, _ => kit_f (cls_s lc1) ty1 s71 s77
    | 7, _, 2, _ => kit_f (cls_s lc2) ty2 s72 s77
    | 7, _, 3, _ => kit_f (cls_s lc3) ty3 s73 s77
    | 7, _, 4, _ => kit_f (cls_s lc4) ty4 s74 s77
    | 7, _, 5, _ => kit_f (cls_s lc5) ty5 s75 s77
    | 7, _, 6, _ => kit_f (cls_s lc6) ty6 s76 s77
    | 7, _, 7, _ => kit_t (cls_s lc7) ty7 s77
    | 7, _, 8, _ => kit_f (cls_s lc8) ty8 s78 s77
    | 8, _, 0, _ => kit_f (cls_s lc0) ty0 s80 s88
    | 8, _, 1, _ => kit_f (cls_s lc1) ty1 s81 s88
    | 8, _, 2, _ => kit_f (cls_s lc2) ty2 s82 s88
    | 8, _, 3, _ => kit_f (cls_s lc3) ty3 s83 s88
    | 8, _, 4, _ => kit_f (cls_s lc4) ty4 s84 s88
    | 8, _, 5, _ => kit_f (cls_s lc5) ty5 s85 s88
    | 8, _, 6, _ => kit_f (cls_s lc6) ty6 s86 s88
    | 8, _, 7, _ => kit_f (cls_s lc7) ty7 s87 s88
    | 8, _, 8, _ => kit_t (cls_s lc8) ty8 s88
    ks := fun i hi => match i, hi with
    | 0, _ => kit_t (cls_s lS) tS ss0
    | 1, _ => kit_t (cls_s lS) tS ss1
    | 2, _ => kit_t (cls_s lS) tS ss2
    | 3, _ => kit_t (cls_s lS) tS ss3
    | 4, _ => kit_t (cls_s lS) tS ss4
    | 5, _ => kit_t (cls_s lS) tS ss5
    | 6, _ => kit_t (cls_s lS) tS ss6
    | 7, _ => kit_t (cls_s lS) tS ss7
    | 8, _ => kit_t (cls_s lS) tS ss8
    kv := fun i hi => match i, hi with
    | 0, _ => kit_v sv0
    | 1, _ => kit_v sv1
    | 2, _ => kit_v sv2
    | 3, _ => kit_v sv3
    | 4, _ => kit_v sv4
    | 5, _ => kit_v sv5
    | 6, _ => kit_v sv6
    | 7, _ => kit_v sv7
    | 8, _ => kit_v sv8
    o1 := ⟨⟨nm1, q1, N1, bs1, bm1, sn1, sub1, ab1, col1, dd1, m01, m11, m21, m31, m51, x1, rv1⟩, sa1, hs1, ty1, kp1⟩
    o6 := ⟨⟨nm6, q6, N6, bs6, bm6, sn6, sub6, ab6, col6, dd6, m06, m16, m26, m36, m56, x6, rv6⟩, sa6, hs6, ty6, kp6⟩
    n1 := na1
    n6 := na6
    z_range := PySem.W.mg_none_of X G z_range
    z_isinstance := PySem.W.mg_none_of X G z_isinstance
    z_ValueError := PySem.W.mg_none_of X G z_ValueError
    z_len := PySem.W.mg_none_of X G z_len
    z_list := PySem.W.mg_none_of X G z_list }
  exact ⟨PySem.W.fnOf "law" "law" (defArgs sLaw) (defBody sLaw) (defScope sLaw) .none kV_fL dc_fL pm_fL an_fL cd_fL ct_fL, fun s v => .of_eq rfl,
    fun base _ _ => ok_law FL T FM bM (PySem.W.mg_of X G b_fM) FD bD (PySem.W.mg_of X G b_fD) FO bO (PySem.W.mg_of X G b_fO) F1 b1 in1 tf1 F6 b6 in6 tf6⟩
end K9
open PySem PySem.W PyProof.Rows
set_option maxHeartbeats 0 in
theorem PySem.Challenge.cw_sparecut_k09_refusals_apart_holds : PySem.Challenge.rw_sparecut_k09_refusals_apart.Holds := by
  w_on; o_law; k_head; (case hw => w_witness2)
  k_fill
  refine L2.walk_of (l := PySem.Challenge.rw_sparecut_k09_refusals_apart) (n := 63) (k := 6) (x := "script") (CX := fun _ => L2.CX0) (sp := fun w => K9.spLaw _) rfl (by decide) rfl ⟨rfl, by decide, by decide⟩ (fun w h Y => PySem.W.kIn_of Y) ?F (fun _ _ a ns hl _ hS => ⟨a, ns, rfl, hS, fun _ => rfl⟩) (fun _ _ _ _ _ h => h)
  case F =>
    intro w mg fa h KX G hmg
    refine' K9.all_mk KX G hmg ?aS ?hn ?ht ?lS ?tS ?a0 ?kp0 ?hg0 ?hk0 ?hs0 ?hd0 ?ha0 ?hm0 ?lc0 ?ty0 ?ss0 ?sv0 ?xc0 ?a1 ?kp1 ?hg1 ?hk1 ?hs1 ?hd1 ?ha1 ?hm1 ?lc1 ?ty1 ?ss1 ?sv1 ?a2 ?kp2 ?hg2 ?hk2 ?hs2 ?hd2 ?ha2 ?hm2 ?lc2 ?ty2 ?ss2 ?sv2 ?xc2 ?a3 ?kp3 ?hg3 ?hk3 ?hs3 ?hd3 ?ha3 ?hm3 ?lc3 ?ty3 ?ss3 ?sv3 ?xc3 ?a4 ?kp4 ?hg4 ?hk4 ?hs4 ?hd4 ?ha4 ?hm4 ?lc4 ?ty4 ?ss4 ?sv4 ?xc4 ?a5 ?kp5 ?hg5 ?hk5 ?hs5 ?hd5 ?ha5 ?hm5 ?lc5 ?ty5 ?ss5 ?sv5 ?xc5 ?a6 ?kp6 ?hg6 ?hk6 ?hs6 ?hd6 ?ha6 ?hm6 ?lc6 ?ty6 ?ss6 ?sv6 ?a7 ?kp7 ?hg7 ?hk7 ?hs7 ?hd7 ?ha7 ?hm7 ?lc7 ?ty7 ?ss7 ?sv7 ?xc7 ?a8 ?kp8 ?hg8 ?hk8 ?hs8 ?hd8 ?ha8 ?hm8 ?lc8 ?ty8 ?ss8 ?sv8 ?xc8 ?s00 ?s01 ?s02 ?s03 ?s04 ?s05 ?s06 ?s07 ?s08 ?s10 ?s11 ?s12 ?s13 ?s14 ?s15 ?s16 ?s17 ?s18 ?s20 ?s21 ?s22 ?s23 ?s24 ?s25 ?s26 ?s27 ?s28 ?s30 ?s31 ?s32 ?s33 ?s34 ?s35 ?s36 ?s37 ?s38 ?s40 ?s41 ?s42 ?s43 ?s44 ?s45 ?s46 ?s47 ?s48 ?s50 ?s51 ?s52 ?s53 ?s54 ?s55 ?s56 ?s57 ?s58 ?s60 ?s61 ?s62 ?s63 ?s64 ?s65 ?s66 ?s67 ?s68 ?s70 ?s71 ?s72 ?s73 ?s74 ?s75 ?s76 ?s77 ?s78 ?s80 ?s81 ?s82 ?s83 ?s84 ?s85 ?s86 ?s87 ?s88 ?x1 ?rv1 ?sa1 ?na1 ?in1 ?tf1 ?x6 ?rv6 ?sa6 ?na6 ?in6 ?tf6 ?l_g1 ?c_g1 ?k_g1 ?l_g6 ?c_g6 ?k_g6 ?b_fM ?l_fM ?c_fM ?k_fM ?b_fD ?l_fD ?c_fD ?k_fD ?b_fO ?l_fO ?c_fO ?k_fO ?b_fL ?l_fL ?c_fL ?k_fL ?z_range ?z_isinstance ?z_ValueError ?z_len ?z_list
    (case aS => k_is)
    (case hn => k_is)
    (case ht => k_is)
    (case lS => k_is)
    (case tS => k_is)
    (case a0 => k_is)
    (case kp0 => k_is)
    (case hg0 => k_is)
    (case hk0 => k_is)
    (case hs0 => k_is)
    (case hd0 => k_is)
    (case ha0 => k_is)
    (case hm0 => k_is)
    (case lc0 => k_is)
    (case ty0 => k_is)
    (case ss0 => k_is)
    (case sv0 => k_is)
    (case xc0 => k_exc)
    (case a1 => k_is)
    (case kp1 => k_is)
    (case hg1 => k_is)
    (case hk1 => k_is)
    (case hs1 => k_is)
    (case hd1 => k_is)
    (case ha1 => k_is)
    (case hm1 => k_is)
    (case lc1 => k_is)
    (case ty1 => k_is)
    (case ss1 => k_is)
    (case sv1 => k_is)
    (case a2 => k_is)
    (case kp2 => k_is)
    (case hg2 => k_is)
    (case hk2 => k_is)
    (case hs2 => k_is)
    (case hd2 => k_is)
    (case ha2 => k_is)
    (case hm2 => k_is)
    (case lc2 => k_is)
    (case ty2 => k_is)
    (case ss2 => k_is)
    (case sv2 => k_is)
    (case xc2 => k_exc)
    (case a3 => k_is)
    (case kp3 => k_is)
    (case hg3 => k_is)
    (case hk3 => k_is)
    (case hs3 => k_is)
    (case hd3 => k_is)
    (case ha3 => k_is)
    (case hm3 => k_is)
    (case lc3 => k_is)
    (case ty3 => k_is)
    (case ss3 => k_is)
    (case sv3 => k_is)
    (case xc3 => k_exc)
    (case a4 => k_is)
    (case kp4 => k_is)
    (case hg4 => k_is)
    (case hk4 => k_is)
    (case hs4 => k_is)
    (case hd4 => k_is)
    (case ha4 => k_is)
    (case hm4 => k_is)
    (case lc4 => k_is)
    (case ty4 => k_is)
    (case ss4 => k_is)
    (case sv4 => k_is)
    (case xc4 => k_exc)
    (case a5 => k_is)
    (case kp5 => k_is)
    (case hg5 => k_is)
    (case hk5 => k_is)
    (case hs5 => k_is)
    (case hd5 => k_is)
    (case ha5 => k_is)
    (case hm5 => k_is)
    (case lc5 => k_is)
    (case ty5 => k_is)
    (case ss5 => k_is)
    (case sv5 => k_is)
    (case xc5 => k_exc)
    (case a6 => k_is)
    (case kp6 => k_is)
    (case hg6 => k_is)
    (case hk6 => k_is)
    (case hs6 => k_is)
    (case hd6 => k_is)
    (case ha6 => k_is)
    (case hm6 => k_is)
    (case lc6 => k_is)
    (case ty6 => k_is)
    (case ss6 => k_is)
    (case sv6 => k_is)
    (case a7 => k_is)
    (case kp7 => k_is)
    (case hg7 => k_is)
    (case hk7 => k_is)
    (case hs7 => k_is)
    (case hd7 => k_is)
    (case ha7 => k_is)
    (case hm7 => k_is)
    (case lc7 => k_is)
    (case ty7 => k_is)
    (case ss7 => k_is)
    (case sv7 => k_is)
    (case xc7 => k_exc)
    (case a8 => k_is)
    (case kp8 => k_is)
    (case hg8 => k_is)
    (case hk8 => k_is)
    (case hs8 => k_is)
    (case hd8 => k_is)
    (case ha8 => k_is)
    (case hm8 => k_is)
    (case lc8 => k_is)
    (case ty8 => k_is)
    (case ss8 => k_is)
    (case sv8 => k_is)
    (case xc8 => k_exc)
    (case s00 => k_is)
    (case s01 => k_is)
    (case s02 => k_is)
    (case s03 => k_is)
    (case s04 => k_is)
    (case s05 => k_is)
    (case s06 => k_is)
    (case s07 => k_is)
    (case s08 => k_is)
    (case s10 => k_is)
    (case s11 => k_is)
    (case s12 => k_is)
    (case s13 => k_is)
    (case s14 => k_is)
    (case s15 => k_is)
    (case s16 => k_is)
    (case s17 => k_is)
    (case s18 => k_is)
    (case s20 => k_is)
    (case s21 => k_is)
    (case s22 => k_is)
    (case s23 => k_is)
    (case s24 => k_is)
    (case s25 => k_is)
    (case s26 => k_is)
    (case s27 => k_is)
    (case s28 => k_is)
    (case s30 => k_is)
    (case s31 => k_is)
    (case s32 => k_is)
    (case s33 => k_is)
    (case s34 => k_is)
    (case s35 => k_is)
    (case s36 => k_is)
    (case s37 => k_is)
    (case s38 => k_is)
    (case s40 => k_is)
    (case s41 => k_is)
    (case s42 => k_is)
    (case s43 => k_is)
    (case s44 => k_is)
    (case s45 => k_is)
    (case s46 => k_is)
    (case s47 => k_is)
    (case s48 => k_is)
    (case s50 => k_is)
    (case s51 => k_is)
    (case s52 => k_is)
    (case s53 => k_is)
    (case s54 => k_is)
    (case s55 => k_is)
    (case s56 => k_is)
    (case s57 => k_is)
    (case s58 => k_is)
    (case s60 => k_is)
    (case s61 => k_is)
    (case s62 => k_is)
    (case s63 => k_is)
    (case s64 => k_is)
    (case s65 => k_is)
    (case s66 => k_is)
    (case s67 => k_is)
    (case s68 => k_is)
    (case s70 => k_is)
    (case s71 => k_is)
    (case s72 => k_is)
    (case s73 => k_is)
    (case s74 => k_is)
    (case s75 => k_is)
    (case s76 => k_is)
    (case s77 => k_is)
    (case s78 => k_is)
    (case s80 => k_is)
    (case s81 => k_is)
    (case s82 => k_is)
    (case s83 => k_is)
    (case s84 => k_is)
    (case s85 => k_is)
    (case s86 => k_is)
    (case s87 => k_is)
    (case s88 => k_is)
    (case x1 => k_is)
    (case rv1 => decide +kernel)
    (case sa1 => k_is)
    (case na1 => k_is)
    (case in1 => k_is)
    (case tf1 => k_is)
    (case x6 => k_is)
    (case rv6 => decide +kernel)
    (case sa6 => k_is)
    (case na6 => k_is)
    (case in6 => k_is)
    (case tf6 => k_is)
    (case l_g1 => k_is)
    (case c_g1 => k_is)
    (case k_g1 => k_is)
    (case l_g6 => k_is)
    (case c_g6 => k_is)
    (case k_g6 => k_is)
    (case b_fM => k_is)
    (case l_fM => k_is)
    (case c_fM => k_is)
    (case k_fM => k_is)
    (case b_fD => k_is)
    (case l_fD => k_is)
    (case c_fD => k_is)
    (case k_fD => k_is)
    (case b_fO => k_is)
    (case l_fO => k_is)
    (case c_fO => k_is)
    (case k_fO => k_is)
    (case b_fL => k_is)
    (case l_fL => k_is)
    (case c_fL => k_is)
    (case k_fL => k_is)
    (case z_range => k_is)
    (case z_isinstance => k_is)
    (case z_ValueError => k_is)
    (case z_len => k_is)
    (case z_list => k_is)
