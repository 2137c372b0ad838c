/-
  ScanRange at any arguments, its answer a tree of one's own. No condition.
-/
import Derived.Test.YtedmegmhjmabcaaDca
import Derived.Test.YtedmegmhjmabcaaDcc
import Derived.Test.YtedmegmhjmabcaaDcf
import Derived.Test.YtedmegmhjmabcaaKVScan
import Derived.Test.YtedmegmhjmabcaaKVClT
import Derived.Test.YtedmegmhjmabcaaKVMkT
set_option maxHeartbeats 4000000
set_option maxRecDepth 100000
set_option linter.unusedVariables false
set_option linter.unusedSimpArgs false
namespace Go.Proofs.Ytedmegmhjmabcaa
open Go.RowKit

theorem cells_LRg : Try.prog.cellsOf 38 = 2 := by kernel_rfl
/-- A range that came in. -/
def IsRg (w : World) (v : Value) (x : Int × Int) : Prop := Fz w (allOf w) noNames (rngD x.1 x.2) v
section
open Go.ChangeShapes Go.WideShapes Go.ChangeAt Go.RowKit Go.Joins Go.Deep
variable {H : Type} {enc : TypeId × Value → H} {W : World} {base b0 : Nat} {held : Bool} {r : Reach} {v : Value} {d : DataW H} {p : List MemPlace}
set_option maxRecDepth 100000 in
theorem open_pRg (hv : Value.okWide Try.prog W r b0 38 v) (h : DataW.Trod enc Try.prog W base (fun _ => true) held 38 v d p) (_lt : ∀ x ∈ p, x.block < W.heap.size) :
    ∃ x : Int × Int, IsRg W v x := by
  obtain ⟨cs, rfl, _⟩ := okWide_struct Try.underlying38 hv
  obtain ⟨fuel, hf⟩ := h
  obtain ⟨y0, y1, n, _, hl, h0, h1⟩ := trod_struct2 Try.underlying38 hf
  rw [cells_LRg] at hl
  generalize hcc : (Value.agg cs).cells.toList = cc at hl h0 h1
  match cc, hl with
  | [c0, c1], _ =>
    simp only [cells_int, List.drop_zero, List.drop_succ_cons, List.take_succ_cons, List.take_zero] at h0 h1
    obtain ⟨k0, q0⟩ := int_fz Try.underlying3 h0
    obtain ⟨k1, q1⟩ := int_fz Try.underlying3 h1
    refine ⟨⟨k0, k1⟩, agg_fz ?_⟩
    have hcs : cs.toList = [c0, c1] := hcc
    rw [hcs]
    exact q0.append q1
end
theorem toRange_ok (lo hi : Int) : Does Try.prog 25 [] [rngD lo hi] (rngD lo hi) [] := by
  refine does0 c_laws_toRange mixed (Nat.le_of_ble_eq_true rfl) ?_
  conv => arg 3; whnf
  repeat' (first | with_reducible refine acc_none ?_ | (conv in hold _ => simp (disch := omega) only [go_sem]) | refine Stp.go ?_ | (with_reducible first | refine it_pos rfl ?_ | refine it_neg (by decide) ?_ | refine st_nil rfl ?_ | refine s_op ?_ ?_ | exact True.intro) | ((with_reducible first | refine dw_reg0 ?_ | refine dw_regB ?_); (conv => arg 3; whnf)) | (refine Spl.go (fun hq he => ?_) (fun hq he => ?_) <;> first | (exfalso; clear hq; omega) | ((try (first | (conv => arg 8; simp only [hq]) | (conv => arg 4; simp only [hq]))); clear hq)) | ((with_reducible first | refine c_split (fun hq => ?_) (fun hq => ?_) | refine q_split (fun hq => ?_) (fun hq => ?_)) <;> (try (first | (conv => arg 8; simp only [hq]) | (conv => arg 4; simp only [hq])))) | (with_reducible refine fin_0 ?_ (by first | rfl | (conv => lhs; simp only [go_sem])) ?_) | exact Sub.refl _ | omega)
theorem ScanRange_spec_F {t : Ta} (hsz : rsz t.rows ≤ 1048576) {c : Int} {lo hi : Int} (h : ¬ (tOk t ∧ 0 ≤ c ∧ c < t.w)) : Does Try.prog 24 [] [taD t, I c, rngD lo hi] (.tup [taD ⟨0, []⟩, Bo false]) [] := by
  have h1 := validTable_ok t hsz
  by_cases ht : tOk t
  · rw [decide_eq_true ht] at h1
    have hw : 1 ≤ t.w ∧ t.w ≤ 6 := by
      obtain ⟨w, hw, hw6, _, _, _⟩ := tOk_nat ht
      omega
    have h2 := inRange_ok c 0 (t.w - 1)
    rw [decide_eq_false (fun x => h ⟨ht, x.1, by omega⟩)] at h2
    refine does0 c_spec_ScanRange mixed (Nat.le_of_ble_eq_true rfl) ?_
    conv => arg 3; whnf
    repeat' (first | with_reducible refine acc_none ?_ | (conv in hold _ => simp (disch := omega) only [go_sem]) | refine Stp.go ?_ | (with_reducible first | refine it_pos rfl ?_ | refine it_neg (by decide) ?_ | refine st_nil rfl ?_ | refine s_op ?_ ?_ | exact True.intro) | ((with_reducible first | refine dw_reg0 ?_ | refine dw_regB ?_); (conv => arg 3; whnf)) | (refine Spl.go (fun hq he => ?_) (fun hq he => ?_) <;> first | (exfalso; clear hq; omega) | ((try (first | (conv => arg 8; simp only [hq]) | (conv => arg 4; simp only [hq]))); clear hq)) | ((with_reducible first | refine c_split (fun hq => ?_) (fun hq => ?_) | refine q_split (fun hq => ?_) (fun hq => ?_)) <;> (try (first | (conv => arg 8; simp only [hq]) | (conv => arg 4; simp only [hq])))) | (with_reducible refine fin_0 ?_ (by first | rfl | (conv => lhs; simp only [go_sem])) ?_) | exact Sub.refl _ | omega)
    refine c_doesE (h1) ?_ ?_ ?_
    · ((try (conv => rhs; simp (disch := omega) only [go_sem])); try rfl)
    · first | rfl | (conv => lhs; simp only [go_sem])
    repeat' (first | with_reducible refine acc_none ?_ | (conv in hold _ => simp (disch := omega) only [go_sem]) | refine Stp.go ?_ | (with_reducible first | refine it_pos rfl ?_ | refine it_neg (by decide) ?_ | refine st_nil rfl ?_ | refine s_op ?_ ?_ | exact True.intro) | ((with_reducible first | refine dw_reg0 ?_ | refine dw_regB ?_); (conv => arg 3; whnf)) | (refine Spl.go (fun hq he => ?_) (fun hq he => ?_) <;> first | (exfalso; clear hq; omega) | ((try (first | (conv => arg 8; simp only [hq]) | (conv => arg 4; simp only [hq]))); clear hq)) | ((with_reducible first | refine c_split (fun hq => ?_) (fun hq => ?_) | refine q_split (fun hq => ?_) (fun hq => ?_)) <;> (try (first | (conv => arg 8; simp only [hq]) | (conv => arg 4; simp only [hq])))) | (with_reducible refine fin_0 ?_ (by first | rfl | (conv => lhs; simp only [go_sem])) ?_) | exact Sub.refl _ | omega)
    refine c_doesE (h2) ?_ ?_ ?_
    · ((try (conv => rhs; simp (disch := omega) only [go_sem])); try rfl)
    · first | rfl | (conv => lhs; simp only [go_sem])
    repeat' (first | with_reducible refine acc_none ?_ | (conv in hold _ => simp (disch := omega) only [go_sem]) | refine Stp.go ?_ | (with_reducible first | refine it_pos rfl ?_ | refine it_neg (by decide) ?_ | refine st_nil rfl ?_ | refine s_op ?_ ?_ | exact True.intro) | ((with_reducible first | refine dw_reg0 ?_ | refine dw_regB ?_); (conv => arg 3; whnf)) | (refine Spl.go (fun hq he => ?_) (fun hq he => ?_) <;> first | (exfalso; clear hq; omega) | ((try (first | (conv => arg 8; simp only [hq]) | (conv => arg 4; simp only [hq]))); clear hq)) | ((with_reducible first | refine c_split (fun hq => ?_) (fun hq => ?_) | refine q_split (fun hq => ?_) (fun hq => ?_)) <;> (try (first | (conv => arg 8; simp only [hq]) | (conv => arg 4; simp only [hq])))) | (with_reducible refine fin_0 ?_ (by first | rfl | (conv => lhs; simp only [go_sem])) ?_) | exact Sub.refl _ | omega)
    exact sub_zero
  · rw [decide_eq_false ht] at h1
    refine does0 c_spec_ScanRange mixed (Nat.le_of_ble_eq_true rfl) ?_
    conv => arg 3; whnf
    repeat' (first | with_reducible refine acc_none ?_ | (conv in hold _ => simp (disch := omega) only [go_sem]) | refine Stp.go ?_ | (with_reducible first | refine it_pos rfl ?_ | refine it_neg (by decide) ?_ | refine st_nil rfl ?_ | refine s_op ?_ ?_ | exact True.intro) | ((with_reducible first | refine dw_reg0 ?_ | refine dw_regB ?_); (conv => arg 3; whnf)) | (refine Spl.go (fun hq he => ?_) (fun hq he => ?_) <;> first | (exfalso; clear hq; omega) | ((try (first | (conv => arg 8; simp only [hq]) | (conv => arg 4; simp only [hq]))); clear hq)) | ((with_reducible first | refine c_split (fun hq => ?_) (fun hq => ?_) | refine q_split (fun hq => ?_) (fun hq => ?_)) <;> (try (first | (conv => arg 8; simp only [hq]) | (conv => arg 4; simp only [hq])))) | (with_reducible refine fin_0 ?_ (by first | rfl | (conv => lhs; simp only [go_sem])) ?_) | exact Sub.refl _ | omega)
    refine c_doesE (h1) ?_ ?_ ?_
    · ((try (conv => rhs; simp (disch := omega) only [go_sem])); try rfl)
    · first | rfl | (conv => lhs; simp only [go_sem])
    repeat' (first | with_reducible refine acc_none ?_ | (conv in hold _ => simp (disch := omega) only [go_sem]) | refine Stp.go ?_ | (with_reducible first | refine it_pos rfl ?_ | refine it_neg (by decide) ?_ | refine st_nil rfl ?_ | refine s_op ?_ ?_ | exact True.intro) | ((with_reducible first | refine dw_reg0 ?_ | refine dw_regB ?_); (conv => arg 3; whnf)) | (refine Spl.go (fun hq he => ?_) (fun hq he => ?_) <;> first | (exfalso; clear hq; omega) | ((try (first | (conv => arg 8; simp only [hq]) | (conv => arg 4; simp only [hq]))); clear hq)) | ((with_reducible first | refine c_split (fun hq => ?_) (fun hq => ?_) | refine q_split (fun hq => ?_) (fun hq => ?_)) <;> (try (first | (conv => arg 8; simp only [hq]) | (conv => arg 4; simp only [hq])))) | (with_reducible refine fin_0 ?_ (by first | rfl | (conv => lhs; simp only [go_sem])) ?_) | exact Sub.refl _ | omega)
    exact sub_zero
open Classical in
noncomputable def scanA (t : Ta) (c lo hi : Int) : Ta := if tOk t ∧ 0 ≤ c ∧ c < t.w then scanT t c.toNat lo hi else ⟨0, []⟩
open Classical in
noncomputable def scanB (t : Ta) (c : Int) : Bool := decide (tOk t ∧ 0 ≤ c ∧ c < t.w)
theorem scan_at {t : Ta} {c lo hi : Int} (h : tOk t ∧ 0 ≤ c ∧ c < t.w) : scanA t c lo hi = scanT t c.toNat lo hi ∧ scanB t c = true := ⟨if_pos h, decide_eq_true h⟩
theorem scan_no {t : Ta} {c lo hi : Int} (h : ¬ (tOk t ∧ 0 ≤ c ∧ c < t.w)) : scanA t c lo hi = ⟨0, []⟩ ∧ scanB t c = false := ⟨if_neg h, decide_eq_false h⟩
theorem scan_sz (t : Ta) (hsz : rsz t.rows ≤ 1048576) (c lo hi : Int) : rsz (scanA t c lo hi).rows ≤ 1048576 := by
  by_cases h : tOk t ∧ 0 ≤ c ∧ c < t.w
  · rw [(scan_at h).1]
    exact Nat.le_trans (rsz_sub (scan_sub t c.toNat lo hi)) hsz
  · rw [(scan_no h).1]; exact Nat.zero_le _
theorem ScanRange_spec (t : Ta) (hsz : rsz t.rows ≤ 1048576) (c lo hi : Int) : Does Try.prog 24 [] [taD t, I c, rngD lo hi] (.tup [taD (scanA t c lo hi), Bo (scanB t c)]) [] := by
  by_cases h : tOk t ∧ 0 ≤ c ∧ c < t.w
  · rw [(scan_at h).1, (scan_at (lo := lo) (hi := hi) h).2]
    obtain ⟨n, rfl⟩ : ∃ n : Nat, c = n := ⟨c.toNat, by omega⟩
    exact ScanRange_spec_t hsz h.1 h.2.2
  · rw [(scan_no h).1, (scan_no (lo := lo) (hi := hi) h).2]
    exact ScanRange_spec_F hsz h
theorem ScanRange_impl (t : Ta) (hsz : rsz t.rows ≤ 1048576) (c lo hi : Int) : Does Try.prog 26 [] [taD t, I c, rngD lo hi] (.tup [taD (scanA t c lo hi), Bo (scanB t c)]) [] := by
  by_cases h : tOk t ∧ 0 ≤ c ∧ c < t.w
  · rw [(scan_at h).1, (scan_at (lo := lo) (hi := hi) h).2]
    obtain ⟨n, rfl⟩ : ∃ n : Nat, c = n := ⟨c.toNat, by omega⟩
    exact ScanRange_impl_t hsz h.1 h.2.2
  · rw [(scan_no h).1, (scan_no (lo := lo) (hi := hi) h).2]
    exact ScanRange_impl_f hsz h
theorem ScanRange_rc (t : Ta) (hsz : rsz t.rows ≤ 1048576) (c lo hi : Int) : RCalls Try.prog 26 [] [taD t, I c, rngD lo hi] [⟨0, 1, (scanA t c lo hi).rows.map rowD⟩] 1 (.tup [tK 0 (scanA t c lo hi), Bo (scanB t c)]) := by
  have hds : D.purL [taD t, I c, rngD lo hi] = true := by rw [D.purL, taD_pur]; rfl
  by_cases h : tOk t ∧ 0 ≤ c ∧ c < t.w
  · obtain ⟨n, rfl⟩ : ∃ n : Nat, c = n := ⟨c.toNat, by omega⟩
    rw [(scan_at h).1, (scan_at (lo := lo) (hi := hi) h).2, Int.toNat_natCast]
    obtain ⟨w, hw, hw6, hr, ha, hl4⟩ := tOk_nat h.1
    have h1 := hasColumn_ok t hsz n
    rw [@decide_eq_true _ (Classical.propDecidable _) h] at h1
    have hsub := scan_sub t n lo hi
    have h2 := filterR_ok t.rows (by omega) 65 (by kernel_rfl) n lo hi (inR lo hi n) (fun x hx => by
      have hxw := hr x hx
      exact keep_ok (List.getElem?_eq_getElem (i := n) (by omega)) (by omega))
    rw [show t.rows.filter (inR lo hi n) = (scanT t n lo hi).rows from rfl] at h2
    have h3 := cloneRows_rc (scanT t n lo hi).rows (fun r hm => by have := (hr r (hsub.subset hm)).1; omega) (by have := hsub.length_le; omega)
    refine rcT_of c_impl_ScanRange mixed (scanT t n lo hi) true (Nat.le_of_ble_eq_true rfl) (fun m0 => ?_)
    rcases kD_two 0 1 ((scanT t n lo hi).rows.map rowD) with k1 | k1
    all_goals (
      conv => arg 3; whnf
      repeat' (first | with_reducible refine acc_none ?_ | (conv in hold _ => simp (disch := omega) only [go_sem]) | refine Stp.go ?_ | (with_reducible first | refine it_pos rfl ?_ | refine it_neg (by decide) ?_ | refine st_nil rfl ?_ | refine s_op ?_ ?_ | exact True.intro) | ((with_reducible first | refine dw_reg0 ?_ | refine dw_regB ?_); (conv => arg 3; whnf)) | (refine Spl.go (fun hq he => ?_) (fun hq he => ?_) <;> first | (exfalso; clear hq; omega) | ((try (first | (conv => arg 8; simp only [hq]) | (conv => arg 4; simp only [hq]))); clear hq)) | ((with_reducible first | refine c_split (fun hq => ?_) (fun hq => ?_) | refine q_split (fun hq => ?_) (fun hq => ?_)) <;> (try (first | (conv => arg 8; simp only [hq]) | (conv => arg 4; simp only [hq])))) | (with_reducible refine fin_0 ?_ (by first | rfl | (conv => lhs; simp only [go_sem])) ?_) | exact Sub.refl _ | omega)
      refine c_doesE (h1) ?_ ?_ ?_
      · ((try (conv => rhs; simp (disch := omega) only [go_sem])); try rfl)
      · first | rfl | (conv => lhs; simp only [go_sem])
      repeat' (first | with_reducible refine acc_none ?_ | (conv in hold _ => simp (disch := omega) only [go_sem]) | refine Stp.go ?_ | (with_reducible first | refine it_pos rfl ?_ | refine it_neg (by decide) ?_ | refine st_nil rfl ?_ | refine s_op ?_ ?_ | exact True.intro) | ((with_reducible first | refine dw_reg0 ?_ | refine dw_regB ?_); (conv => arg 3; whnf)) | (refine Spl.go (fun hq he => ?_) (fun hq he => ?_) <;> first | (exfalso; clear hq; omega) | ((try (first | (conv => arg 8; simp only [hq]) | (conv => arg 4; simp only [hq]))); clear hq)) | ((with_reducible first | refine c_split (fun hq => ?_) (fun hq => ?_) | refine q_split (fun hq => ?_) (fun hq => ?_)) <;> (try (first | (conv => arg 8; simp only [hq]) | (conv => arg 4; simp only [hq])))) | (with_reducible refine fin_0 ?_ (by first | rfl | (conv => lhs; simp only [go_sem])) ?_) | exact Sub.refl _ | omega)
      refine c_doesR [2000004, 2000008] (h2) (callOK_of rfl (Nat.le_of_ble_eq_true rfl) rfl ?_ ?_) ?_ ?_
      · repeat' (first | (conv in hold _ => simp (disch := omega) only [go_sem]) | exact True.intro | exact Sub.refl _ | omega)
      · repeat' (first | (conv in hold _ => simp (disch := omega) only [go_sem]) | exact True.intro | exact Sub.refl _ | omega)
      · ((conv => rhs; simp (disch := omega) only [go_sem]); try rfl)
      repeat' ((fail_if_success (with_reducible first | refine s_call ?_ | refine s_cal ?_ | refine s_inv ?_)); first | with_reducible refine acc_none ?_ | (conv in hold _ => simp (disch := omega) only [go_sem]) | refine Stp.go ?_ | (with_reducible first | refine it_pos rfl ?_ | refine it_neg (by decide) ?_ | refine st_nil rfl ?_ | refine s_op ?_ ?_ | exact True.intro) | ((with_reducible first | refine dw_reg0 ?_ | refine dw_regB ?_); (conv => arg 3; whnf)) | (refine Spl.go (fun hq he => ?_) (fun hq he => ?_) <;> first | (exfalso; clear hq; omega) | ((try (first | (conv => arg 8; simp only [hq]) | (conv => arg 4; simp only [hq]))); clear hq)) | ((with_reducible first | refine c_split (fun hq => ?_) (fun hq => ?_) | refine q_split (fun hq => ?_) (fun hq => ?_)) <;> (try (first | (conv => arg 8; simp only [hq]) | (conv => arg 4; simp only [hq])))) | (with_reducible refine fin_0 ?_ (by first | rfl | (conv => lhs; simp only [go_sem])) ?_) | exact Sub.refl _ | omega)
      refine s_cln h3 (by ((conv => lhs; simp (disch := omega) only [go_sem]); try rfl)) (by ((conv => lhs; simp (disch := omega) only [go_sem]); try rfl)) k1 ?_
      repeat' (first | with_reducible refine acc_none ?_ | (conv in hold _ => simp (disch := omega) only [go_sem]) | refine Stp.go ?_ | (with_reducible first | refine it_pos rfl ?_ | refine it_neg (by decide) ?_ | refine st_nil rfl ?_ | refine s_op ?_ ?_ | exact True.intro) | ((with_reducible first | refine dw_reg0 ?_ | refine dw_regB ?_); (conv => arg 3; whnf)) | (refine Spl.go (fun hq he => ?_) (fun hq he => ?_) <;> first | (exfalso; clear hq; omega) | ((try (first | (conv => arg 8; simp only [hq]) | (conv => arg 4; simp only [hq]))); clear hq)) | ((with_reducible first | refine c_split (fun hq => ?_) (fun hq => ?_) | refine q_split (fun hq => ?_) (fun hq => ?_)) <;> (try (first | (conv => arg 8; simp only [hq]) | (conv => arg 4; simp only [hq])))) | (with_reducible refine fin_0 ?_ (by first | rfl | (conv => lhs; simp only [go_sem])) ?_) | exact Sub.refl _ | omega)
      refine fin_RC (by ((conv => lhs; simp (disch := omega) only [go_sem]); try rfl)) ?_ ?_
      · repeat' (first | (conv in hold _ => simp (disch := omega) only [go_sem]) | exact True.intro | exact Sub.refl _ | omega)
      · unfold tK
        rw [k1]
        (try simp only [List.length_map])
        exact (by ((conv => lhs; simp (disch := omega) only [go_sem]); try rfl)))
  · rw [(scan_no h).1, (scan_no (lo := lo) (hi := hi) h).2]
    exact (rcalls_nil (post := [⟨0, 1, []⟩]) (top' := 0) (ScanRange_impl_f hsz h) hds rfl (fun it hit => by obtain rfl := List.mem_singleton.1 hit; rfl)).top (by omega)
end Go.Proofs.Ytedmegmhjmabcaa
