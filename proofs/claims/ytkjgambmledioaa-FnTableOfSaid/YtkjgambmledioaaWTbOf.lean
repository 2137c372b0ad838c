/-
  The law that a table does not depend on the order of its rows. No condition.
-/
import Derived.Test.YtkjgambmledioaaDcWTbOf
import Derived.Test.YtkjgambmledioaaDcWTbOf2
import Derived.Test.YtkjgambmledioaaDca
import Derived.Test.YtkjgambmledioaaVTbS
import Derived.Test.YtkjgambmledioaaVDrawTc
import Derived.Test.YtkjgambmledioaaVEqT
import Derived.Test.YtkjgambmledioaaVLaw
set_option maxHeartbeats 4000000
set_option maxRecDepth 100000
set_option linter.unusedVariables false
set_option linter.unusedSimpArgs false
namespace Go.Proofs.Ytkjgambmledioaa
open Go.RowKit

theorem nearRow {v : V} (h : v.ok) : v.near := ⟨by have := h.lo; omega, by have := h.hi; omega⟩
theorem DrawTableOf_ok (cs : List Nat) (hc : ∀ b, b ∈ cs → b < 256) : ∃ (x : Int) (rs : List (List V)), Does Try.prog 13 [] [bytesD cs] (.tup [I x, rowsD rs]) [] ∧ (rs.length ≤ 8 ∧ ∀ r, r ∈ rs → r.length ≤ 10) ∧ (0 ≤ x ∧ x ≤ 7) := by
  have hs : Src (cs.take 2000) := ⟨fun b hb => hc b (List.mem_of_mem_take hb), by rw [List.length_take]; omega⟩
  have hr := newReader_ok cs
  obtain ⟨k, hk, k0, k1, _⟩ := pick_ok hs 0 (by omega) 3 (by omega)
  have hk1 := k1 (by omega)
  obtain ⟨m, rfl⟩ := Int.eq_ofNat_of_zero_le k0
  obtain ⟨n, hn, n0, n1, _⟩ := pick_ok hs 1 (by omega) 8 (by omega)
  have hn1 := n1 (by omega)
  obtain ⟨n, rfl⟩ := Int.eq_ofNat_of_zero_le n0
  have hnw : n * ((1 + m) * 2) ≤ 8 * 6 := Nat.mul_le_mul (by omega) (by omega)
  obtain ⟨rs, ps, hl, h0, hd, hp0, hp1⟩ := draws (fun p (v : List V) q => Does Try.prog 42 [rdD (cs.take 2000) p] [.ref 1000000 0, I ((1 + m : Nat) : Int)] (rowD v) [rdD (cs.take 2000) q] ∧ v.length = 1 + m ∧ ∀ u, u ∈ v → u.ok) 800000000 ((1 + m) * 2) (fun p hp => randomRow_fz hs (1 + m) (by omega) p hp) n 2 (by omega)
  have hrw : RsW (1 + m) rs := fun r hr => by
    obtain ⟨i, hi⟩ := List.mem_iff_getElem?.1 hr
    exact (hd i r hi).2
  generalize hpn : ps n = p at hp0 hp1
  -- whether a row is replaced
  have hcase : ∃ (R : List (List V)) (q : Nat), (R.length = n ∧ q < 100000 ∧ ∀ r, r ∈ R → r.length ≤ 10) ∧ ((n = 0 ∧ R = rs ∧ q = p) ∨ (∃ j : Int, Does Try.prog 41 [rdD (cs.take 2000) p] [.ref 1000000 0, I 8] (I j) [rdD (cs.take 2000) (p + 1)] ∧ 0 < n ∧ ((j ≠ 0 ∧ R = rs ∧ q = p + 1) ∨ (j = 0 ∧ ∃ (i : Nat) (x : List V), Does Try.prog 41 [rdD (cs.take 2000) (p + 1)] [.ref 1000000 0, I (n : Int)] (I i) [rdD (cs.take 2000) (p + 2)] ∧ i < n ∧ Does Try.prog 43 [rdD (cs.take 2000) (p + 2)] [.ref 1000000 0, I ((1 + m : Nat) : Int)] (rowD x) [rdD (cs.take 2000) q] ∧ R = rs.set i x)))) := by
    by_cases hn0 : n = 0
    · exact ⟨rs, p, ⟨hl, by omega, fun r hr => by have := (hrw r hr).1; omega⟩, .inl ⟨hn0, rfl, rfl⟩⟩
    · obtain ⟨j, hj, _⟩ := pick_ok hs p (by omega) 8 (by omega)
      by_cases hj0 : j = 0
      · obtain ⟨i, hi, i0, i1, _⟩ := pick_ok hs (p + 1) (by omega) (n : Int) (by omega)
        have hi1 := i1 (by omega)
        obtain ⟨i, rfl⟩ := Int.eq_ofNat_of_zero_le i0
        obtain ⟨x, q, ⟨hx, hxl, _⟩, x0, x1⟩ := anyRow_ok hs (1 + m) (by omega) (by omega) (p + 2) (by omega)
        refine ⟨rs.set i x, q, ⟨by rw [List.length_set]; exact hl, by omega, fun r hr => ?_⟩, .inr ⟨j, hj, by omega, .inr ⟨hj0, i, x, hi, by omega, hx, rfl⟩⟩⟩
        rcases List.mem_or_eq_of_mem_set hr with hr | rfl
        · have := (hrw r hr).1
          omega
        · omega
      · exact ⟨rs, p + 1, ⟨hl, by omega, fun r hr => by have := (hrw r hr).1; omega⟩, .inr ⟨j, hj, by omega, .inl ⟨hj0, rfl, rfl⟩⟩⟩
  obtain ⟨R, q, ⟨hRl, hq, hRr⟩, hcase⟩ := hcase
  obtain ⟨z, hz, _⟩ := pick_ok hs q (by omega) 16 (by omega)
  obtain ⟨y, hy, hym⟩ := one_ok hs (q + 1) (by omega) [0, 7, 2] (by decide) (by decide)
  simp only [List.mem_cons, List.not_mem_nil, or_false] at hym
  have hX : ∃ X : Int, (z = 0 ∧ X = y) ∨ (z ≠ 0 ∧ X = ((1 + m : Nat) : Int)) := by
    by_cases h : z = 0
    · exact ⟨y, .inl ⟨h, rfl⟩⟩
    · exact ⟨_, .inr ⟨h, rfl⟩⟩
  obtain ⟨X, hX⟩ := hX
  refine ⟨X, R, ?_, ⟨by omega, hRr⟩, by omega⟩
  have hc1 : ((1 + m : Nat) : Int) = 1 + (m : Int) := by omega
  have hRt : (R.map rowD).take n = R.map rowD := by rw [← hRl]; exact take_all rowD R
  rw [hc1] at hX hcase
  rw [hc1] at hd
  refine does0 c_spec_DrawTableOf mixed (Nat.le_of_ble_eq_true rfl) ?_
  conv => arg 3; whnf
  repeat' (first | with_reducible refine acc_none ?_ | (conv in hold _ => simp (disch := omega) only [go_sem]) | refine Stp.go ?_ | (with_reducible first | refine it_pos rfl ?_ | refine it_neg (by decide) ?_ | refine st_nil rfl ?_ | refine s_op ?_ ?_ | exact True.intro) | ((with_reducible first | refine dw_reg0 ?_ | refine dw_regB ?_); (conv => arg 3; whnf)) | (refine Spl.go (fun hq he => ?_) (fun hq he => ?_) <;> first | (exfalso; clear hq; omega) | ((try (first | (conv => arg 8; simp only [hq]) | (conv => arg 4; simp only [hq]))); clear hq)) | ((with_reducible first | refine c_split (fun hq => ?_) (fun hq => ?_) | refine q_split (fun hq => ?_) (fun hq => ?_)) <;> (try (first | (conv => arg 8; simp only [hq]) | (conv => arg 4; simp only [hq])))) | (with_reducible refine fin_0 ?_ (by first | rfl | (conv => lhs; simp only [go_sem])) ?_) | exact Sub.refl _ | omega)
  refine c_doesR [3000001] (hr) (callOK_of rfl (Nat.le_of_ble_eq_true rfl) rfl ?_ ?_) ?_ ?_
  · repeat' (first | (conv in hold _ => simp (disch := omega) only [go_sem]) | exact True.intro | exact Sub.refl _ | omega)
  · repeat' (first | (conv in hold _ => simp (disch := omega) only [go_sem]) | exact True.intro | exact Sub.refl _ | omega)
  · ((conv => rhs; simp (disch := omega) only [go_sem]); try rfl)
  repeat' (first | with_reducible refine acc_none ?_ | (conv in hold _ => simp (disch := omega) only [go_sem]) | refine Stp.go ?_ | (with_reducible first | refine it_pos rfl ?_ | refine it_neg (by decide) ?_ | refine st_nil rfl ?_ | refine s_op ?_ ?_ | exact True.intro) | ((with_reducible first | refine dw_reg0 ?_ | refine dw_regB ?_); (conv => arg 3; whnf)) | (refine Spl.go (fun hq he => ?_) (fun hq he => ?_) <;> first | (exfalso; clear hq; omega) | ((try (first | (conv => arg 8; simp only [hq]) | (conv => arg 4; simp only [hq]))); clear hq)) | ((with_reducible first | refine c_split (fun hq => ?_) (fun hq => ?_) | refine q_split (fun hq => ?_) (fun hq => ?_)) <;> (try (first | (conv => arg 8; simp only [hq]) | (conv => arg 4; simp only [hq])))) | (with_reducible refine fin_0 ?_ (by first | rfl | (conv => lhs; simp only [go_sem])) ?_) | exact Sub.refl _ | omega)
  refine c_doesR [3000001] (hk) (callOK_of rfl (Nat.le_of_ble_eq_true rfl) rfl ?_ ?_) ?_ ?_
  · repeat' (first | (conv in hold _ => simp (disch := omega) only [go_sem]) | exact True.intro | exact Sub.refl _ | omega)
  · repeat' (first | (conv in hold _ => simp (disch := omega) only [go_sem]) | exact True.intro | exact Sub.refl _ | omega)
  · ((conv => rhs; simp (disch := omega) only [go_sem]); try rfl)
  repeat' (first | with_reducible refine acc_none ?_ | (conv in hold _ => simp (disch := omega) only [go_sem]) | refine Stp.go ?_ | (with_reducible first | refine it_pos rfl ?_ | refine it_neg (by decide) ?_ | refine st_nil rfl ?_ | refine s_op ?_ ?_ | exact True.intro) | ((with_reducible first | refine dw_reg0 ?_ | refine dw_regB ?_); (conv => arg 3; whnf)) | (refine Spl.go (fun hq he => ?_) (fun hq he => ?_) <;> first | (exfalso; clear hq; omega) | ((try (first | (conv => arg 8; simp only [hq]) | (conv => arg 4; simp only [hq]))); clear hq)) | ((with_reducible first | refine c_split (fun hq => ?_) (fun hq => ?_) | refine q_split (fun hq => ?_) (fun hq => ?_)) <;> (try (first | (conv => arg 8; simp only [hq]) | (conv => arg 4; simp only [hq])))) | (with_reducible refine fin_0 ?_ (by first | rfl | (conv => lhs; simp only [go_sem])) ?_) | exact Sub.refl _ | omega)
  refine c_doesR [3000001] (hn) (callOK_of rfl (Nat.le_of_ble_eq_true rfl) rfl ?_ ?_) ?_ ?_
  · repeat' (first | (conv in hold _ => simp (disch := omega) only [go_sem]) | exact True.intro | exact Sub.refl _ | omega)
  · repeat' (first | (conv in hold _ => simp (disch := omega) only [go_sem]) | exact True.intro | exact Sub.refl _ | omega)
  · ((conv => rhs; simp (disch := omega) only [go_sem]); try rfl)
  repeat' (first | with_reducible refine acc_none ?_ | (conv in hold _ => simp (disch := omega) only [go_sem]) | refine Stp.go ?_ | (with_reducible first | refine it_pos rfl ?_ | refine it_neg (by decide) ?_ | refine st_nil rfl ?_ | refine s_op ?_ ?_ | exact True.intro) | ((with_reducible first | refine dw_reg0 ?_ | refine dw_regB ?_); (conv => arg 3; whnf)) | (refine Spl.go (fun hq he => ?_) (fun hq he => ?_) <;> first | (exfalso; clear hq; omega) | ((try (first | (conv => arg 8; simp only [hq]) | (conv => arg 4; simp only [hq]))); clear hq)) | ((with_reducible first | refine c_split (fun hq => ?_) (fun hq => ?_) | refine q_split (fun hq => ?_) (fun hq => ?_)) <;> (try (first | (conv => arg 8; simp only [hq]) | (conv => arg 4; simp only [hq])))) | (with_reducible refine fin_0 ?_ (by first | rfl | (conv => lhs; simp only [go_sem])) ?_) | exact Sub.refl _ | omega)
  refine dw_for (c := 2) (l := fun i => [(4, .ref 1000000 0), (5, I (1 + (m : Int))), (6, .own 1000001 1 i), (7, I ((n : Int) - i)), (1000000, rdD (cs.take 2000) (ps i)), (1000001, .row 1 ((rs.take i).map rowD))]) n (fun _ => True) 0 trivial ((wk_row 6 2000090 1 (by decide) (by decide) rfl rfl).trans (Wk.list [3000001, 2000090] rfl rfl ?_)) (fun i hi _ => ?_) (Nat.zero_le _)
  · rw [h0]
    repeat' (first | (conv in hold _ => simp (disch := omega) only [go_sem]) | exact True.intro | exact Sub.refl _ | omega)
    exact congrArg (fun n => D.v (Value.int .i64 n)) (by omega)
  · have htl := take_len (vs := rs) (i := i) (by omega)
    have hmk := take_map rowD (vs := rs) (i := i) (by omega)
    by_cases hlt : i < n
    · obtain ⟨x, hx⟩ : ∃ x, rs[i]? = some x := ⟨_, List.getElem?_eq_getElem (by omega)⟩
      have hdi := (hd i x hx).1
      have hnx := take_next hx
      repeat' (first | with_reducible refine acc_none ?_ | (conv in hold _ => simp (disch := omega) only [go_sem]) | refine Stp.go ?_ | (with_reducible first | refine it_pos rfl ?_ | refine it_neg (by decide) ?_ | refine st_nil rfl ?_ | refine s_op ?_ ?_ | exact True.intro) | ((with_reducible first | refine dw_reg0 ?_ | refine dw_regB ?_); (conv => arg 3; whnf)) | (refine Spl.go (fun hq he => ?_) (fun hq he => ?_) <;> first | (exfalso; clear hq; omega) | ((try (first | (conv => arg 8; simp only [hq]) | (conv => arg 4; simp only [hq]))); clear hq)) | ((with_reducible first | refine c_split (fun hq => ?_) (fun hq => ?_) | refine q_split (fun hq => ?_) (fun hq => ?_)) <;> (try (first | (conv => arg 8; simp only [hq]) | (conv => arg 4; simp only [hq])))) | (with_reducible refine fin_0 ?_ (by first | rfl | (conv => lhs; simp only [go_sem])) ?_) | exact Sub.refl _ | omega)
      refine c_doesR [1000000] (hdi) (callOK_of rfl (Nat.le_of_ble_eq_true rfl) rfl ?_ ?_) ?_ ?_
      · repeat' (first | (conv in hold _ => simp (disch := omega) only [go_sem]) | exact True.intro | exact Sub.refl _ | omega)
      · repeat' (first | (conv in hold _ => simp (disch := omega) only [go_sem]) | exact True.intro | exact Sub.refl _ | omega)
      · ((conv => rhs; simp (disch := omega) only [go_sem]); try rfl)
      repeat' (first | with_reducible refine acc_none ?_ | (conv in hold _ => simp (disch := omega) only [go_sem]) | refine Stp.go ?_ | (with_reducible first | refine it_pos rfl ?_ | refine it_neg (by decide) ?_ | refine st_nil rfl ?_ | refine s_op ?_ ?_ | exact True.intro) | ((with_reducible first | refine dw_reg0 ?_ | refine dw_regB ?_); (conv => arg 3; whnf)) | (refine Spl.go (fun hq he => ?_) (fun hq he => ?_) <;> first | (exfalso; clear hq; omega) | ((try (first | (conv => arg 8; simp only [hq]) | (conv => arg 4; simp only [hq]))); clear hq)) | ((with_reducible first | refine c_split (fun hq => ?_) (fun hq => ?_) | refine q_split (fun hq => ?_) (fun hq => ?_)) <;> (try (first | (conv => arg 8; simp only [hq]) | (conv => arg 4; simp only [hq])))) | (with_reducible refine fin_0 ?_ (by first | rfl | (conv => lhs; simp only [go_sem])) ?_) | exact Sub.refl _ | omega)
      refine ⟨hlt, trivial, Wk.list [1000000, 2000025] rfl rfl ?_⟩
      repeat' (first | (conv in hold _ => simp (disch := omega) only [go_sem, List.length_map, htl]) | exact True.intro | exact Sub.refl _ | omega)
      refine ⟨congrArg (fun n => D.v (Value.int .i64 n)) (by omega), ?_⟩
      rw [hmk, hnx, List.map_append]
      rfl
    · obtain rfl : i = n := by omega
      have e1 : rs.take i = rs := List.take_of_length_le (by omega)
      rw [hpn]
      rcases hcase with ⟨hn0, rfl, rfl⟩ | ⟨j, hj, hn0, ⟨hj0, rfl, rfl⟩ | ⟨hj0, a, x, ha, han, hx, rfl⟩⟩
      · rcases hX with ⟨hz0, rfl⟩ | ⟨hz0, rfl⟩
        · repeat' (first | with_reducible refine acc_none ?_ | (conv in hold _ => simp (disch := omega) only [go_sem, e1]) | refine Stp.go ?_ | (with_reducible first | refine it_pos rfl ?_ | refine it_neg (by decide) ?_ | refine st_nil rfl ?_ | refine s_op ?_ ?_ | exact True.intro) | ((with_reducible first | refine dw_reg0 ?_ | refine dw_regB ?_); (conv => arg 3; whnf)) | (refine Spl.go (fun hq he => ?_) (fun hq he => ?_) <;> first | (exfalso; clear hq; omega) | ((try (first | (conv => arg 8; simp only [hq]) | (conv => arg 4; simp only [hq]))); clear hq)) | ((with_reducible first | refine c_split (fun hq => ?_) (fun hq => ?_) | refine q_split (fun hq => ?_) (fun hq => ?_)) <;> (try (first | (conv => arg 8; simp only [hq]) | (conv => arg 4; simp only [hq])))) | exact Sub.refl _ | omega)
          refine c_doesR [1000000] (hz) (callOK_of rfl (Nat.le_of_ble_eq_true rfl) rfl ?_ ?_) ?_ ?_
          · repeat' (first | (conv in hold _ => simp (disch := omega) only [go_sem]) | exact True.intro | exact Sub.refl _ | omega)
          · repeat' (first | (conv in hold _ => simp (disch := omega) only [go_sem]) | exact True.intro | exact Sub.refl _ | omega)
          · ((conv => rhs; simp (disch := omega) only [go_sem]); try rfl)
          repeat' (first | with_reducible refine acc_none ?_ | (conv in hold _ => simp (disch := omega) only [go_sem]) | refine Stp.go ?_ | (with_reducible first | refine it_pos rfl ?_ | refine it_neg (by decide) ?_ | refine st_nil rfl ?_ | refine s_op ?_ ?_ | exact True.intro) | ((with_reducible first | refine dw_reg0 ?_ | refine dw_regB ?_); (conv => arg 3; whnf)) | (refine Spl.go (fun hq he => ?_) (fun hq he => ?_) <;> first | (exfalso; clear hq; omega) | ((try (first | (conv => arg 8; simp only [hq]) | (conv => arg 4; simp only [hq]))); clear hq)) | ((with_reducible first | refine c_split (fun hq => ?_) (fun hq => ?_) | refine q_split (fun hq => ?_) (fun hq => ?_)) <;> (try (first | (conv => arg 8; simp only [hq]) | (conv => arg 4; simp only [hq])))) | exact Sub.refl _ | omega)
          refine c_doesR [1000000] (hy) (callOK_of rfl (Nat.le_of_ble_eq_true rfl) rfl ?_ ?_) ?_ ?_
          · repeat' (first | (conv in hold _ => simp (disch := omega) only [go_sem]) | exact True.intro | exact Sub.refl _ | omega)
          · repeat' (first | (conv in hold _ => simp (disch := omega) only [go_sem]) | exact True.intro | exact Sub.refl _ | omega)
          · ((conv => rhs; simp (disch := omega) only [go_sem]); try rfl)
          repeat' (first | with_reducible refine acc_none ?_ | (conv in hold _ => simp (disch := omega) only [go_sem]) | refine Stp.go ?_ | (with_reducible first | refine it_pos rfl ?_ | refine it_neg (by decide) ?_ | refine st_nil rfl ?_ | refine s_op ?_ ?_ | exact True.intro) | ((with_reducible first | refine dw_reg0 ?_ | refine dw_regB ?_); (conv => arg 3; whnf)) | (refine Spl.go (fun hq he => ?_) (fun hq he => ?_) <;> first | (exfalso; clear hq; omega) | ((try (first | (conv => arg 8; simp only [hq]) | (conv => arg 4; simp only [hq]))); clear hq)) | ((with_reducible first | refine c_split (fun hq => ?_) (fun hq => ?_) | refine q_split (fun hq => ?_) (fun hq => ?_)) <;> (try (first | (conv => arg 8; simp only [hq]) | (conv => arg 4; simp only [hq])))) | exact Sub.refl _ | omega)
          refine fin_wk (wk_frz 3 1000001 (by decide) (by decide) rfl ?_) ?_
          rotate_left
          (conv in hold _ => simp (disch := omega) only [go_sem, hRt, hRl, List.length_map, Nat.le_refl])
          · refine fin_L [] ?_ ?_ rfl ?_
            repeat' (first | (conv in hold _ => simp (disch := omega) only [go_sem]) | exact True.intro | exact Sub.refl _ | omega)
          · exact rows_pur _
        · repeat' (first | with_reducible refine acc_none ?_ | (conv in hold _ => simp (disch := omega) only [go_sem, e1]) | refine Stp.go ?_ | (with_reducible first | refine it_pos rfl ?_ | refine it_neg (by decide) ?_ | refine st_nil rfl ?_ | refine s_op ?_ ?_ | exact True.intro) | ((with_reducible first | refine dw_reg0 ?_ | refine dw_regB ?_); (conv => arg 3; whnf)) | (refine Spl.go (fun hq he => ?_) (fun hq he => ?_) <;> first | (exfalso; clear hq; omega) | ((try (first | (conv => arg 8; simp only [hq]) | (conv => arg 4; simp only [hq]))); clear hq)) | ((with_reducible first | refine c_split (fun hq => ?_) (fun hq => ?_) | refine q_split (fun hq => ?_) (fun hq => ?_)) <;> (try (first | (conv => arg 8; simp only [hq]) | (conv => arg 4; simp only [hq])))) | exact Sub.refl _ | omega)
          refine c_doesR [1000000] (hz) (callOK_of rfl (Nat.le_of_ble_eq_true rfl) rfl ?_ ?_) ?_ ?_
          · repeat' (first | (conv in hold _ => simp (disch := omega) only [go_sem]) | exact True.intro | exact Sub.refl _ | omega)
          · repeat' (first | (conv in hold _ => simp (disch := omega) only [go_sem]) | exact True.intro | exact Sub.refl _ | omega)
          · ((conv => rhs; simp (disch := omega) only [go_sem]); try rfl)
          repeat' (first | with_reducible refine acc_none ?_ | (conv in hold _ => simp (disch := omega) only [go_sem]) | refine Stp.go ?_ | (with_reducible first | refine it_pos rfl ?_ | refine it_neg (by decide) ?_ | refine st_nil rfl ?_ | refine s_op ?_ ?_ | exact True.intro) | ((with_reducible first | refine dw_reg0 ?_ | refine dw_regB ?_); (conv => arg 3; whnf)) | (refine Spl.go (fun hq he => ?_) (fun hq he => ?_) <;> first | (exfalso; clear hq; omega) | ((try (first | (conv => arg 8; simp only [hq]) | (conv => arg 4; simp only [hq]))); clear hq)) | ((with_reducible first | refine c_split (fun hq => ?_) (fun hq => ?_) | refine q_split (fun hq => ?_) (fun hq => ?_)) <;> (try (first | (conv => arg 8; simp only [hq]) | (conv => arg 4; simp only [hq])))) | exact Sub.refl _ | omega)
          refine fin_wk (wk_frz 3 1000001 (by decide) (by decide) rfl ?_) ?_
          rotate_left
          (conv in hold _ => simp (disch := omega) only [go_sem, hRt, hRl, List.length_map, Nat.le_refl])
          · refine fin_L [] ?_ ?_ rfl ?_
            repeat' (first | (conv in hold _ => simp (disch := omega) only [go_sem]) | exact True.intro | exact Sub.refl _ | omega)
          · exact rows_pur _
      · rcases hX with ⟨hz0, rfl⟩ | ⟨hz0, rfl⟩
        · repeat' (first | with_reducible refine acc_none ?_ | (conv in hold _ => simp (disch := omega) only [go_sem, e1]) | refine Stp.go ?_ | (with_reducible first | refine it_pos rfl ?_ | refine it_neg (by decide) ?_ | refine st_nil rfl ?_ | refine s_op ?_ ?_ | exact True.intro) | ((with_reducible first | refine dw_reg0 ?_ | refine dw_regB ?_); (conv => arg 3; whnf)) | (refine Spl.go (fun hq he => ?_) (fun hq he => ?_) <;> first | (exfalso; clear hq; omega) | ((try (first | (conv => arg 8; simp only [hq]) | (conv => arg 4; simp only [hq]))); clear hq)) | ((with_reducible first | refine c_split (fun hq => ?_) (fun hq => ?_) | refine q_split (fun hq => ?_) (fun hq => ?_)) <;> (try (first | (conv => arg 8; simp only [hq]) | (conv => arg 4; simp only [hq])))) | exact Sub.refl _ | omega)
          refine c_doesR [1000000] (hj) (callOK_of rfl (Nat.le_of_ble_eq_true rfl) rfl ?_ ?_) ?_ ?_
          · repeat' (first | (conv in hold _ => simp (disch := omega) only [go_sem]) | exact True.intro | exact Sub.refl _ | omega)
          · repeat' (first | (conv in hold _ => simp (disch := omega) only [go_sem]) | exact True.intro | exact Sub.refl _ | omega)
          · ((conv => rhs; simp (disch := omega) only [go_sem]); try rfl)
          repeat' (first | with_reducible refine acc_none ?_ | (conv in hold _ => simp (disch := omega) only [go_sem]) | refine Stp.go ?_ | (with_reducible first | refine it_pos rfl ?_ | refine it_neg (by decide) ?_ | refine st_nil rfl ?_ | refine s_op ?_ ?_ | exact True.intro) | ((with_reducible first | refine dw_reg0 ?_ | refine dw_regB ?_); (conv => arg 3; whnf)) | (refine Spl.go (fun hq he => ?_) (fun hq he => ?_) <;> first | (exfalso; clear hq; omega) | ((try (first | (conv => arg 8; simp only [hq]) | (conv => arg 4; simp only [hq]))); clear hq)) | ((with_reducible first | refine c_split (fun hq => ?_) (fun hq => ?_) | refine q_split (fun hq => ?_) (fun hq => ?_)) <;> (try (first | (conv => arg 8; simp only [hq]) | (conv => arg 4; simp only [hq])))) | exact Sub.refl _ | omega)
          refine c_doesR [1000000] (hz) (callOK_of rfl (Nat.le_of_ble_eq_true rfl) rfl ?_ ?_) ?_ ?_
          · repeat' (first | (conv in hold _ => simp (disch := omega) only [go_sem]) | exact True.intro | exact Sub.refl _ | omega)
          · repeat' (first | (conv in hold _ => simp (disch := omega) only [go_sem]) | exact True.intro | exact Sub.refl _ | omega)
          · ((conv => rhs; simp (disch := omega) only [go_sem]); try rfl)
          repeat' (first | with_reducible refine acc_none ?_ | (conv in hold _ => simp (disch := omega) only [go_sem]) | refine Stp.go ?_ | (with_reducible first | refine it_pos rfl ?_ | refine it_neg (by decide) ?_ | refine st_nil rfl ?_ | refine s_op ?_ ?_ | exact True.intro) | ((with_reducible first | refine dw_reg0 ?_ | refine dw_regB ?_); (conv => arg 3; whnf)) | (refine Spl.go (fun hq he => ?_) (fun hq he => ?_) <;> first | (exfalso; clear hq; omega) | ((try (first | (conv => arg 8; simp only [hq]) | (conv => arg 4; simp only [hq]))); clear hq)) | ((with_reducible first | refine c_split (fun hq => ?_) (fun hq => ?_) | refine q_split (fun hq => ?_) (fun hq => ?_)) <;> (try (first | (conv => arg 8; simp only [hq]) | (conv => arg 4; simp only [hq])))) | exact Sub.refl _ | omega)
          refine c_doesR [1000000] (hy) (callOK_of rfl (Nat.le_of_ble_eq_true rfl) rfl ?_ ?_) ?_ ?_
          · repeat' (first | (conv in hold _ => simp (disch := omega) only [go_sem]) | exact True.intro | exact Sub.refl _ | omega)
          · repeat' (first | (conv in hold _ => simp (disch := omega) only [go_sem]) | exact True.intro | exact Sub.refl _ | omega)
          · ((conv => rhs; simp (disch := omega) only [go_sem]); try rfl)
          repeat' (first | with_reducible refine acc_none ?_ | (conv in hold _ => simp (disch := omega) only [go_sem]) | refine Stp.go ?_ | (with_reducible first | refine it_pos rfl ?_ | refine it_neg (by decide) ?_ | refine st_nil rfl ?_ | refine s_op ?_ ?_ | exact True.intro) | ((with_reducible first | refine dw_reg0 ?_ | refine dw_regB ?_); (conv => arg 3; whnf)) | (refine Spl.go (fun hq he => ?_) (fun hq he => ?_) <;> first | (exfalso; clear hq; omega) | ((try (first | (conv => arg 8; simp only [hq]) | (conv => arg 4; simp only [hq]))); clear hq)) | ((with_reducible first | refine c_split (fun hq => ?_) (fun hq => ?_) | refine q_split (fun hq => ?_) (fun hq => ?_)) <;> (try (first | (conv => arg 8; simp only [hq]) | (conv => arg 4; simp only [hq])))) | exact Sub.refl _ | omega)
          refine fin_wk (wk_frz 3 1000001 (by decide) (by decide) rfl ?_) ?_
          rotate_left
          (conv in hold _ => simp (disch := omega) only [go_sem, hRt, hRl, List.length_map, Nat.le_refl])
          · refine fin_L [] ?_ ?_ rfl ?_
            repeat' (first | (conv in hold _ => simp (disch := omega) only [go_sem]) | exact True.intro | exact Sub.refl _ | omega)
          · exact rows_pur _
        · repeat' (first | with_reducible refine acc_none ?_ | (conv in hold _ => simp (disch := omega) only [go_sem, e1]) | refine Stp.go ?_ | (with_reducible first | refine it_pos rfl ?_ | refine it_neg (by decide) ?_ | refine st_nil rfl ?_ | refine s_op ?_ ?_ | exact True.intro) | ((with_reducible first | refine dw_reg0 ?_ | refine dw_regB ?_); (conv => arg 3; whnf)) | (refine Spl.go (fun hq he => ?_) (fun hq he => ?_) <;> first | (exfalso; clear hq; omega) | ((try (first | (conv => arg 8; simp only [hq]) | (conv => arg 4; simp only [hq]))); clear hq)) | ((with_reducible first | refine c_split (fun hq => ?_) (fun hq => ?_) | refine q_split (fun hq => ?_) (fun hq => ?_)) <;> (try (first | (conv => arg 8; simp only [hq]) | (conv => arg 4; simp only [hq])))) | exact Sub.refl _ | omega)
          refine c_doesR [1000000] (hj) (callOK_of rfl (Nat.le_of_ble_eq_true rfl) rfl ?_ ?_) ?_ ?_
          · repeat' (first | (conv in hold _ => simp (disch := omega) only [go_sem]) | exact True.intro | exact Sub.refl _ | omega)
          · repeat' (first | (conv in hold _ => simp (disch := omega) only [go_sem]) | exact True.intro | exact Sub.refl _ | omega)
          · ((conv => rhs; simp (disch := omega) only [go_sem]); try rfl)
          repeat' (first | with_reducible refine acc_none ?_ | (conv in hold _ => simp (disch := omega) only [go_sem]) | refine Stp.go ?_ | (with_reducible first | refine it_pos rfl ?_ | refine it_neg (by decide) ?_ | refine st_nil rfl ?_ | refine s_op ?_ ?_ | exact True.intro) | ((with_reducible first | refine dw_reg0 ?_ | refine dw_regB ?_); (conv => arg 3; whnf)) | (refine Spl.go (fun hq he => ?_) (fun hq he => ?_) <;> first | (exfalso; clear hq; omega) | ((try (first | (conv => arg 8; simp only [hq]) | (conv => arg 4; simp only [hq]))); clear hq)) | ((with_reducible first | refine c_split (fun hq => ?_) (fun hq => ?_) | refine q_split (fun hq => ?_) (fun hq => ?_)) <;> (try (first | (conv => arg 8; simp only [hq]) | (conv => arg 4; simp only [hq])))) | exact Sub.refl _ | omega)
          refine c_doesR [1000000] (hz) (callOK_of rfl (Nat.le_of_ble_eq_true rfl) rfl ?_ ?_) ?_ ?_
          · repeat' (first | (conv in hold _ => simp (disch := omega) only [go_sem]) | exact True.intro | exact Sub.refl _ | omega)
          · repeat' (first | (conv in hold _ => simp (disch := omega) only [go_sem]) | exact True.intro | exact Sub.refl _ | omega)
          · ((conv => rhs; simp (disch := omega) only [go_sem]); try rfl)
          repeat' (first | with_reducible refine acc_none ?_ | (conv in hold _ => simp (disch := omega) only [go_sem]) | refine Stp.go ?_ | (with_reducible first | refine it_pos rfl ?_ | refine it_neg (by decide) ?_ | refine st_nil rfl ?_ | refine s_op ?_ ?_ | exact True.intro) | ((with_reducible first | refine dw_reg0 ?_ | refine dw_regB ?_); (conv => arg 3; whnf)) | (refine Spl.go (fun hq he => ?_) (fun hq he => ?_) <;> first | (exfalso; clear hq; omega) | ((try (first | (conv => arg 8; simp only [hq]) | (conv => arg 4; simp only [hq]))); clear hq)) | ((with_reducible first | refine c_split (fun hq => ?_) (fun hq => ?_) | refine q_split (fun hq => ?_) (fun hq => ?_)) <;> (try (first | (conv => arg 8; simp only [hq]) | (conv => arg 4; simp only [hq])))) | exact Sub.refl _ | omega)
          refine fin_wk (wk_frz 3 1000001 (by decide) (by decide) rfl ?_) ?_
          rotate_left
          (conv in hold _ => simp (disch := omega) only [go_sem, hRt, hRl, List.length_map, Nat.le_refl])
          · refine fin_L [] ?_ ?_ rfl ?_
            repeat' (first | (conv in hold _ => simp (disch := omega) only [go_sem]) | exact True.intro | exact Sub.refl _ | omega)
          · exact rows_pur _
      · have hset : (rs.map rowD).set a (rowD x) = (rs.set a x).map rowD := by rw [List.map_set]
        obtain ⟨u, hu⟩ : ∃ u, rs[a]? = some u := ⟨_, List.getElem?_eq_getElem (by omega)⟩
        rw [rowD] at hset
        rcases hX with ⟨hz0, rfl⟩ | ⟨hz0, rfl⟩
        · repeat' (first | with_reducible refine acc_none ?_ | (conv in hold _ => simp (disch := omega) only [go_sem, e1]) | refine Stp.go ?_ | (with_reducible first | refine it_pos rfl ?_ | refine it_neg (by decide) ?_ | refine st_nil rfl ?_ | refine s_op ?_ ?_ | exact True.intro) | ((with_reducible first | refine dw_reg0 ?_ | refine dw_regB ?_); (conv => arg 3; whnf)) | (refine Spl.go (fun hq he => ?_) (fun hq he => ?_) <;> first | (exfalso; clear hq; omega) | ((try (first | (conv => arg 8; simp only [hq]) | (conv => arg 4; simp only [hq]))); clear hq)) | ((with_reducible first | refine c_split (fun hq => ?_) (fun hq => ?_) | refine q_split (fun hq => ?_) (fun hq => ?_)) <;> (try (first | (conv => arg 8; simp only [hq]) | (conv => arg 4; simp only [hq])))) | exact Sub.refl _ | omega)
          refine c_doesR [1000000] (hj) (callOK_of rfl (Nat.le_of_ble_eq_true rfl) rfl ?_ ?_) ?_ ?_
          · repeat' (first | (conv in hold _ => simp (disch := omega) only [go_sem]) | exact True.intro | exact Sub.refl _ | omega)
          · repeat' (first | (conv in hold _ => simp (disch := omega) only [go_sem]) | exact True.intro | exact Sub.refl _ | omega)
          · ((conv => rhs; simp (disch := omega) only [go_sem]); try rfl)
          repeat' (first | with_reducible refine acc_none ?_ | (conv in hold _ => simp (disch := omega) only [go_sem]) | refine Stp.go ?_ | (with_reducible first | refine it_pos rfl ?_ | refine it_neg (by decide) ?_ | refine st_nil rfl ?_ | refine s_op ?_ ?_ | exact True.intro) | ((with_reducible first | refine dw_reg0 ?_ | refine dw_regB ?_); (conv => arg 3; whnf)) | (refine Spl.go (fun hq he => ?_) (fun hq he => ?_) <;> first | (exfalso; clear hq; omega) | ((try (first | (conv => arg 8; simp only [hq]) | (conv => arg 4; simp only [hq]))); clear hq)) | ((with_reducible first | refine c_split (fun hq => ?_) (fun hq => ?_) | refine q_split (fun hq => ?_) (fun hq => ?_)) <;> (try (first | (conv => arg 8; simp only [hq]) | (conv => arg 4; simp only [hq])))) | exact Sub.refl _ | omega)
          refine c_doesR [1000000] (ha) (callOK_of rfl (Nat.le_of_ble_eq_true rfl) rfl ?_ ?_) ?_ ?_
          · repeat' (first | (conv in hold _ => simp (disch := omega) only [go_sem, List.getElem?_map, hu, Option.map_some]) | exact True.intro | exact Sub.refl _ | omega)
          · repeat' (first | (conv in hold _ => simp (disch := omega) only [go_sem, List.getElem?_map, hu, Option.map_some]) | exact True.intro | exact Sub.refl _ | omega)
          · ((conv => rhs; simp (disch := omega) only [go_sem, List.getElem?_map, hu, Option.map_some]); try rfl)
          repeat' (first | with_reducible refine acc_none ?_ | (conv in hold _ => simp (disch := omega) only [go_sem, List.getElem?_map, hu, Option.map_some]) | refine Stp.go ?_ | (with_reducible first | refine it_pos rfl ?_ | refine it_neg (by decide) ?_ | refine st_nil rfl ?_ | refine s_op ?_ ?_ | exact True.intro) | ((with_reducible first | refine dw_reg0 ?_ | refine dw_regB ?_); (conv => arg 3; whnf)) | (refine Spl.go (fun hq he => ?_) (fun hq he => ?_) <;> first | (exfalso; clear hq; omega) | ((try (first | (conv => arg 8; simp only [hq]) | (conv => arg 4; simp only [hq]))); clear hq)) | ((with_reducible first | refine c_split (fun hq => ?_) (fun hq => ?_) | refine q_split (fun hq => ?_) (fun hq => ?_)) <;> (try (first | (conv => arg 8; simp only [hq]) | (conv => arg 4; simp only [hq])))) | exact Sub.refl _ | omega)
          refine c_doesR [1000000] (hx) (callOK_of rfl (Nat.le_of_ble_eq_true rfl) rfl ?_ ?_) ?_ ?_
          · repeat' (first | (conv in hold _ => simp (disch := omega) only [go_sem, List.getElem?_map, hu, Option.map_some, hset]) | exact True.intro | exact Sub.refl _ | omega)
          · repeat' (first | (conv in hold _ => simp (disch := omega) only [go_sem, List.getElem?_map, hu, Option.map_some, hset]) | exact True.intro | exact Sub.refl _ | omega)
          · ((conv => rhs; simp (disch := omega) only [go_sem, List.getElem?_map, hu, Option.map_some, hset]); try rfl)
          repeat' (first | with_reducible refine acc_none ?_ | (conv in hold _ => simp (disch := omega) only [go_sem, List.getElem?_map, hu, Option.map_some, hset]) | refine Stp.go ?_ | (with_reducible first | refine it_pos rfl ?_ | refine it_neg (by decide) ?_ | refine st_nil rfl ?_ | refine s_op ?_ ?_ | exact True.intro) | ((with_reducible first | refine dw_reg0 ?_ | refine dw_regB ?_); (conv => arg 3; whnf)) | (refine Spl.go (fun hq he => ?_) (fun hq he => ?_) <;> first | (exfalso; clear hq; omega) | ((try (first | (conv => arg 8; simp only [hq]) | (conv => arg 4; simp only [hq]))); clear hq)) | ((with_reducible first | refine c_split (fun hq => ?_) (fun hq => ?_) | refine q_split (fun hq => ?_) (fun hq => ?_)) <;> (try (first | (conv => arg 8; simp only [hq]) | (conv => arg 4; simp only [hq])))) | exact Sub.refl _ | omega)
          refine c_doesR [1000000] (hz) (callOK_of rfl (Nat.le_of_ble_eq_true rfl) rfl ?_ ?_) ?_ ?_
          · repeat' (first | (conv in hold _ => simp (disch := omega) only [go_sem, hset]) | exact True.intro | exact Sub.refl _ | omega)
          · repeat' (first | (conv in hold _ => simp (disch := omega) only [go_sem, hset]) | exact True.intro | exact Sub.refl _ | omega)
          · ((conv => rhs; simp (disch := omega) only [go_sem, hset]); try rfl)
          repeat' (first | with_reducible refine acc_none ?_ | (conv in hold _ => simp (disch := omega) only [go_sem, hset]) | refine Stp.go ?_ | (with_reducible first | refine it_pos rfl ?_ | refine it_neg (by decide) ?_ | refine st_nil rfl ?_ | refine s_op ?_ ?_ | exact True.intro) | ((with_reducible first | refine dw_reg0 ?_ | refine dw_regB ?_); (conv => arg 3; whnf)) | (refine Spl.go (fun hq he => ?_) (fun hq he => ?_) <;> first | (exfalso; clear hq; omega) | ((try (first | (conv => arg 8; simp only [hq]) | (conv => arg 4; simp only [hq]))); clear hq)) | ((with_reducible first | refine c_split (fun hq => ?_) (fun hq => ?_) | refine q_split (fun hq => ?_) (fun hq => ?_)) <;> (try (first | (conv => arg 8; simp only [hq]) | (conv => arg 4; simp only [hq])))) | exact Sub.refl _ | omega)
          refine c_doesR [1000000] (hy) (callOK_of rfl (Nat.le_of_ble_eq_true rfl) rfl ?_ ?_) ?_ ?_
          · repeat' (first | (conv in hold _ => simp (disch := omega) only [go_sem, hset]) | exact True.intro | exact Sub.refl _ | omega)
          · repeat' (first | (conv in hold _ => simp (disch := omega) only [go_sem, hset]) | exact True.intro | exact Sub.refl _ | omega)
          · ((conv => rhs; simp (disch := omega) only [go_sem, hset]); try rfl)
          repeat' (first | with_reducible refine acc_none ?_ | (conv in hold _ => simp (disch := omega) only [go_sem, hset]) | refine Stp.go ?_ | (with_reducible first | refine it_pos rfl ?_ | refine it_neg (by decide) ?_ | refine st_nil rfl ?_ | refine s_op ?_ ?_ | exact True.intro) | ((with_reducible first | refine dw_reg0 ?_ | refine dw_regB ?_); (conv => arg 3; whnf)) | (refine Spl.go (fun hq he => ?_) (fun hq he => ?_) <;> first | (exfalso; clear hq; omega) | ((try (first | (conv => arg 8; simp only [hq]) | (conv => arg 4; simp only [hq]))); clear hq)) | ((with_reducible first | refine c_split (fun hq => ?_) (fun hq => ?_) | refine q_split (fun hq => ?_) (fun hq => ?_)) <;> (try (first | (conv => arg 8; simp only [hq]) | (conv => arg 4; simp only [hq])))) | exact Sub.refl _ | omega)
          refine fin_wk (wk_frz 3 1000001 (by decide) (by decide) rfl ?_) ?_
          rotate_left
          (conv in hold _ => simp (disch := omega) only [go_sem, hset, hRt, hRl, List.length_map, List.length_set, Nat.le_refl])
          · refine fin_L [] ?_ ?_ rfl ?_
            repeat' (first | (conv in hold _ => simp (disch := omega) only [go_sem]) | exact True.intro | exact Sub.refl _ | omega)
          · exact rows_pur _
        · repeat' (first | with_reducible refine acc_none ?_ | (conv in hold _ => simp (disch := omega) only [go_sem, e1]) | refine Stp.go ?_ | (with_reducible first | refine it_pos rfl ?_ | refine it_neg (by decide) ?_ | refine st_nil rfl ?_ | refine s_op ?_ ?_ | exact True.intro) | ((with_reducible first | refine dw_reg0 ?_ | refine dw_regB ?_); (conv => arg 3; whnf)) | (refine Spl.go (fun hq he => ?_) (fun hq he => ?_) <;> first | (exfalso; clear hq; omega) | ((try (first | (conv => arg 8; simp only [hq]) | (conv => arg 4; simp only [hq]))); clear hq)) | ((with_reducible first | refine c_split (fun hq => ?_) (fun hq => ?_) | refine q_split (fun hq => ?_) (fun hq => ?_)) <;> (try (first | (conv => arg 8; simp only [hq]) | (conv => arg 4; simp only [hq])))) | exact Sub.refl _ | omega)
          refine c_doesR [1000000] (hj) (callOK_of rfl (Nat.le_of_ble_eq_true rfl) rfl ?_ ?_) ?_ ?_
          · repeat' (first | (conv in hold _ => simp (disch := omega) only [go_sem]) | exact True.intro | exact Sub.refl _ | omega)
          · repeat' (first | (conv in hold _ => simp (disch := omega) only [go_sem]) | exact True.intro | exact Sub.refl _ | omega)
          · ((conv => rhs; simp (disch := omega) only [go_sem]); try rfl)
          repeat' (first | with_reducible refine acc_none ?_ | (conv in hold _ => simp (disch := omega) only [go_sem]) | refine Stp.go ?_ | (with_reducible first | refine it_pos rfl ?_ | refine it_neg (by decide) ?_ | refine st_nil rfl ?_ | refine s_op ?_ ?_ | exact True.intro) | ((with_reducible first | refine dw_reg0 ?_ | refine dw_regB ?_); (conv => arg 3; whnf)) | (refine Spl.go (fun hq he => ?_) (fun hq he => ?_) <;> first | (exfalso; clear hq; omega) | ((try (first | (conv => arg 8; simp only [hq]) | (conv => arg 4; simp only [hq]))); clear hq)) | ((with_reducible first | refine c_split (fun hq => ?_) (fun hq => ?_) | refine q_split (fun hq => ?_) (fun hq => ?_)) <;> (try (first | (conv => arg 8; simp only [hq]) | (conv => arg 4; simp only [hq])))) | exact Sub.refl _ | omega)
          refine c_doesR [1000000] (ha) (callOK_of rfl (Nat.le_of_ble_eq_true rfl) rfl ?_ ?_) ?_ ?_
          · repeat' (first | (conv in hold _ => simp (disch := omega) only [go_sem, List.getElem?_map, hu, Option.map_some]) | exact True.intro | exact Sub.refl _ | omega)
          · repeat' (first | (conv in hold _ => simp (disch := omega) only [go_sem, List.getElem?_map, hu, Option.map_some]) | exact True.intro | exact Sub.refl _ | omega)
          · ((conv => rhs; simp (disch := omega) only [go_sem, List.getElem?_map, hu, Option.map_some]); try rfl)
          repeat' (first | with_reducible refine acc_none ?_ | (conv in hold _ => simp (disch := omega) only [go_sem, List.getElem?_map, hu, Option.map_some]) | refine Stp.go ?_ | (with_reducible first | refine it_pos rfl ?_ | refine it_neg (by decide) ?_ | refine st_nil rfl ?_ | refine s_op ?_ ?_ | exact True.intro) | ((with_reducible first | refine dw_reg0 ?_ | refine dw_regB ?_); (conv => arg 3; whnf)) | (refine Spl.go (fun hq he => ?_) (fun hq he => ?_) <;> first | (exfalso; clear hq; omega) | ((try (first | (conv => arg 8; simp only [hq]) | (conv => arg 4; simp only [hq]))); clear hq)) | ((with_reducible first | refine c_split (fun hq => ?_) (fun hq => ?_) | refine q_split (fun hq => ?_) (fun hq => ?_)) <;> (try (first | (conv => arg 8; simp only [hq]) | (conv => arg 4; simp only [hq])))) | exact Sub.refl _ | omega)
          refine c_doesR [1000000] (hx) (callOK_of rfl (Nat.le_of_ble_eq_true rfl) rfl ?_ ?_) ?_ ?_
          · repeat' (first | (conv in hold _ => simp (disch := omega) only [go_sem, List.getElem?_map, hu, Option.map_some, hset]) | exact True.intro | exact Sub.refl _ | omega)
          · repeat' (first | (conv in hold _ => simp (disch := omega) only [go_sem, List.getElem?_map, hu, Option.map_some, hset]) | exact True.intro | exact Sub.refl _ | omega)
          · ((conv => rhs; simp (disch := omega) only [go_sem, List.getElem?_map, hu, Option.map_some, hset]); try rfl)
          repeat' (first | with_reducible refine acc_none ?_ | (conv in hold _ => simp (disch := omega) only [go_sem, List.getElem?_map, hu, Option.map_some, hset]) | refine Stp.go ?_ | (with_reducible first | refine it_pos rfl ?_ | refine it_neg (by decide) ?_ | refine st_nil rfl ?_ | refine s_op ?_ ?_ | exact True.intro) | ((with_reducible first | refine dw_reg0 ?_ | refine dw_regB ?_); (conv => arg 3; whnf)) | (refine Spl.go (fun hq he => ?_) (fun hq he => ?_) <;> first | (exfalso; clear hq; omega) | ((try (first | (conv => arg 8; simp only [hq]) | (conv => arg 4; simp only [hq]))); clear hq)) | ((with_reducible first | refine c_split (fun hq => ?_) (fun hq => ?_) | refine q_split (fun hq => ?_) (fun hq => ?_)) <;> (try (first | (conv => arg 8; simp only [hq]) | (conv => arg 4; simp only [hq])))) | exact Sub.refl _ | omega)
          refine c_doesR [1000000] (hz) (callOK_of rfl (Nat.le_of_ble_eq_true rfl) rfl ?_ ?_) ?_ ?_
          · repeat' (first | (conv in hold _ => simp (disch := omega) only [go_sem, hset]) | exact True.intro | exact Sub.refl _ | omega)
          · repeat' (first | (conv in hold _ => simp (disch := omega) only [go_sem, hset]) | exact True.intro | exact Sub.refl _ | omega)
          · ((conv => rhs; simp (disch := omega) only [go_sem, hset]); try rfl)
          repeat' (first | with_reducible refine acc_none ?_ | (conv in hold _ => simp (disch := omega) only [go_sem, hset]) | refine Stp.go ?_ | (with_reducible first | refine it_pos rfl ?_ | refine it_neg (by decide) ?_ | refine st_nil rfl ?_ | refine s_op ?_ ?_ | exact True.intro) | ((with_reducible first | refine dw_reg0 ?_ | refine dw_regB ?_); (conv => arg 3; whnf)) | (refine Spl.go (fun hq he => ?_) (fun hq he => ?_) <;> first | (exfalso; clear hq; omega) | ((try (first | (conv => arg 8; simp only [hq]) | (conv => arg 4; simp only [hq]))); clear hq)) | ((with_reducible first | refine c_split (fun hq => ?_) (fun hq => ?_) | refine q_split (fun hq => ?_) (fun hq => ?_)) <;> (try (first | (conv => arg 8; simp only [hq]) | (conv => arg 4; simp only [hq])))) | exact Sub.refl _ | omega)
          refine fin_wk (wk_frz 3 1000001 (by decide) (by decide) rfl ?_) ?_
          rotate_left
          (conv in hold _ => simp (disch := omega) only [go_sem, hset, hRt, hRl, List.length_map, List.length_set, Nat.le_refl])
          · refine fin_L [] ?_ ?_ rfl ?_
            repeat' (first | (conv in hold _ => simp (disch := omega) only [go_sem]) | exact True.intro | exact Sub.refl _ | omega)
          · exact rows_pur _
theorem does_FnTableOf (cs : List Nat) (hc : ∀ b, b ∈ cs → b < 256) : Does Try.prog 3 [] [bytesD cs] (Bo true) [] := by
  obtain ⟨x, rs, hdr, ⟨hl, hrl⟩, hx0, hx7⟩ := DrawTableOf_ok cs hc
  have hsz : rsz rs ≤ 1048576 := by
    have := rsz_le rs hrl
    have : rs.length * (10 + 1) ≤ 8 * 11 := Nat.mul_le_mul hl (by omega)
    omega
  by_cases h : rOk ⟨x, rs⟩
  · obtain ⟨w, rfl⟩ := Int.eq_ofNat_of_zero_le hx0
    have hw := h.1.1
    simp only at hw
    have hr := rsw_of_rOk h
    rw [Int.toNat_natCast] at hr
    have h1 := TableOf_impl_t h
    have h2 := TableOf_spec_t h
    have hsl := srt_len rs
    have hsr : RsW w (srt rs) := srt_rsw hr
    have heq := equalTables_same ⟨w, srt rs⟩ (small_of (m := 10) (by omega) (fun r hm => hrl r ((srt_perm rs).mem_iff.1 hm)) (by omega))
    have h3 := TableOf_impl_t (rOk_perm h (List.reverse_perm rs))
    rw [srt_congr hr (List.reverse_perm rs)] at h3
    have h4 := TableOf_impl_t (rOk_perm h (srt_perm rs))
    rw [srt_idem hr] at h4
    have htok : tOk ⟨w, srt rs⟩ := tOk_of (by omega) (by omega) hsr (srt_asc hr)
    have h5 := ValidTable_impl ⟨w, srt rs⟩ (by
      have := rsz_le (srt rs) (fun r hm => hrl r ((srt_perm rs).mem_iff.1 hm))
      have : (srt rs).length * (10 + 1) ≤ 8 * 11 := Nat.mul_le_mul (by omega) (by omega)
      simp only
      omega)
    rw [decide_eq_true htok] at h5
    have hrev : rs.reverse.length = rs.length := List.length_reverse
    refine does0 c_laws_FnTableOf mixed (Nat.le_of_ble_eq_true rfl) ?_
    conv => arg 3; whnf
    repeat' (first | with_reducible refine acc_none ?_ | (conv in hold _ => simp (disch := omega) only [go_sem, bytesD, beq_self_eq_true, bne_self_eq_false]) | refine Stp.go ?_ | (with_reducible first | refine it_pos rfl ?_ | refine it_neg (by decide) ?_ | refine st_nil rfl ?_ | refine s_op ?_ ?_ | exact True.intro) | ((with_reducible first | refine dw_reg0 ?_ | refine dw_regB ?_); (conv => arg 3; whnf)) | (refine Spl.go (fun hq he => ?_) (fun hq he => ?_) <;> first | (exfalso; clear hq; omega) | ((try (first | (conv => arg 8; simp only [hq]) | (conv => arg 4; simp only [hq]))); clear hq)) | ((with_reducible first | refine c_split (fun hq => ?_) (fun hq => ?_) | refine q_split (fun hq => ?_) (fun hq => ?_)) <;> (try (first | (conv => arg 8; simp only [hq]) | (conv => arg 4; simp only [hq])))) | (with_reducible refine fin_0 ?_ (by first | rfl | (conv => lhs; simp only [go_sem, bytesD, beq_self_eq_true, bne_self_eq_false])) ?_) | exact Sub.refl _ | omega)
    refine c_doesE (hdr) ?_ ?_ ?_
    · ((try (conv => rhs; simp (disch := omega) only [go_sem, bytesD, beq_self_eq_true, bne_self_eq_false])); try rfl)
    · first | rfl | (conv => lhs; simp only [go_sem, bytesD, beq_self_eq_true, bne_self_eq_false])
    repeat' (first | with_reducible refine acc_none ?_ | (conv in hold _ => simp (disch := omega) only [go_sem, bytesD, beq_self_eq_true, bne_self_eq_false]) | refine Stp.go ?_ | (with_reducible first | refine it_pos rfl ?_ | refine it_neg (by decide) ?_ | refine st_nil rfl ?_ | refine s_op ?_ ?_ | exact True.intro) | ((with_reducible first | refine dw_reg0 ?_ | refine dw_regB ?_); (conv => arg 3; whnf)) | (refine Spl.go (fun hq he => ?_) (fun hq he => ?_) <;> first | (exfalso; clear hq; omega) | ((try (first | (conv => arg 8; simp only [hq]) | (conv => arg 4; simp only [hq]))); clear hq)) | ((with_reducible first | refine c_split (fun hq => ?_) (fun hq => ?_) | refine q_split (fun hq => ?_) (fun hq => ?_)) <;> (try (first | (conv => arg 8; simp only [hq]) | (conv => arg 4; simp only [hq])))) | (with_reducible refine fin_0 ?_ (by first | rfl | (conv => lhs; simp only [go_sem, bytesD, beq_self_eq_true, bne_self_eq_false])) ?_) | exact Sub.refl _ | omega)
    refine c_doesE (h1) ?_ ?_ ?_
    · ((try (conv => rhs; simp (disch := omega) only [go_sem, bytesD, beq_self_eq_true, bne_self_eq_false])); try rfl)
    · first | rfl | (conv => lhs; simp only [go_sem, bytesD, beq_self_eq_true, bne_self_eq_false])
    repeat' (first | with_reducible refine acc_none ?_ | (conv in hold _ => simp (disch := omega) only [go_sem, bytesD, beq_self_eq_true, bne_self_eq_false]) | refine Stp.go ?_ | (with_reducible first | refine it_pos rfl ?_ | refine it_neg (by decide) ?_ | refine st_nil rfl ?_ | refine s_op ?_ ?_ | exact True.intro) | ((with_reducible first | refine dw_reg0 ?_ | refine dw_regB ?_); (conv => arg 3; whnf)) | (refine Spl.go (fun hq he => ?_) (fun hq he => ?_) <;> first | (exfalso; clear hq; omega) | ((try (first | (conv => arg 8; simp only [hq]) | (conv => arg 4; simp only [hq]))); clear hq)) | ((with_reducible first | refine c_split (fun hq => ?_) (fun hq => ?_) | refine q_split (fun hq => ?_) (fun hq => ?_)) <;> (try (first | (conv => arg 8; simp only [hq]) | (conv => arg 4; simp only [hq])))) | (with_reducible refine fin_0 ?_ (by first | rfl | (conv => lhs; simp only [go_sem, bytesD, beq_self_eq_true, bne_self_eq_false])) ?_) | exact Sub.refl _ | omega)
    refine c_doesE (h2) ?_ ?_ ?_
    · ((try (conv => rhs; simp (disch := omega) only [go_sem, bytesD, beq_self_eq_true, bne_self_eq_false])); try rfl)
    · first | rfl | (conv => lhs; simp only [go_sem, bytesD, beq_self_eq_true, bne_self_eq_false])
    repeat' (first | with_reducible refine acc_none ?_ | (conv in hold _ => simp (disch := omega) only [go_sem, bytesD, beq_self_eq_true, bne_self_eq_false]) | refine Stp.go ?_ | (with_reducible first | refine it_pos rfl ?_ | refine it_neg (by decide) ?_ | refine st_nil rfl ?_ | refine s_op ?_ ?_ | exact True.intro) | ((with_reducible first | refine dw_reg0 ?_ | refine dw_regB ?_); (conv => arg 3; whnf)) | (refine Spl.go (fun hq he => ?_) (fun hq he => ?_) <;> first | (exfalso; clear hq; omega) | ((try (first | (conv => arg 8; simp only [hq]) | (conv => arg 4; simp only [hq]))); clear hq)) | ((with_reducible first | refine c_split (fun hq => ?_) (fun hq => ?_) | refine q_split (fun hq => ?_) (fun hq => ?_)) <;> (try (first | (conv => arg 8; simp only [hq]) | (conv => arg 4; simp only [hq])))) | (with_reducible refine fin_0 ?_ (by first | rfl | (conv => lhs; simp only [go_sem, bytesD, beq_self_eq_true, bne_self_eq_false])) ?_) | exact Sub.refl _ | omega)
    refine c_doesE (heq) ?_ ?_ ?_
    · ((try (conv => rhs; simp (disch := omega) only [go_sem, bytesD, beq_self_eq_true, bne_self_eq_false])); try rfl)
    · first | rfl | (conv => lhs; simp only [go_sem, bytesD, beq_self_eq_true, bne_self_eq_false])
    repeat' (first | with_reducible refine acc_none ?_ | (conv in hold _ => simp (disch := omega) only [go_sem, bytesD, beq_self_eq_true, bne_self_eq_false]) | refine Stp.go ?_ | (with_reducible first | refine it_pos rfl ?_ | refine it_neg (by decide) ?_ | refine st_nil rfl ?_ | refine s_op ?_ ?_ | exact True.intro) | ((with_reducible first | refine dw_reg0 ?_ | refine dw_regB ?_); (conv => arg 3; whnf)) | (refine Spl.go (fun hq he => ?_) (fun hq he => ?_) <;> first | (exfalso; clear hq; omega) | ((try (first | (conv => arg 8; simp only [hq]) | (conv => arg 4; simp only [hq]))); clear hq)) | ((with_reducible first | refine c_split (fun hq => ?_) (fun hq => ?_) | refine q_split (fun hq => ?_) (fun hq => ?_)) <;> (try (first | (conv => arg 8; simp only [hq]) | (conv => arg 4; simp only [hq])))) | (with_reducible refine fin_0 ?_ (by first | rfl | (conv => lhs; simp only [go_sem, bytesD, beq_self_eq_true, bne_self_eq_false])) ?_) | exact Sub.refl _ | omega)
    refine dw_for (c := 2) (l := fun i => [(3, I w), (4, rowsD rs), (5, .ref 1000000 0), (9, .own 1000001 1 i), (10, I ((rs.length : Int) - 1 - i)), (1000000, .obj [I w, rowsD (srt rs)]), (1000001, .row 1 ((rs.reverse.take i).map rowD))]) rs.length (fun _ => True) 0 trivial ((wk_row 9 2000190 1 (by decide) (by decide) rfl rfl).trans (Wk.list [2000005, 2000190] rfl rfl ?_)) (fun i hi _ => ?_) (Nat.zero_le _)
    · repeat' (first | (conv in hold _ => simp (disch := omega) only [go_sem, bytesD, beq_self_eq_true, bne_self_eq_false]) | exact True.intro | exact Sub.refl _ | omega)
      first | exact rfl | exact congrArg (fun n => D.v (Value.int .i64 n)) (by omega)
    · have htl := take_len (vs := rs.reverse) (i := i) (by omega)
      have hmk := take_map rowD (vs := rs.reverse) (i := i) (by omega)
      by_cases hlt : i < rs.length
      · obtain ⟨x, hx⟩ : ∃ x, rs.reverse[i]? = some x := ⟨_, List.getElem?_eq_getElem (by omega)⟩
        have hx2 : rs[rs.length - 1 - i]? = some x := by rw [← List.getElem?_reverse hlt]; exact hx
        have hii : ((rs.length : Int) - 1 - (i : Int)).toNat = rs.length - 1 - i := by omega
        have hnx := take_next hx
        repeat' (first | with_reducible refine acc_none ?_ | (conv in hold _ => simp (disch := omega) only [go_sem, bytesD, beq_self_eq_true, bne_self_eq_false, hii, List.getElem?_map, hx2, Option.map_some]) | refine Stp.go ?_ | (with_reducible first | refine it_pos rfl ?_ | refine it_neg (by decide) ?_ | refine st_nil rfl ?_ | refine s_op ?_ ?_ | exact True.intro) | ((with_reducible first | refine dw_reg0 ?_ | refine dw_regB ?_); (conv => arg 3; whnf)) | (refine Spl.go (fun hq he => ?_) (fun hq he => ?_) <;> first | (exfalso; clear hq; omega) | ((try (first | (conv => arg 8; simp only [hq]) | (conv => arg 4; simp only [hq]))); clear hq)) | ((with_reducible first | refine c_split (fun hq => ?_) (fun hq => ?_) | refine q_split (fun hq => ?_) (fun hq => ?_)) <;> (try (first | (conv => arg 8; simp only [hq]) | (conv => arg 4; simp only [hq])))) | (with_reducible refine fin_0 ?_ (by first | rfl | (conv => lhs; simp only [go_sem, bytesD, beq_self_eq_true, bne_self_eq_false, hii, List.getElem?_map, hx2, Option.map_some])) ?_) | exact Sub.refl _ | omega)
        refine ⟨hlt, trivial, Wk.list [1000000, 2000070] rfl rfl ?_⟩
        repeat' (first | (conv in hold _ => simp (disch := omega) only [go_sem, bytesD, beq_self_eq_true, bne_self_eq_false, List.length_map, htl]) | exact True.intro | exact Sub.refl _ | omega)
        refine ⟨congrArg (fun n => D.v (Value.int .i64 n)) (by omega), ?_⟩
        rw [hmk, hnx, List.map_append]
        rfl
      · obtain rfl : i = rs.length := by omega
        have e1 : rs.reverse.take rs.length = rs.reverse := List.take_of_length_le (by omega)
        have e2 : (rs.reverse.map rowD).take rs.length = rs.reverse.map rowD := by rw [← hrev]; exact take_all rowD rs.reverse
        repeat' ((fail_if_success (with_reducible first | refine s_call ?_ | refine s_cal ?_ | refine s_inv ?_)); first | with_reducible refine acc_none ?_ | (conv in hold _ => simp (disch := omega) only [go_sem, bytesD, beq_self_eq_true, bne_self_eq_false, e1]) | refine Stp.go ?_ | (with_reducible first | refine it_pos rfl ?_ | refine it_neg (by decide) ?_ | refine st_nil rfl ?_ | refine s_op ?_ ?_ | exact True.intro) | ((with_reducible first | refine dw_reg0 ?_ | refine dw_regB ?_); (conv => arg 3; whnf)) | (refine Spl.go (fun hq he => ?_) (fun hq he => ?_) <;> first | (exfalso; clear hq; omega) | ((try (first | (conv => arg 8; simp only [hq]) | (conv => arg 4; simp only [hq]))); clear hq)) | ((with_reducible first | refine c_split (fun hq => ?_) (fun hq => ?_) | refine q_split (fun hq => ?_) (fun hq => ?_)) <;> (try (first | (conv => arg 8; simp only [hq]) | (conv => arg 4; simp only [hq])))) | (with_reducible refine fin_0 ?_ (by first | rfl | (conv => lhs; simp only [go_sem, bytesD, beq_self_eq_true, bne_self_eq_false, e1])) ?_) | exact Sub.refl _ | omega)
        refine s_pre (pre_frz (t := 73) (g := 1000001) (by decide) (by decide) rfl ?_) ?_
        rotate_left
        repeat' (first | with_reducible refine acc_none ?_ | (conv in hold _ => simp (disch := omega) only [go_sem, bytesD, beq_self_eq_true, bne_self_eq_false, e1, e2, hrev, List.length_map, Nat.le_refl]) | refine Stp.go ?_ | (with_reducible first | refine it_pos rfl ?_ | refine it_neg (by decide) ?_ | refine st_nil rfl ?_ | refine s_op ?_ ?_ | exact True.intro) | ((with_reducible first | refine dw_reg0 ?_ | refine dw_regB ?_); (conv => arg 3; whnf)) | (refine Spl.go (fun hq he => ?_) (fun hq he => ?_) <;> first | (exfalso; clear hq; omega) | ((try (first | (conv => arg 8; simp only [hq]) | (conv => arg 4; simp only [hq]))); clear hq)) | ((with_reducible first | refine c_split (fun hq => ?_) (fun hq => ?_) | refine q_split (fun hq => ?_) (fun hq => ?_)) <;> (try (first | (conv => arg 8; simp only [hq]) | (conv => arg 4; simp only [hq])))) | (with_reducible refine fin_0 ?_ (by first | rfl | (conv => lhs; simp only [go_sem, bytesD, beq_self_eq_true, bne_self_eq_false, e1, e2, hrev, List.length_map, Nat.le_refl])) ?_) | exact Sub.refl _ | omega)
        refine c_doesE (h3) ?_ ?_ ?_
        · ((try (conv => rhs; simp (disch := omega) only [go_sem, bytesD, beq_self_eq_true, bne_self_eq_false])); try rfl)
        · first | rfl | (conv => lhs; simp only [go_sem, bytesD, beq_self_eq_true, bne_self_eq_false])
        repeat' (first | with_reducible refine acc_none ?_ | (conv in hold _ => simp (disch := omega) only [go_sem, bytesD, beq_self_eq_true, bne_self_eq_false]) | refine Stp.go ?_ | (with_reducible first | refine it_pos rfl ?_ | refine it_neg (by decide) ?_ | refine st_nil rfl ?_ | refine s_op ?_ ?_ | exact True.intro) | ((with_reducible first | refine dw_reg0 ?_ | refine dw_regB ?_); (conv => arg 3; whnf)) | (refine Spl.go (fun hq he => ?_) (fun hq he => ?_) <;> first | (exfalso; clear hq; omega) | ((try (first | (conv => arg 8; simp only [hq]) | (conv => arg 4; simp only [hq]))); clear hq)) | ((with_reducible first | refine c_split (fun hq => ?_) (fun hq => ?_) | refine q_split (fun hq => ?_) (fun hq => ?_)) <;> (try (first | (conv => arg 8; simp only [hq]) | (conv => arg 4; simp only [hq])))) | (with_reducible refine fin_0 ?_ (by first | rfl | (conv => lhs; simp only [go_sem, bytesD, beq_self_eq_true, bne_self_eq_false])) ?_) | exact Sub.refl _ | omega)
        refine c_doesE (h4) ?_ ?_ ?_
        · ((try (conv => rhs; simp (disch := omega) only [go_sem, bytesD, beq_self_eq_true, bne_self_eq_false])); try rfl)
        · first | rfl | (conv => lhs; simp only [go_sem, bytesD, beq_self_eq_true, bne_self_eq_false])
        repeat' (first | with_reducible refine acc_none ?_ | (conv in hold _ => simp (disch := omega) only [go_sem, bytesD, beq_self_eq_true, bne_self_eq_false]) | refine Stp.go ?_ | (with_reducible first | refine it_pos rfl ?_ | refine it_neg (by decide) ?_ | refine st_nil rfl ?_ | refine s_op ?_ ?_ | exact True.intro) | ((with_reducible first | refine dw_reg0 ?_ | refine dw_regB ?_); (conv => arg 3; whnf)) | (refine Spl.go (fun hq he => ?_) (fun hq he => ?_) <;> first | (exfalso; clear hq; omega) | ((try (first | (conv => arg 8; simp only [hq]) | (conv => arg 4; simp only [hq]))); clear hq)) | ((with_reducible first | refine c_split (fun hq => ?_) (fun hq => ?_) | refine q_split (fun hq => ?_) (fun hq => ?_)) <;> (try (first | (conv => arg 8; simp only [hq]) | (conv => arg 4; simp only [hq])))) | (with_reducible refine fin_0 ?_ (by first | rfl | (conv => lhs; simp only [go_sem, bytesD, beq_self_eq_true, bne_self_eq_false])) ?_) | exact Sub.refl _ | omega)
        refine c_doesE (h5) ?_ ?_ ?_
        · ((try (conv => rhs; simp (disch := omega) only [go_sem, bytesD, beq_self_eq_true, bne_self_eq_false, hsl, List.length_map])); try rfl)
        · first | rfl | (conv => lhs; simp only [go_sem, bytesD, beq_self_eq_true, bne_self_eq_false, hsl, List.length_map])
        repeat' (first | with_reducible refine acc_none ?_ | (conv in hold _ => simp (disch := omega) only [go_sem, bytesD, beq_self_eq_true, bne_self_eq_false, hsl, List.length_map]) | refine Stp.go ?_ | (with_reducible first | refine it_pos rfl ?_ | refine it_neg (by decide) ?_ | refine st_nil rfl ?_ | refine s_op ?_ ?_ | exact True.intro) | ((with_reducible first | refine dw_reg0 ?_ | refine dw_regB ?_); (conv => arg 3; whnf)) | (refine Spl.go (fun hq he => ?_) (fun hq he => ?_) <;> first | (exfalso; clear hq; omega) | ((try (first | (conv => arg 8; simp only [hq]) | (conv => arg 4; simp only [hq]))); clear hq)) | ((with_reducible first | refine c_split (fun hq => ?_) (fun hq => ?_) | refine q_split (fun hq => ?_) (fun hq => ?_)) <;> (try (first | (conv => arg 8; simp only [hq]) | (conv => arg 4; simp only [hq])))) | (with_reducible refine fin_0 ?_ (by first | rfl | (conv => lhs; simp only [go_sem, bytesD, beq_self_eq_true, bne_self_eq_false, hsl, List.length_map])) ?_) | exact Sub.refl _ | omega)
        refine c_doesE (heq) ?_ ?_ ?_
        · ((try (conv => rhs; simp (disch := omega) only [go_sem, bytesD, beq_self_eq_true, bne_self_eq_false])); try rfl)
        · first | rfl | (conv => lhs; simp only [go_sem, bytesD, beq_self_eq_true, bne_self_eq_false])
        repeat' (first | with_reducible refine acc_none ?_ | (conv in hold _ => simp (disch := omega) only [go_sem, bytesD, beq_self_eq_true, bne_self_eq_false]) | refine Stp.go ?_ | (with_reducible first | refine it_pos rfl ?_ | refine it_neg (by decide) ?_ | refine st_nil rfl ?_ | refine s_op ?_ ?_ | exact True.intro) | ((with_reducible first | refine dw_reg0 ?_ | refine dw_regB ?_); (conv => arg 3; whnf)) | (refine Spl.go (fun hq he => ?_) (fun hq he => ?_) <;> first | (exfalso; clear hq; omega) | ((try (first | (conv => arg 8; simp only [hq]) | (conv => arg 4; simp only [hq]))); clear hq)) | ((with_reducible first | refine c_split (fun hq => ?_) (fun hq => ?_) | refine q_split (fun hq => ?_) (fun hq => ?_)) <;> (try (first | (conv => arg 8; simp only [hq]) | (conv => arg 4; simp only [hq])))) | (with_reducible refine fin_0 ?_ (by first | rfl | (conv => lhs; simp only [go_sem, bytesD, beq_self_eq_true, bne_self_eq_false])) ?_) | exact Sub.refl _ | omega)
        refine c_doesE (heq) ?_ ?_ ?_
        · ((try (conv => rhs; simp (disch := omega) only [go_sem, bytesD, beq_self_eq_true, bne_self_eq_false])); try rfl)
        · first | rfl | (conv => lhs; simp only [go_sem, bytesD, beq_self_eq_true, bne_self_eq_false])
        repeat' (first | with_reducible refine acc_none ?_ | (conv in hold _ => simp (disch := omega) only [go_sem, bytesD, beq_self_eq_true, bne_self_eq_false]) | refine Stp.go ?_ | (with_reducible first | refine it_pos rfl ?_ | refine it_neg (by decide) ?_ | refine st_nil rfl ?_ | refine s_op ?_ ?_ | exact True.intro) | ((with_reducible first | refine dw_reg0 ?_ | refine dw_regB ?_); (conv => arg 3; whnf)) | (refine Spl.go (fun hq he => ?_) (fun hq he => ?_) <;> first | (exfalso; clear hq; omega) | ((try (first | (conv => arg 8; simp only [hq]) | (conv => arg 4; simp only [hq]))); clear hq)) | ((with_reducible first | refine c_split (fun hq => ?_) (fun hq => ?_) | refine q_split (fun hq => ?_) (fun hq => ?_)) <;> (try (first | (conv => arg 8; simp only [hq]) | (conv => arg 4; simp only [hq])))) | (with_reducible refine fin_0 ?_ (by first | rfl | (conv => lhs; simp only [go_sem, bytesD, beq_self_eq_true, bne_self_eq_false])) ?_) | exact Sub.refl _ | omega)
        · exact rows_pur _
  · have h1 := TableOf_impl_f hsz h
    have h2 := TableOf_spec_f hsz h
    have heq := equalTables_same ⟨0, []⟩ (small_of (m := 10) (by decide) (fun r hm => by cases hm) (by omega))
    refine does0 c_laws_FnTableOf mixed (Nat.le_of_ble_eq_true rfl) ?_
    conv => arg 3; whnf
    repeat' (first | with_reducible refine acc_none ?_ | (conv in hold _ => simp (disch := omega) only [go_sem, bytesD, beq_self_eq_true, bne_self_eq_false]) | refine Stp.go ?_ | (with_reducible first | refine it_pos rfl ?_ | refine it_neg (by decide) ?_ | refine st_nil rfl ?_ | refine s_op ?_ ?_ | exact True.intro) | ((with_reducible first | refine dw_reg0 ?_ | refine dw_regB ?_); (conv => arg 3; whnf)) | (refine Spl.go (fun hq he => ?_) (fun hq he => ?_) <;> first | (exfalso; clear hq; omega) | ((try (first | (conv => arg 8; simp only [hq]) | (conv => arg 4; simp only [hq]))); clear hq)) | ((with_reducible first | refine c_split (fun hq => ?_) (fun hq => ?_) | refine q_split (fun hq => ?_) (fun hq => ?_)) <;> (try (first | (conv => arg 8; simp only [hq]) | (conv => arg 4; simp only [hq])))) | (with_reducible refine fin_0 ?_ (by first | rfl | (conv => lhs; simp only [go_sem, bytesD, beq_self_eq_true, bne_self_eq_false])) ?_) | exact Sub.refl _ | omega)
    refine c_doesE (hdr) ?_ ?_ ?_
    · ((try (conv => rhs; simp (disch := omega) only [go_sem, bytesD, beq_self_eq_true, bne_self_eq_false])); try rfl)
    · first | rfl | (conv => lhs; simp only [go_sem, bytesD, beq_self_eq_true, bne_self_eq_false])
    repeat' (first | with_reducible refine acc_none ?_ | (conv in hold _ => simp (disch := omega) only [go_sem, bytesD, beq_self_eq_true, bne_self_eq_false]) | refine Stp.go ?_ | (with_reducible first | refine it_pos rfl ?_ | refine it_neg (by decide) ?_ | refine st_nil rfl ?_ | refine s_op ?_ ?_ | exact True.intro) | ((with_reducible first | refine dw_reg0 ?_ | refine dw_regB ?_); (conv => arg 3; whnf)) | (refine Spl.go (fun hq he => ?_) (fun hq he => ?_) <;> first | (exfalso; clear hq; omega) | ((try (first | (conv => arg 8; simp only [hq]) | (conv => arg 4; simp only [hq]))); clear hq)) | ((with_reducible first | refine c_split (fun hq => ?_) (fun hq => ?_) | refine q_split (fun hq => ?_) (fun hq => ?_)) <;> (try (first | (conv => arg 8; simp only [hq]) | (conv => arg 4; simp only [hq])))) | (with_reducible refine fin_0 ?_ (by first | rfl | (conv => lhs; simp only [go_sem, bytesD, beq_self_eq_true, bne_self_eq_false])) ?_) | exact Sub.refl _ | omega)
    refine c_doesE (h1) ?_ ?_ ?_
    · ((try (conv => rhs; simp (disch := omega) only [go_sem, bytesD, beq_self_eq_true, bne_self_eq_false])); try rfl)
    · first | rfl | (conv => lhs; simp only [go_sem, bytesD, beq_self_eq_true, bne_self_eq_false])
    repeat' (first | with_reducible refine acc_none ?_ | (conv in hold _ => simp (disch := omega) only [go_sem, bytesD, beq_self_eq_true, bne_self_eq_false]) | refine Stp.go ?_ | (with_reducible first | refine it_pos rfl ?_ | refine it_neg (by decide) ?_ | refine st_nil rfl ?_ | refine s_op ?_ ?_ | exact True.intro) | ((with_reducible first | refine dw_reg0 ?_ | refine dw_regB ?_); (conv => arg 3; whnf)) | (refine Spl.go (fun hq he => ?_) (fun hq he => ?_) <;> first | (exfalso; clear hq; omega) | ((try (first | (conv => arg 8; simp only [hq]) | (conv => arg 4; simp only [hq]))); clear hq)) | ((with_reducible first | refine c_split (fun hq => ?_) (fun hq => ?_) | refine q_split (fun hq => ?_) (fun hq => ?_)) <;> (try (first | (conv => arg 8; simp only [hq]) | (conv => arg 4; simp only [hq])))) | (with_reducible refine fin_0 ?_ (by first | rfl | (conv => lhs; simp only [go_sem, bytesD, beq_self_eq_true, bne_self_eq_false])) ?_) | exact Sub.refl _ | omega)
    refine c_doesE (h2) ?_ ?_ ?_
    · ((try (conv => rhs; simp (disch := omega) only [go_sem, bytesD, beq_self_eq_true, bne_self_eq_false])); try rfl)
    · first | rfl | (conv => lhs; simp only [go_sem, bytesD, beq_self_eq_true, bne_self_eq_false])
    repeat' (first | with_reducible refine acc_none ?_ | (conv in hold _ => simp (disch := omega) only [go_sem, bytesD, beq_self_eq_true, bne_self_eq_false]) | refine Stp.go ?_ | (with_reducible first | refine it_pos rfl ?_ | refine it_neg (by decide) ?_ | refine st_nil rfl ?_ | refine s_op ?_ ?_ | exact True.intro) | ((with_reducible first | refine dw_reg0 ?_ | refine dw_regB ?_); (conv => arg 3; whnf)) | (refine Spl.go (fun hq he => ?_) (fun hq he => ?_) <;> first | (exfalso; clear hq; omega) | ((try (first | (conv => arg 8; simp only [hq]) | (conv => arg 4; simp only [hq]))); clear hq)) | ((with_reducible first | refine c_split (fun hq => ?_) (fun hq => ?_) | refine q_split (fun hq => ?_) (fun hq => ?_)) <;> (try (first | (conv => arg 8; simp only [hq]) | (conv => arg 4; simp only [hq])))) | (with_reducible refine fin_0 ?_ (by first | rfl | (conv => lhs; simp only [go_sem, bytesD, beq_self_eq_true, bne_self_eq_false])) ?_) | exact Sub.refl _ | omega)
    refine c_doesE (heq) ?_ ?_ ?_
    · ((try (conv => rhs; simp (disch := omega) only [go_sem, bytesD, beq_self_eq_true, bne_self_eq_false])); try rfl)
    · first | rfl | (conv => lhs; simp only [go_sem, bytesD, beq_self_eq_true, bne_self_eq_false])
    repeat' (first | with_reducible refine acc_none ?_ | (conv in hold _ => simp (disch := omega) only [go_sem, bytesD, beq_self_eq_true, bne_self_eq_false]) | refine Stp.go ?_ | (with_reducible first | refine it_pos rfl ?_ | refine it_neg (by decide) ?_ | refine st_nil rfl ?_ | refine s_op ?_ ?_ | exact True.intro) | ((with_reducible first | refine dw_reg0 ?_ | refine dw_regB ?_); (conv => arg 3; whnf)) | (refine Spl.go (fun hq he => ?_) (fun hq he => ?_) <;> first | (exfalso; clear hq; omega) | ((try (first | (conv => arg 8; simp only [hq]) | (conv => arg 4; simp only [hq]))); clear hq)) | ((with_reducible first | refine c_split (fun hq => ?_) (fun hq => ?_) | refine q_split (fun hq => ?_) (fun hq => ?_)) <;> (try (first | (conv => arg 8; simp only [hq]) | (conv => arg 4; simp only [hq])))) | (with_reducible refine fin_0 ?_ (by first | rfl | (conv => lhs; simp only [go_sem, bytesD, beq_self_eq_true, bne_self_eq_false])) ?_) | exact Sub.refl _ | omega)
    refine c_doesE (heq) ?_ ?_ ?_
    · ((try (conv => rhs; simp (disch := omega) only [go_sem, bytesD, beq_self_eq_true, bne_self_eq_false])); try rfl)
    · first | rfl | (conv => lhs; simp only [go_sem, bytesD, beq_self_eq_true, bne_self_eq_false])
    repeat' (first | with_reducible refine acc_none ?_ | (conv in hold _ => simp (disch := omega) only [go_sem, bytesD, beq_self_eq_true, bne_self_eq_false]) | refine Stp.go ?_ | (with_reducible first | refine it_pos rfl ?_ | refine it_neg (by decide) ?_ | refine st_nil rfl ?_ | refine s_op ?_ ?_ | exact True.intro) | ((with_reducible first | refine dw_reg0 ?_ | refine dw_regB ?_); (conv => arg 3; whnf)) | (refine Spl.go (fun hq he => ?_) (fun hq he => ?_) <;> first | (exfalso; clear hq; omega) | ((try (first | (conv => arg 8; simp only [hq]) | (conv => arg 4; simp only [hq]))); clear hq)) | ((with_reducible first | refine c_split (fun hq => ?_) (fun hq => ?_) | refine q_split (fun hq => ?_) (fun hq => ?_)) <;> (try (first | (conv => arg 8; simp only [hq]) | (conv => arg 4; simp only [hq])))) | (with_reducible refine fin_0 ?_ (by first | rfl | (conv => lhs; simp only [go_sem, bytesD, beq_self_eq_true, bne_self_eq_false])) ?_) | exact Sub.refl _ | omega)
theorem walk_FnTableOf (a : Option Addr) (len cap : Nat) (zs : List Int) (w : World) (h : IsRow .u8 w a len cap zs) :
    Calls Try.prog 3 #[.slice a len cap] w fun e W' => e = .returned (.bool true) ∧ Below w.heap.size w W' := walk_of does_FnTableOf a len cap zs w h
end Go.Proofs.Ytkjgambmledioaa
