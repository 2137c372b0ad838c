/-
  Tables of the model: rows put in order; drawn tables. No condition.
-/
import Derived.Test.YtldkjccccjiihaaDca
import Derived.Test.YtldkjccccjiihaaDcb
import Derived.Test.YtldkjccccjiihaaVDrawT
import Derived.Test.YtldkjccccjiihaaVSrtT
import Derived.Test.YtldkjccccjiihaaVBag
import Derived.Test.YtldkjccccjiihaaVBox
set_option maxHeartbeats 4000000
set_option maxRecDepth 100000
set_option linter.unusedVariables false
set_option linter.unusedSimpArgs false
namespace Go.Proofs.Ytldkjccccjiihaa
open Go.RowKit

theorem tableOf_own (w : Int) (k : Nat) (hk : k < 1000) (rs : List (List V)) (hl : rs.length ≤ 400) (hs : RsW k rs) : Does Try.prog 45 [] [I w, rowsD rs] (.agg [I w, .own 1000000 1 rs.length]) [.row 1 ((srt rs).map rowD)] := by
  refine does c_spec_tableOf mixed (Nat.le_of_ble_eq_true rfl) 0 rfl ?_
  conv => arg 3; whnf
  repeat' (first | with_reducible refine acc_none ?_ | (conv in hold _ => simp (disch := omega) only [go_sem]) | refine Stp.go ?_ | (with_reducible first | refine it_pos rfl ?_ | refine it_neg (by decide) ?_ | refine st_nil rfl ?_ | refine s_op ?_ ?_ | exact True.intro) | ((with_reducible first | refine dw_reg0 ?_ | refine dw_regB ?_); (conv => arg 3; whnf)) | (refine Spl.go (fun hq he => ?_) (fun hq he => ?_) <;> first | (exfalso; clear hq; omega) | ((try (first | (conv => arg 8; simp only [hq]) | (conv => arg 4; simp only [hq]))); clear hq)) | ((with_reducible first | refine c_split (fun hq => ?_) (fun hq => ?_) | refine q_split (fun hq => ?_) (fun hq => ?_)) <;> (try (first | (conv => arg 8; simp only [hq]) | (conv => arg 4; simp only [hq])))) | (with_reducible refine fin_0 ?_ (by first | rfl | (conv => lhs; simp only [go_sem])) ?_) | exact Sub.refl _ | omega)
  refine dw_for (c := 3) (l := fun i => [(0, I w), (1, rowsD rs), (4, .ref 1000000 0), (5, .ref 1000001 0), (6, I i), (1000000, .obj [I 0, .nul]), (1000001, .obj [I w, .own 1000002 1 i]), (1000002, .row 1 ((srt (rs.take i)).map rowD))]) rs.length (fun _ => True) 0 trivial ((wk_rowO 2000005 2000090 1 1 (by decide) (by decide) (by decide) rfl rfl rfl).trans (Wk.list [2000004, 2000005, 2000090] rfl rfl ?_)) (fun i hi _ => ?_) (Nat.zero_le _)
  · repeat' (first | (conv in hold _ => simp (disch := omega) only [go_sem]) | exact True.intro | exact Sub.refl _ | omega)
    exact ⟨rfl, rfl⟩
  · have htl : (srt (rs.take i)).length = i := by rw [srt_len]; exact take_len hi
    have htk : ((srt (rs.take i)).map rowD).take i = (srt (rs.take i)).map rowD := List.take_of_length_le (by rw [List.length_map, htl]; exact Nat.le_refl _)
    rcases at_or_end hi with ⟨x, hx, hlt⟩ | rfl
    · have hnx := srt_next hx
      have hts : RsW k (srt (rs.take i)) := srt_rsw (hs.take i)
      have hin := insertRow_own (srt (rs.take i)) x k hk (by omega) (fun r hr => by
        rcases List.mem_cons.1 hr with rfl | hr
        · exact hs r (List.mem_of_getElem? hx)
        · exact hts r hr) (srt_asc (hs.take i))
      rw [← hnx] at hin
      have hnl : (srt (rs.take (i + 1))).length = i + 1 := by rw [srt_len]; exact take_len (by omega)
      rw [hnl] at hin
      repeat' ((fail_if_success (with_reducible first | refine s_call ?_ | refine s_cal ?_ | refine s_inv ?_)); first | with_reducible refine acc_none ?_ | (conv in hold _ => simp (disch := omega) only [go_sem, List.getElem?_map, hx, Option.map_some]) | refine Stp.go ?_ | (with_reducible first | refine it_pos rfl ?_ | refine it_neg (by decide) ?_ | refine st_nil rfl ?_ | refine s_op ?_ ?_ | exact True.intro) | ((with_reducible first | refine dw_reg0 ?_ | refine dw_regB ?_); (conv => arg 3; whnf)) | (refine Spl.go (fun hq he => ?_) (fun hq he => ?_) <;> first | (exfalso; clear hq; omega) | ((try (first | (conv => arg 8; simp only [hq]) | (conv => arg 4; simp only [hq]))); clear hq)) | ((with_reducible first | refine c_split (fun hq => ?_) (fun hq => ?_) | refine q_split (fun hq => ?_) (fun hq => ?_)) <;> (try (first | (conv => arg 8; simp only [hq]) | (conv => arg 4; simp only [hq])))) | (with_reducible refine fin_0 ?_ (by first | rfl | (conv => lhs; simp only [go_sem, List.getElem?_map, hx, Option.map_some])) ?_) | exact Sub.refl _ | omega)
      refine s_pre (pre_frz (t := 20) (g := 1000002) (by decide) (by decide) rfl ?_) ?_
      rotate_left
      repeat' (first | with_reducible refine acc_none ?_ | (conv in hold _ => simp (disch := omega) only [go_sem, htl, htk, List.length_map, Nat.le_refl, List.getElem?_map, hx, Option.map_some]) | refine Stp.go ?_ | (with_reducible first | refine it_pos rfl ?_ | refine it_neg (by decide) ?_ | refine st_nil rfl ?_ | refine s_op ?_ ?_ | exact True.intro) | ((with_reducible first | refine dw_reg0 ?_ | refine dw_regB ?_); (conv => arg 3; whnf)) | (refine Spl.go (fun hq he => ?_) (fun hq he => ?_) <;> first | (exfalso; clear hq; omega) | ((try (first | (conv => arg 8; simp only [hq]) | (conv => arg 4; simp only [hq]))); clear hq)) | ((with_reducible first | refine c_split (fun hq => ?_) (fun hq => ?_) | refine q_split (fun hq => ?_) (fun hq => ?_)) <;> (try (first | (conv => arg 8; simp only [hq]) | (conv => arg 4; simp only [hq])))) | (with_reducible refine fin_0 ?_ (by first | rfl | (conv => lhs; simp only [go_sem, htl, htk, List.length_map, Nat.le_refl, List.getElem?_map, hx, Option.map_some])) ?_) | exact Sub.refl _ | omega)
      refine c_doesR [3000001] (hin) (callOK_of rfl (Nat.le_of_ble_eq_true rfl) rfl ?_ ?_) ?_ ?_
      · repeat' (first | (conv in hold _ => simp (disch := omega) only [go_sem, List.getElem?_map, hx, Option.map_some]) | exact True.intro | exact Sub.refl _ | omega)
      · repeat' (first | (conv in hold _ => simp (disch := omega) only [go_sem, List.getElem?_map, hx, Option.map_some]) | exact True.intro | exact Sub.refl _ | omega)
      · ((conv => rhs; simp (disch := omega) only [go_sem, List.getElem?_map, hx, Option.map_some]); try rfl)
      repeat' (first | with_reducible refine acc_none ?_ | (conv in hold _ => simp (disch := omega) only [go_sem, List.getElem?_map, hx, Option.map_some]) | refine Stp.go ?_ | (with_reducible first | refine it_pos rfl ?_ | refine it_neg (by decide) ?_ | refine st_nil rfl ?_ | refine s_op ?_ ?_ | exact True.intro) | ((with_reducible first | refine dw_reg0 ?_ | refine dw_regB ?_); (conv => arg 3; whnf)) | (refine Spl.go (fun hq he => ?_) (fun hq he => ?_) <;> first | (exfalso; clear hq; omega) | ((try (first | (conv => arg 8; simp only [hq]) | (conv => arg 4; simp only [hq]))); clear hq)) | ((with_reducible first | refine c_split (fun hq => ?_) (fun hq => ?_) | refine q_split (fun hq => ?_) (fun hq => ?_)) <;> (try (first | (conv => arg 8; simp only [hq]) | (conv => arg 4; simp only [hq])))) | (with_reducible refine fin_0 ?_ (by first | rfl | (conv => lhs; simp only [go_sem, List.getElem?_map, hx, Option.map_some])) ?_) | exact Sub.refl _ | omega)
      · refine ⟨hlt, trivial, Wk.list [1000000, 1000001, 3000001] rfl rfl ?_⟩
        repeat' (first | (conv in hold _ => simp (disch := omega) only [go_sem]) | exact True.intro | exact Sub.refl _ | omega)
      · exact rows_pur _
    · have e1 : rs.take rs.length = rs := List.take_length
      repeat' (first | with_reducible refine acc_none ?_ | (conv in hold _ => simp (disch := omega) only [go_sem, e1]) | refine Stp.go ?_ | (with_reducible first | refine it_pos rfl ?_ | refine it_neg (by decide) ?_ | refine st_nil rfl ?_ | refine s_op ?_ ?_ | exact True.intro) | ((with_reducible first | refine dw_reg0 ?_ | refine dw_regB ?_); (conv => arg 3; whnf)) | (refine Spl.go (fun hq he => ?_) (fun hq he => ?_) <;> first | (exfalso; clear hq; omega) | ((try (first | (conv => arg 8; simp only [hq]) | (conv => arg 4; simp only [hq]))); clear hq)) | ((with_reducible first | refine c_split (fun hq => ?_) (fun hq => ?_) | refine q_split (fun hq => ?_) (fun hq => ?_)) <;> (try (first | (conv => arg 8; simp only [hq]) | (conv => arg 4; simp only [hq])))) | (with_reducible refine fin_0 ?_ (by first | rfl | (conv => lhs; simp only [go_sem, e1])) ?_) | exact Sub.refl _ | omega)
      refine fin_L [1000002] ?_ ?_ rfl ?_
      repeat' (first | (conv in hold _ => simp (disch := omega) only [go_sem, e1]) | exact True.intro | exact Sub.refl _ | omega)
theorem tableOf_big (w : Int) (rs : List (List V)) (hl : ¬ rs.length ≤ 400) (hl2 : rs.length < 2000000) : Does Try.prog 45 [] [I w, rowsD rs] (.agg [I w, .nul]) [] := by
  refine does0 c_spec_tableOf mixed (Nat.le_of_ble_eq_true rfl) ?_
  conv => arg 3; whnf
  repeat' (first | with_reducible refine acc_none ?_ | (conv in hold _ => simp (disch := omega) only [go_sem]) | refine Stp.go ?_ | (with_reducible first | refine it_pos rfl ?_ | refine it_neg (by decide) ?_ | refine st_nil rfl ?_ | refine s_op ?_ ?_ | exact True.intro) | ((with_reducible first | refine dw_reg0 ?_ | refine dw_regB ?_); (conv => arg 3; whnf)) | (refine Spl.go (fun hq he => ?_) (fun hq he => ?_) <;> first | (exfalso; clear hq; omega) | ((try (first | (conv => arg 8; simp only [hq]) | (conv => arg 4; simp only [hq]))); clear hq)) | ((with_reducible first | refine c_split (fun hq => ?_) (fun hq => ?_) | refine q_split (fun hq => ?_) (fun hq => ?_)) <;> (try (first | (conv => arg 8; simp only [hq]) | (conv => arg 4; simp only [hq])))) | (with_reducible refine fin_0 ?_ (by first | rfl | (conv => lhs; simp only [go_sem])) ?_) | exact Sub.refl _ | omega)
theorem randomRow_fz {bs : List Nat} (hs : Src bs) (n : Nat) (hn : n < 1000) (p : Nat) (hp : p < 800000000) : ∃ (vs : List V) (q : Nat),
    (Does Try.prog 33 [rdD bs p] [.ref 1000000 0, I n] (rowD vs) [rdD bs q] ∧ vs.length = n ∧ ∀ v, v ∈ vs → v.ok) ∧ p ≤ q ∧ q ≤ p + n * 2 := by
  obtain ⟨vs, ps, hl, h0, hd, hp0, hp1⟩ := draws (fun p v q => Does Try.prog 46 [rdD bs p] [.ref 1000000 0] (vD v) [rdD bs q] ∧ v.ok) 900000000 2 (fun p hp => randomValue_ok hs p hp) n p (by omega)
  refine ⟨vs, ps n, ⟨?_, hl, fun v hv => ?_⟩, hp0, hp1⟩
  · refine does c_spec_randomRow mixed (Nat.le_of_ble_eq_true rfl) 1 rfl ?_
    conv => arg 3; whnf
    repeat' (first | with_reducible refine acc_none ?_ | (conv in hold _ => simp (disch := omega) only [go_sem]) | refine Stp.go ?_ | (with_reducible first | refine it_pos rfl ?_ | refine it_neg (by decide) ?_ | refine st_nil rfl ?_ | refine s_op ?_ ?_ | exact True.intro) | ((with_reducible first | refine dw_reg0 ?_ | refine dw_regB ?_); (conv => arg 3; whnf)) | (refine Spl.go (fun hq he => ?_) (fun hq he => ?_) <;> first | (exfalso; clear hq; omega) | ((try (first | (conv => arg 8; simp only [hq]) | (conv => arg 4; simp only [hq]))); clear hq)) | ((with_reducible first | refine c_split (fun hq => ?_) (fun hq => ?_) | refine q_split (fun hq => ?_) (fun hq => ?_)) <;> (try (first | (conv => arg 8; simp only [hq]) | (conv => arg 4; simp only [hq])))) | (with_reducible refine fin_0 ?_ (by first | rfl | (conv => lhs; simp only [go_sem])) ?_) | exact Sub.refl _ | omega)
    refine dw_for (c := 2) (l := fun i => [(0, .ref 1000000 0), (1, I n), (5, .own 1000001 2 i), (6, I i), (1000000, rdD bs (ps i)), (1000001, .row 2 ((vs.take i).map vD))]) n (fun _ => True) 0 trivial ((wk_row 5 2000005 2 (by decide) (by decide) rfl rfl).trans (Wk.list [1000000, 2000005] rfl rfl ?_)) (fun i hi _ => ?_) (Nat.zero_le n)
    · rw [h0]
      repeat' (first | (conv in hold _ => simp (disch := omega) only [go_sem]) | exact True.intro | exact Sub.refl _ | omega)
      exact rfl
    · have hlt := take_len (vs := vs) (i := i) (by omega)
      have hmt := take_map vD (vs := vs) (i := i) (by omega)
      by_cases hin : i < n
      · obtain ⟨v, hv⟩ : ∃ v, vs[i]? = some v := ⟨vs[i], List.getElem?_eq_getElem (by omega)⟩
        have hnx := take_next hv
        repeat' (first | with_reducible refine acc_none ?_ | (conv in hold _ => simp (disch := omega) only [go_sem]) | refine Stp.go ?_ | (with_reducible first | refine it_pos rfl ?_ | refine it_neg (by decide) ?_ | refine st_nil rfl ?_ | refine s_op ?_ ?_ | exact True.intro) | ((with_reducible first | refine dw_reg0 ?_ | refine dw_regB ?_); (conv => arg 3; whnf)) | (refine Spl.go (fun hq he => ?_) (fun hq he => ?_) <;> first | (exfalso; clear hq; omega) | ((try (first | (conv => arg 8; simp only [hq]) | (conv => arg 4; simp only [hq]))); clear hq)) | ((with_reducible first | refine c_split (fun hq => ?_) (fun hq => ?_) | refine q_split (fun hq => ?_) (fun hq => ?_)) <;> (try (first | (conv => arg 8; simp only [hq]) | (conv => arg 4; simp only [hq])))) | (with_reducible refine fin_0 ?_ (by first | rfl | (conv => lhs; simp only [go_sem])) ?_) | exact Sub.refl _ | omega)
        refine c_doesR [1000000] ((hd i v hv).1) (callOK_of rfl (Nat.le_of_ble_eq_true rfl) rfl ?_ ?_) ?_ ?_
        · repeat' (first | (conv in hold _ => simp (disch := omega) only [go_sem]) | exact True.intro | exact Sub.refl _ | omega)
        · repeat' (first | (conv in hold _ => simp (disch := omega) only [go_sem]) | exact True.intro | exact Sub.refl _ | omega)
        · ((conv => rhs; simp (disch := omega) only [go_sem]); try rfl)
        repeat' (first | with_reducible refine acc_none ?_ | (conv in hold _ => simp (disch := omega) only [go_sem]) | refine Stp.go ?_ | (with_reducible first | refine it_pos rfl ?_ | refine it_neg (by decide) ?_ | refine st_nil rfl ?_ | refine s_op ?_ ?_ | exact True.intro) | ((with_reducible first | refine dw_reg0 ?_ | refine dw_regB ?_); (conv => arg 3; whnf)) | (refine Spl.go (fun hq he => ?_) (fun hq he => ?_) <;> first | (exfalso; clear hq; omega) | ((try (first | (conv => arg 8; simp only [hq]) | (conv => arg 4; simp only [hq]))); clear hq)) | ((with_reducible first | refine c_split (fun hq => ?_) (fun hq => ?_) | refine q_split (fun hq => ?_) (fun hq => ?_)) <;> (try (first | (conv => arg 8; simp only [hq]) | (conv => arg 4; simp only [hq])))) | (with_reducible refine fin_0 ?_ (by first | rfl | (conv => lhs; simp only [go_sem])) ?_) | exact Sub.refl _ | omega)
        refine ⟨by omega, trivial, Wk.list [1000000, 2000017] rfl rfl ?_⟩
        repeat' (first | (conv in hold _ => simp (disch := omega) only [go_sem]) | exact True.intro | exact Sub.refl _ | omega)
        rw [hmt, hnx, List.map_append]
        rfl
      · obtain rfl : i = n := by omega
        have e1 : vs.take i = vs := List.take_of_length_le (by omega)
        have e2 : (vs.map vD).take i = vs.map vD := by rw [← hl]; exact take_all vD vs
        repeat' (first | with_reducible refine acc_none ?_ | (conv in hold _ => simp (disch := omega) only [go_sem, e1]) | refine Stp.go ?_ | (with_reducible first | refine it_pos rfl ?_ | refine it_neg (by decide) ?_ | refine st_nil rfl ?_ | refine s_op ?_ ?_ | exact True.intro) | ((with_reducible first | refine dw_reg0 ?_ | refine dw_regB ?_); (conv => arg 3; whnf)) | (refine Spl.go (fun hq he => ?_) (fun hq he => ?_) <;> first | (exfalso; clear hq; omega) | ((try (first | (conv => arg 8; simp only [hq]) | (conv => arg 4; simp only [hq]))); clear hq)) | ((with_reducible first | refine c_split (fun hq => ?_) (fun hq => ?_) | refine q_split (fun hq => ?_) (fun hq => ?_)) <;> (try (first | (conv => arg 8; simp only [hq]) | (conv => arg 4; simp only [hq])))) | exact Sub.refl _ | omega)
        refine fin_wk (wk_frz 4 1000001 (by decide) (by decide) rfl ?_) ?_
        rotate_left
        (conv in hold _ => simp (disch := omega) only [go_sem, e1, e2, hl])
        · refine fin_L [1000000] ?_ ?_ rfl ?_
          repeat' (first | (conv in hold _ => simp (disch := omega) only [go_sem, e1, e2, hl]) | exact True.intro | exact Sub.refl _ | omega)
        · exact vals_pur _
  · obtain ⟨i, hi⟩ := List.mem_iff_getElem?.1 hv
    exact (hd i v hi).2
end Go.Proofs.Ytldkjccccjiihaa
