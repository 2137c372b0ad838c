/-
  IsDuplicateFree of both packages. No condition.
-/
import Derived.Test.YtpfedjaedlfdfaaDcVWidE
import Derived.Test.YtpfedjaedlfdfaaDca
import Derived.Test.YtpfedjaedlfdfaaDcg
import Derived.Test.YtpfedjaedlfdfaaDch
import Derived.Test.YtpfedjaedlfdfaaKVDfI
set_option maxHeartbeats 4000000
set_option maxRecDepth 100000
set_option linter.unusedVariables false
set_option linter.unusedSimpArgs false
namespace Go.Proofs.Ytpfedjaedlfdfaa
open Go.RowKit

theorem partB_ok (ws : List Int) (sets : List Bool) (p : Pl) (hf : fields p) (hsc : p.k = 1 → 0 ≤ p.t ∧ p.t ≤ (sets.length : Int) - 1) (kp : Bool) (hkp : p.k = 3 → ∀ a : Bool, Does Try.prog 138 [] [.agg [intsD ws, boolsD sets], pD p, Bo a] (Bo (a && kp)) []) {l : List Bool} (hl : l.length = p.ks.length) : Does Try.prog 62 [.obj [dfV ws sets]] [pD p, boolsD l, .ref 1000000 0] (Bo (dfK sets p.k p.t kp l)) [.obj [dfV ws sets]] := by
  have r := propertyB_ok ws sets p hf hsc kp hkp hl
  refine does c_impl_deriveProperty_bool__1 mixed (Nat.le_of_ble_eq_true rfl) 1 rfl ?_
  conv => arg 3; whnf
  repeat' (first | with_reducible refine acc_none ?_ | (conv in hold _ => simp (disch := omega) only [go_sem]) | refine Stp.go ?_ | (with_reducible first | refine it_pos rfl ?_ | refine it_neg (by decide) ?_ | refine st_nil rfl ?_ | refine s_op ?_ ?_ | exact True.intro) | ((with_reducible first | refine dw_reg0 ?_ | refine dw_regB ?_); (conv => arg 3; whnf)) | (refine Spl.go (fun hq he => ?_) (fun hq he => ?_) <;> first | (exfalso; clear hq; omega) | ((try (first | (conv => arg 8; simp only [hq]) | (conv => arg 4; simp only [hq]))); clear hq)) | ((with_reducible first | refine c_split (fun hq => ?_) (fun hq => ?_) | refine q_split (fun hq => ?_) (fun hq => ?_)) <;> (try (first | (conv => arg 8; simp only [hq]) | (conv => arg 4; simp only [hq])))) | (with_reducible refine fin_0 ?_ (by first | rfl | (conv => lhs; simp only [go_sem])) ?_) | exact Sub.refl _ | omega)
  refine c_doesE (r) ?_ ?_ ?_
  · ((try (conv => rhs; simp (disch := omega) only [go_sem])); try rfl)
  · first | rfl | (conv => lhs; simp only [go_sem])
  repeat' (first | with_reducible refine acc_none ?_ | (conv in hold _ => simp (disch := omega) only [go_sem]) | refine Stp.go ?_ | (with_reducible first | refine it_pos rfl ?_ | refine it_neg (by decide) ?_ | refine st_nil rfl ?_ | refine s_op ?_ ?_ | exact True.intro) | ((with_reducible first | refine dw_reg0 ?_ | refine dw_regB ?_); (conv => arg 3; whnf)) | (refine Spl.go (fun hq he => ?_) (fun hq he => ?_) <;> first | (exfalso; clear hq; omega) | ((try (first | (conv => arg 8; simp only [hq]) | (conv => arg 4; simp only [hq]))); clear hq)) | ((with_reducible first | refine c_split (fun hq => ?_) (fun hq => ?_) | refine q_split (fun hq => ?_) (fun hq => ?_)) <;> (try (first | (conv => arg 8; simp only [hq]) | (conv => arg 4; simp only [hq])))) | (with_reducible refine fin_0 ?_ (by first | rfl | (conv => lhs; simp only [go_sem])) ?_) | exact Sub.refl _ | omega)
  refine fin_L [1000000] ?_ ?_ rfl ?_
  repeat' (first | (conv in hold _ => simp (disch := omega) only [go_sem]) | exact True.intro | exact Sub.refl _ | omega)
theorem foldB_step (ws : List Int) (sets : List Bool) (p : Pl) (hs : psz p ≤ 1048576) (q : List Bool) (hl : q.length = p.ks.length) (b : Bool)
    (hk : ∀ (i : Nat) (x : Pl) (c : Bool), p.ks[i]? = some x → q[i]? = some c → Does Try.prog 61 [.obj [dfV ws sets]] [pD x, .fn 62 [.ref 1000000 0]] (Bo c) [.obj [dfV ws sets]])
    (r : Does Try.prog 62 [.obj [dfV ws sets]] [pD p, boolsD q, .ref 1000000 0] (Bo b) [.obj [dfV ws sets]]) : Does Try.prog 61 [.obj [dfV ws sets]] [pD p, .fn 62 [.ref 1000000 0]] (Bo b) [.obj [dfV ws sets]] := by
  rw [psz_eq] at hs
  have hlen := pszL_len p.ks
  refine does c_impl_foldPlan_bool_ mixed (Nat.le_of_ble_eq_true rfl) 1 rfl ?_
  conv => arg 3; whnf
  repeat' (first | with_reducible refine acc_none ?_ | (conv in hold _ => simp (disch := omega) only [go_sem]) | refine Stp.go ?_ | (with_reducible first | refine it_pos rfl ?_ | refine it_neg (by decide) ?_ | refine st_nil rfl ?_ | refine s_op ?_ ?_ | exact True.intro) | ((with_reducible first | refine dw_reg0 ?_ | refine dw_regB ?_); (conv => arg 3; whnf)) | (refine Spl.go (fun hq he => ?_) (fun hq he => ?_) <;> first | (exfalso; clear hq; omega) | ((try (first | (conv => arg 8; simp only [hq]) | (conv => arg 4; simp only [hq]))); clear hq)) | ((with_reducible first | refine c_split (fun hq => ?_) (fun hq => ?_) | refine q_split (fun hq => ?_) (fun hq => ?_)) <;> (try (first | (conv => arg 8; simp only [hq]) | (conv => arg 4; simp only [hq])))) | (with_reducible refine fin_0 ?_ (by first | rfl | (conv => lhs; simp only [go_sem])) ?_) | exact Sub.refl _ | omega)
  refine dw_for (c := 3) (l := fun i => [(1, .fn 62 [.ref 1000000 0]), (2, .ref 1000001 0), (5, .own 1000002 1 i), (9, .sl 5 (p.ks.map pD)), (10, I p.ks.length), (11, I i), (1000000, .obj [dfV ws sets]), (1000001, .obj [I p.k, I p.t, .sl 5 (p.es.map eD), intsD p.cs, .sl 5 (p.ks.map pD)]), (1000002, .row 1 ((q.take i).map Bo))]) p.ks.length (fun _ => True) 0 trivial ((wk_row 5 2000020 1 (by decide) (by decide) rfl rfl).trans (Wk.list [1000000, 2000002, 2000020] rfl rfl ?_)) (fun i hi _ => ?_) (Nat.zero_le _)
  · repeat' (first | (conv in hold _ => simp (disch := omega) only [go_sem]) | exact True.intro | exact Sub.refl _ | omega)
    exact rfl
  · have htl : (q.take i).length = i := by rw [List.length_take]; omega
    have hmk := take_map Bo (vs := q) (i := i) (by omega)
    by_cases hil : i < p.ks.length
    · obtain ⟨x, hx⟩ : ∃ x, p.ks[i]? = some x := ⟨_, List.getElem?_eq_getElem hil⟩
      obtain ⟨c, hqx, _⟩ := getB_ex (l := q) (i := i) (by omega)
      have hix := hk i x c hx hqx
      have hnx := take_next hqx
      repeat' (first | with_reducible refine acc_none ?_ | (conv in hold _ => simp (disch := omega) only [go_sem, List.getElem?_map, hx, Option.map_some]) | refine Stp.go ?_ | (with_reducible first | refine it_pos rfl ?_ | refine it_neg (by decide) ?_ | refine st_nil rfl ?_ | refine s_op ?_ ?_ | exact True.intro) | ((with_reducible first | refine dw_reg0 ?_ | refine dw_regB ?_); (conv => arg 3; whnf)) | (refine Spl.go (fun hq he => ?_) (fun hq he => ?_) <;> first | (exfalso; clear hq; omega) | ((try (first | (conv => arg 8; simp only [hq]) | (conv => arg 4; simp only [hq]))); clear hq)) | ((with_reducible first | refine c_split (fun hq => ?_) (fun hq => ?_) | refine q_split (fun hq => ?_) (fun hq => ?_)) <;> (try (first | (conv => arg 8; simp only [hq]) | (conv => arg 4; simp only [hq])))) | (with_reducible refine fin_0 ?_ (by first | rfl | (conv => lhs; simp only [go_sem, List.getElem?_map, hx, Option.map_some])) ?_) | exact Sub.refl _ | omega)
      refine c_doesR [1000000] (hix) (callOK_of rfl (Nat.le_of_ble_eq_true rfl) rfl ?_ ?_) ?_ ?_
      · repeat' (first | (conv in hold _ => simp (disch := omega) only [go_sem, List.length_map, htl]) | exact True.intro | exact Sub.refl _ | omega)
      · repeat' (first | (conv in hold _ => simp (disch := omega) only [go_sem, List.length_map, htl]) | exact True.intro | exact Sub.refl _ | omega)
      · ((conv => rhs; simp (disch := omega) only [go_sem, List.length_map, htl]); try rfl)
      repeat' (first | with_reducible refine acc_none ?_ | (conv in hold _ => simp (disch := omega) only [go_sem, List.length_map, htl]) | refine Stp.go ?_ | (with_reducible first | refine it_pos rfl ?_ | refine it_neg (by decide) ?_ | refine st_nil rfl ?_ | refine s_op ?_ ?_ | exact True.intro) | ((with_reducible first | refine dw_reg0 ?_ | refine dw_regB ?_); (conv => arg 3; whnf)) | (refine Spl.go (fun hq he => ?_) (fun hq he => ?_) <;> first | (exfalso; clear hq; omega) | ((try (first | (conv => arg 8; simp only [hq]) | (conv => arg 4; simp only [hq]))); clear hq)) | ((with_reducible first | refine c_split (fun hq => ?_) (fun hq => ?_) | refine q_split (fun hq => ?_) (fun hq => ?_)) <;> (try (first | (conv => arg 8; simp only [hq]) | (conv => arg 4; simp only [hq])))) | (with_reducible refine fin_0 ?_ (by first | rfl | (conv => lhs; simp only [go_sem, List.length_map, htl])) ?_) | exact Sub.refl _ | omega)
      refine ⟨hil, trivial, Wk.list [1000000, 1000001, 2000020] rfl rfl ?_⟩
      repeat' (first | (conv in hold _ => simp (disch := omega) only [go_sem, List.length_map, htl]) | exact True.intro | exact Sub.refl _ | omega)
      rw [hmk, hnx, List.map_append]
      rfl
    · obtain rfl : i = p.ks.length := by omega
      have e1 : q.take p.ks.length = q := List.take_of_length_le (by omega)
      have e2 : (q.map Bo).take p.ks.length = q.map Bo := List.take_of_length_le (by rw [List.length_map]; omega)
      repeat' ((fail_if_success (with_reducible first | refine s_call ?_ | refine s_cal ?_ | refine s_inv ?_)); first | with_reducible refine acc_none ?_ | (conv in hold _ => simp (disch := omega) only [go_sem, e1]) | refine Stp.go ?_ | (with_reducible first | refine it_pos rfl ?_ | refine it_neg (by decide) ?_ | refine st_nil rfl ?_ | refine s_op ?_ ?_ | exact True.intro) | ((with_reducible first | refine dw_reg0 ?_ | refine dw_regB ?_); (conv => arg 3; whnf)) | (refine Spl.go (fun hq he => ?_) (fun hq he => ?_) <;> first | (exfalso; clear hq; omega) | ((try (first | (conv => arg 8; simp only [hq]) | (conv => arg 4; simp only [hq]))); clear hq)) | ((with_reducible first | refine c_split (fun hq => ?_) (fun hq => ?_) | refine q_split (fun hq => ?_) (fun hq => ?_)) <;> (try (first | (conv => arg 8; simp only [hq]) | (conv => arg 4; simp only [hq])))) | (with_reducible refine fin_0 ?_ (by first | rfl | (conv => lhs; simp only [go_sem, e1])) ?_) | exact Sub.refl _ | omega)
      refine s_pre (pre_frz (t := 24) (g := 1000002) (by decide) (by decide) rfl ?_) ?_
      rotate_left
      repeat' (first | with_reducible refine acc_none ?_ | (conv in hold _ => simp (disch := omega) only [go_sem, e1, e2, hl, Nat.le_refl]) | refine Stp.go ?_ | (with_reducible first | refine it_pos rfl ?_ | refine it_neg (by decide) ?_ | refine st_nil rfl ?_ | refine s_op ?_ ?_ | exact True.intro) | ((with_reducible first | refine dw_reg0 ?_ | refine dw_regB ?_); (conv => arg 3; whnf)) | (refine Spl.go (fun hq he => ?_) (fun hq he => ?_) <;> first | (exfalso; clear hq; omega) | ((try (first | (conv => arg 8; simp only [hq]) | (conv => arg 4; simp only [hq]))); clear hq)) | ((with_reducible first | refine c_split (fun hq => ?_) (fun hq => ?_) | refine q_split (fun hq => ?_) (fun hq => ?_)) <;> (try (first | (conv => arg 8; simp only [hq]) | (conv => arg 4; simp only [hq])))) | (with_reducible refine fin_0 ?_ (by first | rfl | (conv => lhs; simp only [go_sem, e1, e2, hl, Nat.le_refl])) ?_) | exact Sub.refl _ | omega)
      refine v_fn ((by kernel_rfl)) ?_
      refine c_doesR [1000000] (r) (callOK_of rfl (Nat.le_of_ble_eq_true rfl) rfl ?_ ?_) ?_ ?_
      · repeat' (first | (conv in hold _ => simp (disch := omega) only [go_sem]) | exact True.intro | exact Sub.refl _ | omega)
      · repeat' (first | (conv in hold _ => simp (disch := omega) only [go_sem]) | exact True.intro | exact Sub.refl _ | omega)
      · ((conv => rhs; simp (disch := omega) only [go_sem]); try rfl)
      repeat' (first | with_reducible refine acc_none ?_ | (conv in hold _ => simp (disch := omega) only [go_sem]) | refine Stp.go ?_ | (with_reducible first | refine it_pos rfl ?_ | refine it_neg (by decide) ?_ | refine st_nil rfl ?_ | refine s_op ?_ ?_ | exact True.intro) | ((with_reducible first | refine dw_reg0 ?_ | refine dw_regB ?_); (conv => arg 3; whnf)) | (refine Spl.go (fun hq he => ?_) (fun hq he => ?_) <;> first | (exfalso; clear hq; omega) | ((try (first | (conv => arg 8; simp only [hq]) | (conv => arg 4; simp only [hq]))); clear hq)) | ((with_reducible first | refine c_split (fun hq => ?_) (fun hq => ?_) | refine q_split (fun hq => ?_) (fun hq => ?_)) <;> (try (first | (conv => arg 8; simp only [hq]) | (conv => arg 4; simp only [hq])))) | (with_reducible refine fin_0 ?_ (by first | rfl | (conv => lhs; simp only [go_sem])) ?_) | exact Sub.refl _ | omega)
      refine fin_L [1000000] ?_ ?_ rfl ?_
      repeat' (first | (conv in hold _ => simp (disch := omega) only [go_sem]) | exact True.intro | exact Sub.refl _ | omega)
      exact bools_pur _
theorem all_next {q : List Bool} {i : Nat} {c : Bool} (h : q[i]? = some c) : (q.take (i + 1)).all id = ((q.take i).all id && c) := by
  rw [take_next h, List.all_append, List.all_cons, List.all_nil, Bool.and_true]
  rfl
theorem all_f {q : List Bool} {i : Nat} (h : q[i]? = some false) : q.all id = false := by
  rw [← Bool.not_eq_true, List.all_eq_true]
  intro ha
  have := ha false (List.mem_of_getElem? h)
  cases this
theorem specB_step (ws : List Int) (sets : List Bool) (p : Pl) (hf : fields p) (hlen : p.ks.length ≤ 1048576) (hsc : p.k = 1 → 0 ≤ p.t ∧ p.t ≤ (sets.length : Int) - 1) (kp : Bool) (n : Int) (hn : 0 ≤ n ∧ n ≤ 6)
    (hkp : p.k = 3 → ∀ x0, p.ks[0]? = some x0 → Does Try.prog 54 [] [pD x0, intsD ws, I 8] (I n) [] ∧ Does Try.prog 64 [] [.sl 5 (p.es.map eD), I n] (Bo kp) []) (q : List Bool) (hl : q.length = p.ks.length)
    (hk : ∀ (i : Nat) (x : Pl) (c : Bool), p.ks[i]? = some x → q[i]? = some c → Does Try.prog 40 [] [pD x, intsD ws, boolsD sets] (Bo c) []) : Does Try.prog 40 [] [pD p, intsD ws, boolsD sets] (Bo (dfK sets p.k p.t kp q)) [] := by
  unfold fields at hf
  unfold dfK
  by_cases h1 : p.k = 1
  · obtain ⟨x, hx, hg⟩ := getB_ex (l := sets) (i := p.t.toNat) (by have := hsc h1; omega)
    have hs := hsc h1
    rw [if_pos h1, hg]
    refine does0 c_spec_duplicateFree mixed (Nat.le_of_ble_eq_true rfl) ?_
    conv => arg 3; whnf
    repeat' (first | with_reducible refine acc_none ?_ | (conv in hold _ => simp (disch := omega) only [go_sem, List.getElem?_map, hx, Option.map_some]) | refine Stp.go ?_ | (with_reducible first | refine it_pos rfl ?_ | refine it_neg (by decide) ?_ | refine st_nil rfl ?_ | refine s_op ?_ ?_ | exact True.intro) | ((with_reducible first | refine dw_reg0 ?_ | refine dw_regB ?_); (conv => arg 3; whnf)) | (refine Spl.go (fun hq he => ?_) (fun hq he => ?_) <;> first | (exfalso; clear hq; omega) | ((try (first | (conv => arg 8; simp only [hq]) | (conv => arg 4; simp only [hq]))); clear hq)) | ((with_reducible first | refine c_split (fun hq => ?_) (fun hq => ?_) | refine q_split (fun hq => ?_) (fun hq => ?_)) <;> (try (first | (conv => arg 8; simp only [hq]) | (conv => arg 4; simp only [hq])))) | (with_reducible refine fin_0 ?_ (by first | rfl | (conv => lhs; simp only [go_sem, List.getElem?_map, hx, Option.map_some])) ?_) | exact Sub.refl _ | omega)
  · rw [if_neg h1]
    by_cases h6 : p.k = 6
    · rw [if_pos h6]
      refine does0 c_spec_duplicateFree mixed (Nat.le_of_ble_eq_true rfl) ?_
      conv => arg 3; whnf
      repeat' (first | with_reducible refine acc_none ?_ | (conv in hold _ => simp (disch := omega) only [go_sem]) | refine Stp.go ?_ | (with_reducible first | refine it_pos rfl ?_ | refine it_neg (by decide) ?_ | refine st_nil rfl ?_ | refine s_op ?_ ?_ | exact True.intro) | ((with_reducible first | refine dw_reg0 ?_ | refine dw_regB ?_); (conv => arg 3; whnf)) | (refine Spl.go (fun hq he => ?_) (fun hq he => ?_) <;> first | (exfalso; clear hq; omega) | ((try (first | (conv => arg 8; simp only [hq]) | (conv => arg 4; simp only [hq]))); clear hq)) | ((with_reducible first | refine c_split (fun hq => ?_) (fun hq => ?_) | refine q_split (fun hq => ?_) (fun hq => ?_)) <;> (try (first | (conv => arg 8; simp only [hq]) | (conv => arg 4; simp only [hq])))) | (with_reducible refine fin_0 ?_ (by first | rfl | (conv => lhs; simp only [go_sem])) ?_) | exact Sub.refl _ | omega)
    · rw [if_neg h6]
      by_cases h78 : p.k = 7 ∨ p.k = 8
      · rw [if_pos h78]
        refine does0 c_spec_duplicateFree mixed (Nat.le_of_ble_eq_true rfl) ?_
        conv => arg 3; whnf
        repeat' (first | with_reducible refine acc_none ?_ | (conv in hold _ => simp (disch := omega) only [go_sem]) | refine Stp.go ?_ | (with_reducible first | refine it_pos rfl ?_ | refine it_neg (by decide) ?_ | refine st_nil rfl ?_ | refine s_op ?_ ?_ | exact True.intro) | ((with_reducible first | refine dw_reg0 ?_ | refine dw_regB ?_); (conv => arg 3; whnf)) | (refine Spl.go (fun hq he => ?_) (fun hq he => ?_) <;> first | (exfalso; clear hq; omega) | ((try (first | (conv => arg 8; simp only [hq]) | (conv => arg 4; simp only [hq]))); clear hq)) | ((with_reducible first | refine c_split (fun hq => ?_) (fun hq => ?_) | refine q_split (fun hq => ?_) (fun hq => ?_)) <;> (try (first | (conv => arg 8; simp only [hq]) | (conv => arg 4; simp only [hq])))) | (with_reducible refine fin_0 ?_ (by first | rfl | (conv => lhs; simp only [go_sem])) ?_) | exact Sub.refl _ | omega)
      · rw [if_neg h78]
        by_cases h3 : p.k = 3
        · obtain ⟨x0, hx0⟩ : ∃ x, p.ks[0]? = some x := ⟨_, List.getElem?_eq_getElem (by omega)⟩
          obtain ⟨c0, hc0, gc⟩ := getB_ex (l := q) (i := 0) (by omega)
          obtain ⟨r1, r2⟩ := hkp h3 x0 hx0
          have r3 := hk 0 x0 c0 hx0 hc0
          rw [if_pos h3, gc]
          cases kp with
          | true =>
            rw [Bool.and_true]
            refine does0 c_spec_duplicateFree mixed (Nat.le_of_ble_eq_true rfl) ?_
            conv => arg 3; whnf
            repeat' (first | with_reducible refine acc_none ?_ | (conv in hold _ => simp (disch := omega) only [go_sem, List.getElem?_map, hx0, Option.map_some]) | refine Stp.go ?_ | (with_reducible first | refine it_pos rfl ?_ | refine it_neg (by decide) ?_ | refine st_nil rfl ?_ | refine s_op ?_ ?_ | exact True.intro) | ((with_reducible first | refine dw_reg0 ?_ | refine dw_regB ?_); (conv => arg 3; whnf)) | (refine Spl.go (fun hq he => ?_) (fun hq he => ?_) <;> first | (exfalso; clear hq; omega) | ((try (first | (conv => arg 8; simp only [hq]) | (conv => arg 4; simp only [hq]))); clear hq)) | ((with_reducible first | refine c_split (fun hq => ?_) (fun hq => ?_) | refine q_split (fun hq => ?_) (fun hq => ?_)) <;> (try (first | (conv => arg 8; simp only [hq]) | (conv => arg 4; simp only [hq])))) | (with_reducible refine fin_0 ?_ (by first | rfl | (conv => lhs; simp only [go_sem, List.getElem?_map, hx0, Option.map_some])) ?_) | exact Sub.refl _ | omega)
            refine c_doesE (r1) ?_ ?_ ?_
            · ((try (conv => rhs; simp (disch := omega) only [go_sem])); try rfl)
            · first | rfl | (conv => lhs; simp only [go_sem])
            repeat' (first | with_reducible refine acc_none ?_ | (conv in hold _ => simp (disch := omega) only [go_sem]) | refine Stp.go ?_ | (with_reducible first | refine it_pos rfl ?_ | refine it_neg (by decide) ?_ | refine st_nil rfl ?_ | refine s_op ?_ ?_ | exact True.intro) | ((with_reducible first | refine dw_reg0 ?_ | refine dw_regB ?_); (conv => arg 3; whnf)) | (refine Spl.go (fun hq he => ?_) (fun hq he => ?_) <;> first | (exfalso; clear hq; omega) | ((try (first | (conv => arg 8; simp only [hq]) | (conv => arg 4; simp only [hq]))); clear hq)) | ((with_reducible first | refine c_split (fun hq => ?_) (fun hq => ?_) | refine q_split (fun hq => ?_) (fun hq => ?_)) <;> (try (first | (conv => arg 8; simp only [hq]) | (conv => arg 4; simp only [hq])))) | (with_reducible refine fin_0 ?_ (by first | rfl | (conv => lhs; simp only [go_sem])) ?_) | exact Sub.refl _ | omega)
            refine c_doesE (r2) ?_ ?_ ?_
            · ((try (conv => rhs; simp (disch := omega) only [go_sem, List.getElem?_map, hx0, Option.map_some])); try rfl)
            · first | rfl | (conv => lhs; simp only [go_sem, List.getElem?_map, hx0, Option.map_some])
            repeat' (first | with_reducible refine acc_none ?_ | (conv in hold _ => simp (disch := omega) only [go_sem, List.getElem?_map, hx0, Option.map_some]) | refine Stp.go ?_ | (with_reducible first | refine it_pos rfl ?_ | refine it_neg (by decide) ?_ | refine st_nil rfl ?_ | refine s_op ?_ ?_ | exact True.intro) | ((with_reducible first | refine dw_reg0 ?_ | refine dw_regB ?_); (conv => arg 3; whnf)) | (refine Spl.go (fun hq he => ?_) (fun hq he => ?_) <;> first | (exfalso; clear hq; omega) | ((try (first | (conv => arg 8; simp only [hq]) | (conv => arg 4; simp only [hq]))); clear hq)) | ((with_reducible first | refine c_split (fun hq => ?_) (fun hq => ?_) | refine q_split (fun hq => ?_) (fun hq => ?_)) <;> (try (first | (conv => arg 8; simp only [hq]) | (conv => arg 4; simp only [hq])))) | (with_reducible refine fin_0 ?_ (by first | rfl | (conv => lhs; simp only [go_sem, List.getElem?_map, hx0, Option.map_some])) ?_) | exact Sub.refl _ | omega)
            refine c_doesE (r3) ?_ ?_ ?_
            · ((try (conv => rhs; simp (disch := omega) only [go_sem])); try rfl)
            · first | rfl | (conv => lhs; simp only [go_sem])
            repeat' (first | with_reducible refine acc_none ?_ | (conv in hold _ => simp (disch := omega) only [go_sem]) | refine Stp.go ?_ | (with_reducible first | refine it_pos rfl ?_ | refine it_neg (by decide) ?_ | refine st_nil rfl ?_ | refine s_op ?_ ?_ | exact True.intro) | ((with_reducible first | refine dw_reg0 ?_ | refine dw_regB ?_); (conv => arg 3; whnf)) | (refine Spl.go (fun hq he => ?_) (fun hq he => ?_) <;> first | (exfalso; clear hq; omega) | ((try (first | (conv => arg 8; simp only [hq]) | (conv => arg 4; simp only [hq]))); clear hq)) | ((with_reducible first | refine c_split (fun hq => ?_) (fun hq => ?_) | refine q_split (fun hq => ?_) (fun hq => ?_)) <;> (try (first | (conv => arg 8; simp only [hq]) | (conv => arg 4; simp only [hq])))) | (with_reducible refine fin_0 ?_ (by first | rfl | (conv => lhs; simp only [go_sem])) ?_) | exact Sub.refl _ | omega)
          | false =>
            rw [Bool.and_false]
            refine does0 c_spec_duplicateFree mixed (Nat.le_of_ble_eq_true rfl) ?_
            conv => arg 3; whnf
            repeat' (first | with_reducible refine acc_none ?_ | (conv in hold _ => simp (disch := omega) only [go_sem, List.getElem?_map, hx0, Option.map_some]) | refine Stp.go ?_ | (with_reducible first | refine it_pos rfl ?_ | refine it_neg (by decide) ?_ | refine st_nil rfl ?_ | refine s_op ?_ ?_ | exact True.intro) | ((with_reducible first | refine dw_reg0 ?_ | refine dw_regB ?_); (conv => arg 3; whnf)) | (refine Spl.go (fun hq he => ?_) (fun hq he => ?_) <;> first | (exfalso; clear hq; omega) | ((try (first | (conv => arg 8; simp only [hq]) | (conv => arg 4; simp only [hq]))); clear hq)) | ((with_reducible first | refine c_split (fun hq => ?_) (fun hq => ?_) | refine q_split (fun hq => ?_) (fun hq => ?_)) <;> (try (first | (conv => arg 8; simp only [hq]) | (conv => arg 4; simp only [hq])))) | (with_reducible refine fin_0 ?_ (by first | rfl | (conv => lhs; simp only [go_sem, List.getElem?_map, hx0, Option.map_some])) ?_) | exact Sub.refl _ | omega)
            refine c_doesE (r1) ?_ ?_ ?_
            · ((try (conv => rhs; simp (disch := omega) only [go_sem])); try rfl)
            · first | rfl | (conv => lhs; simp only [go_sem])
            repeat' (first | with_reducible refine acc_none ?_ | (conv in hold _ => simp (disch := omega) only [go_sem]) | refine Stp.go ?_ | (with_reducible first | refine it_pos rfl ?_ | refine it_neg (by decide) ?_ | refine st_nil rfl ?_ | refine s_op ?_ ?_ | exact True.intro) | ((with_reducible first | refine dw_reg0 ?_ | refine dw_regB ?_); (conv => arg 3; whnf)) | (refine Spl.go (fun hq he => ?_) (fun hq he => ?_) <;> first | (exfalso; clear hq; omega) | ((try (first | (conv => arg 8; simp only [hq]) | (conv => arg 4; simp only [hq]))); clear hq)) | ((with_reducible first | refine c_split (fun hq => ?_) (fun hq => ?_) | refine q_split (fun hq => ?_) (fun hq => ?_)) <;> (try (first | (conv => arg 8; simp only [hq]) | (conv => arg 4; simp only [hq])))) | (with_reducible refine fin_0 ?_ (by first | rfl | (conv => lhs; simp only [go_sem])) ?_) | exact Sub.refl _ | omega)
            refine c_doesE (r2) ?_ ?_ ?_
            · ((try (conv => rhs; simp (disch := omega) only [go_sem])); try rfl)
            · first | rfl | (conv => lhs; simp only [go_sem])
            repeat' (first | with_reducible refine acc_none ?_ | (conv in hold _ => simp (disch := omega) only [go_sem]) | refine Stp.go ?_ | (with_reducible first | refine it_pos rfl ?_ | refine it_neg (by decide) ?_ | refine st_nil rfl ?_ | refine s_op ?_ ?_ | exact True.intro) | ((with_reducible first | refine dw_reg0 ?_ | refine dw_regB ?_); (conv => arg 3; whnf)) | (refine Spl.go (fun hq he => ?_) (fun hq he => ?_) <;> first | (exfalso; clear hq; omega) | ((try (first | (conv => arg 8; simp only [hq]) | (conv => arg 4; simp only [hq]))); clear hq)) | ((with_reducible first | refine c_split (fun hq => ?_) (fun hq => ?_) | refine q_split (fun hq => ?_) (fun hq => ?_)) <;> (try (first | (conv => arg 8; simp only [hq]) | (conv => arg 4; simp only [hq])))) | (with_reducible refine fin_0 ?_ (by first | rfl | (conv => lhs; simp only [go_sem])) ?_) | exact Sub.refl _ | omega)
        · rw [if_neg h3]
          refine does0 c_spec_duplicateFree mixed (Nat.le_of_ble_eq_true rfl) ?_
          conv => arg 3; whnf
          repeat' (first | with_reducible refine acc_none ?_ | (conv in hold _ => simp (disch := omega) only [go_sem]) | refine Stp.go ?_ | (with_reducible first | refine it_pos rfl ?_ | refine it_neg (by decide) ?_ | refine st_nil rfl ?_ | refine s_op ?_ ?_ | exact True.intro) | ((with_reducible first | refine dw_reg0 ?_ | refine dw_regB ?_); (conv => arg 3; whnf)) | (refine Spl.go (fun hq he => ?_) (fun hq he => ?_) <;> first | (exfalso; clear hq; omega) | ((try (first | (conv => arg 8; simp only [hq]) | (conv => arg 4; simp only [hq]))); clear hq)) | ((with_reducible first | refine c_split (fun hq => ?_) (fun hq => ?_) | refine q_split (fun hq => ?_) (fun hq => ?_)) <;> (try (first | (conv => arg 8; simp only [hq]) | (conv => arg 4; simp only [hq])))) | (with_reducible refine fin_0 ?_ (by first | rfl | (conv => lhs; simp only [go_sem])) ?_) | exact Sub.refl _ | omega)
          refine dw_for (c := 1) (l := fun i => [(1, intsD ws), (2, boolsD sets), (3, .ref 1000000 0), (7, I i), (1000000, .obj [I p.k, I p.t, .sl 5 (p.es.map eD), intsD p.cs, .sl 5 (p.ks.map pD)])]) p.ks.length (fun i => (q.take i).all id = true) 0 (by rw [List.take_zero]; rfl) (Wk.list [2000003] rfl rfl ?_) (fun i hi hJ => ?_) (Nat.zero_le _)
          · repeat' (first | (conv in hold _ => simp (disch := omega) only [go_sem]) | exact True.intro | exact Sub.refl _ | omega)
            exact rfl
          · by_cases hil : i < p.ks.length
            · obtain ⟨x, hx⟩ : ∃ x, p.ks[i]? = some x := ⟨_, List.getElem?_eq_getElem hil⟩
              obtain ⟨c, hqx, _⟩ := getB_ex (l := q) (i := i) (by omega)
              have hix := hk i x c hx hqx
              have hnx := all_next hqx
              cases c with
              | true =>
                repeat' (first | with_reducible refine acc_none ?_ | (conv in hold _ => simp (disch := omega) only [go_sem, List.getElem?_map, hx, Option.map_some]) | refine Stp.go ?_ | (with_reducible first | refine it_pos rfl ?_ | refine it_neg (by decide) ?_ | refine st_nil rfl ?_ | refine s_op ?_ ?_ | exact True.intro) | ((with_reducible first | refine dw_reg0 ?_ | refine dw_regB ?_); (conv => arg 3; whnf)) | (refine Spl.go (fun hq he => ?_) (fun hq he => ?_) <;> first | (exfalso; clear hq; omega) | ((try (first | (conv => arg 8; simp only [hq]) | (conv => arg 4; simp only [hq]))); clear hq)) | ((with_reducible first | refine c_split (fun hq => ?_) (fun hq => ?_) | refine q_split (fun hq => ?_) (fun hq => ?_)) <;> (try (first | (conv => arg 8; simp only [hq]) | (conv => arg 4; simp only [hq])))) | (with_reducible refine fin_0 ?_ (by first | rfl | (conv => lhs; simp only [go_sem, List.getElem?_map, hx, Option.map_some])) ?_) | exact Sub.refl _ | omega)
                refine c_doesE (hix) ?_ ?_ ?_
                · ((try (conv => rhs; simp (disch := omega) only [go_sem])); try rfl)
                · first | rfl | (conv => lhs; simp only [go_sem])
                repeat' (first | with_reducible refine acc_none ?_ | (conv in hold _ => simp (disch := omega) only [go_sem]) | refine Stp.go ?_ | (with_reducible first | refine it_pos rfl ?_ | refine it_neg (by decide) ?_ | refine st_nil rfl ?_ | refine s_op ?_ ?_ | exact True.intro) | ((with_reducible first | refine dw_reg0 ?_ | refine dw_regB ?_); (conv => arg 3; whnf)) | (refine Spl.go (fun hq he => ?_) (fun hq he => ?_) <;> first | (exfalso; clear hq; omega) | ((try (first | (conv => arg 8; simp only [hq]) | (conv => arg 4; simp only [hq]))); clear hq)) | ((with_reducible first | refine c_split (fun hq => ?_) (fun hq => ?_) | refine q_split (fun hq => ?_) (fun hq => ?_)) <;> (try (first | (conv => arg 8; simp only [hq]) | (conv => arg 4; simp only [hq])))) | (with_reducible refine fin_0 ?_ (by first | rfl | (conv => lhs; simp only [go_sem])) ?_) | exact Sub.refl _ | omega)
                refine ⟨hil, by rw [hnx, hJ]; rfl, Wk.list [1000000] rfl rfl ?_⟩
                repeat' (first | (conv in hold _ => simp (disch := omega) only [go_sem]) | exact True.intro | exact Sub.refl _ | omega)
              | false =>
                rw [all_f hqx]
                repeat' (first | with_reducible refine acc_none ?_ | (conv in hold _ => simp (disch := omega) only [go_sem, List.getElem?_map, hx, Option.map_some]) | refine Stp.go ?_ | (with_reducible first | refine it_pos rfl ?_ | refine it_neg (by decide) ?_ | refine st_nil rfl ?_ | refine s_op ?_ ?_ | exact True.intro) | ((with_reducible first | refine dw_reg0 ?_ | refine dw_regB ?_); (conv => arg 3; whnf)) | (refine Spl.go (fun hq he => ?_) (fun hq he => ?_) <;> first | (exfalso; clear hq; omega) | ((try (first | (conv => arg 8; simp only [hq]) | (conv => arg 4; simp only [hq]))); clear hq)) | ((with_reducible first | refine c_split (fun hq => ?_) (fun hq => ?_) | refine q_split (fun hq => ?_) (fun hq => ?_)) <;> (try (first | (conv => arg 8; simp only [hq]) | (conv => arg 4; simp only [hq])))) | (with_reducible refine fin_0 ?_ (by first | rfl | (conv => lhs; simp only [go_sem, List.getElem?_map, hx, Option.map_some])) ?_) | exact Sub.refl _ | omega)
                refine c_doesE (hix) ?_ ?_ ?_
                · ((try (conv => rhs; simp (disch := omega) only [go_sem])); try rfl)
                · first | rfl | (conv => lhs; simp only [go_sem])
                repeat' (first | with_reducible refine acc_none ?_ | (conv in hold _ => simp (disch := omega) only [go_sem]) | refine Stp.go ?_ | (with_reducible first | refine it_pos rfl ?_ | refine it_neg (by decide) ?_ | refine st_nil rfl ?_ | refine s_op ?_ ?_ | exact True.intro) | ((with_reducible first | refine dw_reg0 ?_ | refine dw_regB ?_); (conv => arg 3; whnf)) | (refine Spl.go (fun hq he => ?_) (fun hq he => ?_) <;> first | (exfalso; clear hq; omega) | ((try (first | (conv => arg 8; simp only [hq]) | (conv => arg 4; simp only [hq]))); clear hq)) | ((with_reducible first | refine c_split (fun hq => ?_) (fun hq => ?_) | refine q_split (fun hq => ?_) (fun hq => ?_)) <;> (try (first | (conv => arg 8; simp only [hq]) | (conv => arg 4; simp only [hq])))) | (with_reducible refine fin_0 ?_ (by first | rfl | (conv => lhs; simp only [go_sem])) ?_) | exact Sub.refl _ | omega)
            · obtain rfl : i = p.ks.length := by omega
              rw [List.take_of_length_le (by omega)] at hJ
              rw [hJ]
              repeat' (first | with_reducible refine acc_none ?_ | (conv in hold _ => simp (disch := omega) only [go_sem]) | refine Stp.go ?_ | (with_reducible first | refine it_pos rfl ?_ | refine it_neg (by decide) ?_ | refine st_nil rfl ?_ | refine s_op ?_ ?_ | exact True.intro) | ((with_reducible first | refine dw_reg0 ?_ | refine dw_regB ?_); (conv => arg 3; whnf)) | (refine Spl.go (fun hq he => ?_) (fun hq he => ?_) <;> first | (exfalso; clear hq; omega) | ((try (first | (conv => arg 8; simp only [hq]) | (conv => arg 4; simp only [hq]))); clear hq)) | ((with_reducible first | refine c_split (fun hq => ?_) (fun hq => ?_) | refine q_split (fun hq => ?_) (fun hq => ?_)) <;> (try (first | (conv => arg 8; simp only [hq]) | (conv => arg 4; simp only [hq])))) | (with_reducible refine fin_0 ?_ (by first | rfl | (conv => lhs; simp only [go_sem])) ?_) | exact Sub.refl _ | omega)
theorem dup_ok {ws : List Int} (hw : wsOk ws) {sets : List Bool} (hsl : sets.length = ws.length) : ∀ p : Pl, Fine ws.length p → psz p ≤ 1048576 → ∃ b : Bool, Does Try.prog 40 [] [pD p, intsD ws, boolsD sets] (Bo b) [] ∧ Does Try.prog 61 [.obj [dfV ws sets]] [pD p, .fn 62 [.ref 1000000 0]] (Bo b) [.obj [dfV ws sets]] := by
  refine Pl.indA (fun p ih hp hs => ?_)
  have hs0 := hs
  rw [psz_eq] at hs
  have hlen := pszL_len p.ks
  have hel := eszL_len p.es
  have hf := hp.fields
  have hsc : p.k = 1 → 0 ≤ p.t ∧ p.t ≤ (sets.length : Int) - 1 := fun h => by rw [hsl]; exact hp.scan h
  obtain ⟨q, hl, hq⟩ := list_of (P := fun (x : Pl) (b : Bool) => Does Try.prog 40 [] [pD x, intsD ws, boolsD sets] (Bo b) [] ∧ Does Try.prog 61 [.obj [dfV ws sets]] [pD x, .fn 62 [.ref 1000000 0]] (Bo b) [.obj [dfV ws sets]]) p.ks (fun x hx => ih x hx (hp.kid hx) (by have := pszL_mem hx; omega))
  by_cases h3 : p.k = 3
  · obtain ⟨x0, hx0⟩ : ∃ x, p.ks[0]? = some x := ⟨_, List.getElem?_eq_getElem (by unfold fields at hf; omega)⟩
    have hm0 := List.mem_of_getElem? hx0
    obtain ⟨n, ⟨hn, _⟩, hA, hB⟩ := width_fine hw x0 (by have := pszL_mem hm0; omega) 8 (by decide)
    have h2 := validWidths_impl ws (by have := hw.1; omega)
    rw [decide_eq_true hw] at h2
    have hPW : Does Try.prog 13 [] [pD x0, intsD ws] (I n) [] := by
      refine does0 c_impl_PlanWidth mixed (Nat.le_of_ble_eq_true rfl) ?_
      conv => arg 3; whnf
      repeat' (first | with_reducible refine acc_none ?_ | (conv in hold _ => simp (disch := omega) only [go_sem]) | refine Stp.go ?_ | (with_reducible first | refine it_pos rfl ?_ | refine it_neg (by decide) ?_ | refine st_nil rfl ?_ | refine s_op ?_ ?_ | exact True.intro) | ((with_reducible first | refine dw_reg0 ?_ | refine dw_regB ?_); (conv => arg 3; whnf)) | (refine Spl.go (fun hq he => ?_) (fun hq he => ?_) <;> first | (exfalso; clear hq; omega) | ((try (first | (conv => arg 8; simp only [hq]) | (conv => arg 4; simp only [hq]))); clear hq)) | ((with_reducible first | refine c_split (fun hq => ?_) (fun hq => ?_) | refine q_split (fun hq => ?_) (fun hq => ?_)) <;> (try (first | (conv => arg 8; simp only [hq]) | (conv => arg 4; simp only [hq])))) | (with_reducible refine fin_0 ?_ (by first | rfl | (conv => lhs; simp only [go_sem])) ?_) | exact Sub.refl _ | omega)
      refine c_doesE (h2) ?_ ?_ ?_
      · ((try (conv => rhs; simp (disch := omega) only [go_sem])); try rfl)
      · first | rfl | (conv => lhs; simp only [go_sem])
      repeat' (first | with_reducible refine acc_none ?_ | (conv in hold _ => simp (disch := omega) only [go_sem]) | refine Stp.go ?_ | (with_reducible first | refine it_pos rfl ?_ | refine it_neg (by decide) ?_ | refine st_nil rfl ?_ | refine s_op ?_ ?_ | exact True.intro) | ((with_reducible first | refine dw_reg0 ?_ | refine dw_regB ?_); (conv => arg 3; whnf)) | (refine Spl.go (fun hq he => ?_) (fun hq he => ?_) <;> first | (exfalso; clear hq; omega) | ((try (first | (conv => arg 8; simp only [hq]) | (conv => arg 4; simp only [hq]))); clear hq)) | ((with_reducible first | refine c_split (fun hq => ?_) (fun hq => ?_) | refine q_split (fun hq => ?_) (fun hq => ?_)) <;> (try (first | (conv => arg 8; simp only [hq]) | (conv => arg 4; simp only [hq])))) | (with_reducible refine fin_0 ?_ (by first | rfl | (conv => lhs; simp only [go_sem])) ?_) | exact Sub.refl _ | omega)
      refine c_doesE (hB) ?_ ?_ ?_
      · ((try (conv => rhs; simp (disch := omega) only [go_sem])); try rfl)
      · first | rfl | (conv => lhs; simp only [go_sem])
      repeat' (first | with_reducible refine acc_none ?_ | (conv in hold _ => simp (disch := omega) only [go_sem]) | refine Stp.go ?_ | (with_reducible first | refine it_pos rfl ?_ | refine it_neg (by decide) ?_ | refine st_nil rfl ?_ | refine s_op ?_ ?_ | exact True.intro) | ((with_reducible first | refine dw_reg0 ?_ | refine dw_regB ?_); (conv => arg 3; whnf)) | (refine Spl.go (fun hq he => ?_) (fun hq he => ?_) <;> first | (exfalso; clear hq; omega) | ((try (first | (conv => arg 8; simp only [hq]) | (conv => arg 4; simp only [hq]))); clear hq)) | ((with_reducible first | refine c_split (fun hq => ?_) (fun hq => ?_) | refine q_split (fun hq => ?_) (fun hq => ?_)) <;> (try (first | (conv => arg 8; simp only [hq]) | (conv => arg 4; simp only [hq])))) | (with_reducible refine fin_0 ?_ (by first | rfl | (conv => lhs; simp only [go_sem])) ?_) | exact Sub.refl _ | omega)
    refine ⟨dfK sets p.k p.t (keepsI p.es n.toNat) q, ?_, ?_⟩
    · exact specB_step ws sets p hf (by omega) hsc _ n hn (fun _ x hx => by rw [hx0] at hx; cases hx; exact ⟨hA, keepsAll_ok p.es (by omega) n hn⟩) q hl (fun i x c hx hc => (hq i x c hx hc).1)
    · exact foldB_step ws sets p hs0 q hl _ (fun i x c hx hc => (hq i x c hx hc).2) (partB_ok ws sets p hf hsc _ (fun _ a => u_project ws sets p (by omega) x0 hx0 n hn hPW a) hl)
  · refine ⟨dfK sets p.k p.t false q, ?_, ?_⟩
    · exact specB_step ws sets p hf (by omega) hsc _ 0 (by decide) (fun h => absurd h h3) q hl (fun i x c hx hc => (hq i x c hx hc).1)
    · exact foldB_step ws sets p hs0 q hl _ (fun i x c hx hc => (hq i x c hx hc).2) (partB_ok ws sets p hf hsc _ (fun h => absurd h h3) hl)
theorem IsDuplicateFree_ok (p : Pl) (hs : psz p ≤ 1048576) (ws : List Int) (hl : ws.length ≤ 1048576) (sets : List Bool) (hsl : sets.length ≤ 1048576) : ∃ b : Bool, Does Try.prog 17 [] [pD p, intsD ws, boolsD sets] (Bo b) [] ∧ Does Try.prog 16 [] [pD p, intsD ws, boolsD sets] (Bo b) [] := by
  obtain ⟨w, ⟨hw, hfi⟩, h1, h2⟩ := PlanWidth_fine p hs ws hl
  by_cases hw0 : w = 0
  · rw [hw0] at h1 h2
    refine ⟨false, ?_, ?_⟩
    · refine does0 c_spec_IsDuplicateFree mixed (Nat.le_of_ble_eq_true rfl) ?_
      conv => arg 3; whnf
      repeat' (first | with_reducible refine acc_none ?_ | (conv in hold _ => simp (disch := omega) only [go_sem]) | refine Stp.go ?_ | (with_reducible first | refine it_pos rfl ?_ | refine it_neg (by decide) ?_ | refine st_nil rfl ?_ | refine s_op ?_ ?_ | exact True.intro) | ((with_reducible first | refine dw_reg0 ?_ | refine dw_regB ?_); (conv => arg 3; whnf)) | (refine Spl.go (fun hq he => ?_) (fun hq he => ?_) <;> first | (exfalso; clear hq; omega) | ((try (first | (conv => arg 8; simp only [hq]) | (conv => arg 4; simp only [hq]))); clear hq)) | ((with_reducible first | refine c_split (fun hq => ?_) (fun hq => ?_) | refine q_split (fun hq => ?_) (fun hq => ?_)) <;> (try (first | (conv => arg 8; simp only [hq]) | (conv => arg 4; simp only [hq])))) | (with_reducible refine fin_0 ?_ (by first | rfl | (conv => lhs; simp only [go_sem])) ?_) | exact Sub.refl _ | omega)
      refine c_doesE (h1) ?_ ?_ ?_
      · ((try (conv => rhs; simp (disch := omega) only [go_sem])); try rfl)
      · first | rfl | (conv => lhs; simp only [go_sem])
      repeat' (first | with_reducible refine acc_none ?_ | (conv in hold _ => simp (disch := omega) only [go_sem]) | refine Stp.go ?_ | (with_reducible first | refine it_pos rfl ?_ | refine it_neg (by decide) ?_ | refine st_nil rfl ?_ | refine s_op ?_ ?_ | exact True.intro) | ((with_reducible first | refine dw_reg0 ?_ | refine dw_regB ?_); (conv => arg 3; whnf)) | (refine Spl.go (fun hq he => ?_) (fun hq he => ?_) <;> first | (exfalso; clear hq; omega) | ((try (first | (conv => arg 8; simp only [hq]) | (conv => arg 4; simp only [hq]))); clear hq)) | ((with_reducible first | refine c_split (fun hq => ?_) (fun hq => ?_) | refine q_split (fun hq => ?_) (fun hq => ?_)) <;> (try (first | (conv => arg 8; simp only [hq]) | (conv => arg 4; simp only [hq])))) | (with_reducible refine fin_0 ?_ (by first | rfl | (conv => lhs; simp only [go_sem])) ?_) | exact Sub.refl _ | omega)
    · refine does0 c_impl_IsDuplicateFree mixed (Nat.le_of_ble_eq_true rfl) ?_
      conv => arg 3; whnf
      repeat' (first | with_reducible refine acc_none ?_ | (conv in hold _ => simp (disch := omega) only [go_sem]) | refine Stp.go ?_ | (with_reducible first | refine it_pos rfl ?_ | refine it_neg (by decide) ?_ | refine st_nil rfl ?_ | refine s_op ?_ ?_ | exact True.intro) | ((with_reducible first | refine dw_reg0 ?_ | refine dw_regB ?_); (conv => arg 3; whnf)) | (refine Spl.go (fun hq he => ?_) (fun hq he => ?_) <;> first | (exfalso; clear hq; omega) | ((try (first | (conv => arg 8; simp only [hq]) | (conv => arg 4; simp only [hq]))); clear hq)) | ((with_reducible first | refine c_split (fun hq => ?_) (fun hq => ?_) | refine q_split (fun hq => ?_) (fun hq => ?_)) <;> (try (first | (conv => arg 8; simp only [hq]) | (conv => arg 4; simp only [hq])))) | (with_reducible refine fin_0 ?_ (by first | rfl | (conv => lhs; simp only [go_sem])) ?_) | exact Sub.refl _ | omega)
      refine c_doesE (h2) ?_ ?_ ?_
      · ((try (conv => rhs; simp (disch := omega) only [go_sem])); try rfl)
      · first | rfl | (conv => lhs; simp only [go_sem])
      repeat' (first | with_reducible refine acc_none ?_ | (conv in hold _ => simp (disch := omega) only [go_sem]) | refine Stp.go ?_ | (with_reducible first | refine it_pos rfl ?_ | refine it_neg (by decide) ?_ | refine st_nil rfl ?_ | refine s_op ?_ ?_ | exact True.intro) | ((with_reducible first | refine dw_reg0 ?_ | refine dw_regB ?_); (conv => arg 3; whnf)) | (refine Spl.go (fun hq he => ?_) (fun hq he => ?_) <;> first | (exfalso; clear hq; omega) | ((try (first | (conv => arg 8; simp only [hq]) | (conv => arg 4; simp only [hq]))); clear hq)) | ((with_reducible first | refine c_split (fun hq => ?_) (fun hq => ?_) | refine q_split (fun hq => ?_) (fun hq => ?_)) <;> (try (first | (conv => arg 8; simp only [hq]) | (conv => arg 4; simp only [hq])))) | (with_reducible refine fin_0 ?_ (by first | rfl | (conv => lhs; simp only [go_sem])) ?_) | exact Sub.refl _ | omega)
  · obtain ⟨hws, hfine⟩ := hfi hw0
    have e0 : (w == 0) = false := beq_eq_false_iff_ne.2 hw0
    by_cases hlen : sets.length = ws.length
    · have e1 : ((sets.length : Int) != (ws.length : Int)) = false := by rw [bne_eq_false_iff_eq]; omega
      have e2 : ((sets.length : Int) == (ws.length : Int)) = true := by rw [beq_iff_eq]; omega
      obtain ⟨b, r1, r2⟩ := dup_ok hws hlen p hfine hs
      have r3 : Does Try.prog 39 [] [pD p, dfV ws sets] (Bo b) [] := by
        refine does0 c_impl_deriveProperty_bool_ mixed (Nat.le_of_ble_eq_true rfl) ?_
        conv => arg 3; whnf
        repeat' (first | with_reducible refine acc_none ?_ | (conv in hold _ => simp (disch := omega) only [go_sem]) | refine Stp.go ?_ | (with_reducible first | refine it_pos rfl ?_ | refine it_neg (by decide) ?_ | refine st_nil rfl ?_ | refine s_op ?_ ?_ | exact True.intro) | ((with_reducible first | refine dw_reg0 ?_ | refine dw_regB ?_); (conv => arg 3; whnf)) | (refine Spl.go (fun hq he => ?_) (fun hq he => ?_) <;> first | (exfalso; clear hq; omega) | ((try (first | (conv => arg 8; simp only [hq]) | (conv => arg 4; simp only [hq]))); clear hq)) | ((with_reducible first | refine c_split (fun hq => ?_) (fun hq => ?_) | refine q_split (fun hq => ?_) (fun hq => ?_)) <;> (try (first | (conv => arg 8; simp only [hq]) | (conv => arg 4; simp only [hq])))) | (with_reducible refine fin_0 ?_ (by first | rfl | (conv => lhs; simp only [go_sem])) ?_) | exact Sub.refl _ | omega)
        refine c_doesR [2000003] (r2) (callOK_of rfl (Nat.le_of_ble_eq_true rfl) rfl ?_ ?_) ?_ ?_
        · repeat' (first | (conv in hold _ => simp (disch := omega) only [go_sem]) | exact True.intro | exact Sub.refl _ | omega)
        · repeat' (first | (conv in hold _ => simp (disch := omega) only [go_sem]) | exact True.intro | exact Sub.refl _ | omega)
        · ((conv => rhs; simp (disch := omega) only [go_sem]); try rfl)
        repeat' (first | with_reducible refine acc_none ?_ | (conv in hold _ => simp (disch := omega) only [go_sem]) | refine Stp.go ?_ | (with_reducible first | refine it_pos rfl ?_ | refine it_neg (by decide) ?_ | refine st_nil rfl ?_ | refine s_op ?_ ?_ | exact True.intro) | ((with_reducible first | refine dw_reg0 ?_ | refine dw_regB ?_); (conv => arg 3; whnf)) | (refine Spl.go (fun hq he => ?_) (fun hq he => ?_) <;> first | (exfalso; clear hq; omega) | ((try (first | (conv => arg 8; simp only [hq]) | (conv => arg 4; simp only [hq]))); clear hq)) | ((with_reducible first | refine c_split (fun hq => ?_) (fun hq => ?_) | refine q_split (fun hq => ?_) (fun hq => ?_)) <;> (try (first | (conv => arg 8; simp only [hq]) | (conv => arg 4; simp only [hq])))) | (with_reducible refine fin_0 ?_ (by first | rfl | (conv => lhs; simp only [go_sem])) ?_) | exact Sub.refl _ | omega)
      refine ⟨b, ?_, ?_⟩
      · refine does0 c_spec_IsDuplicateFree mixed (Nat.le_of_ble_eq_true rfl) ?_
        conv => arg 3; whnf
        repeat' (first | with_reducible refine acc_none ?_ | (conv in hold _ => simp (disch := omega) only [go_sem]) | refine Stp.go ?_ | (with_reducible first | refine it_pos rfl ?_ | refine it_neg (by decide) ?_ | refine st_nil rfl ?_ | refine s_op ?_ ?_ | exact True.intro) | ((with_reducible first | refine dw_reg0 ?_ | refine dw_regB ?_); (conv => arg 3; whnf)) | (refine Spl.go (fun hq he => ?_) (fun hq he => ?_) <;> first | (exfalso; clear hq; omega) | ((try (first | (conv => arg 8; simp only [hq]) | (conv => arg 4; simp only [hq]))); clear hq)) | ((with_reducible first | refine c_split (fun hq => ?_) (fun hq => ?_) | refine q_split (fun hq => ?_) (fun hq => ?_)) <;> (try (first | (conv => arg 8; simp only [hq]) | (conv => arg 4; simp only [hq])))) | (with_reducible refine fin_0 ?_ (by first | rfl | (conv => lhs; simp only [go_sem])) ?_) | exact Sub.refl _ | omega)
        refine c_doesE (h1) ?_ ?_ ?_
        · ((try (conv => rhs; simp (disch := omega) only [go_sem, e2])); try rfl)
        · first | rfl | (conv => lhs; simp only [go_sem, e2])
        repeat' (first | with_reducible refine acc_none ?_ | (conv in hold _ => simp (disch := omega) only [go_sem, e2]) | refine Stp.go ?_ | (with_reducible first | refine it_pos rfl ?_ | refine it_neg (by decide) ?_ | refine st_nil rfl ?_ | refine s_op ?_ ?_ | exact True.intro) | ((with_reducible first | refine dw_reg0 ?_ | refine dw_regB ?_); (conv => arg 3; whnf)) | (refine Spl.go (fun hq he => ?_) (fun hq he => ?_) <;> first | (exfalso; clear hq; omega) | ((try (first | (conv => arg 8; simp only [hq]) | (conv => arg 4; simp only [hq]))); clear hq)) | ((with_reducible first | refine c_split (fun hq => ?_) (fun hq => ?_) | refine q_split (fun hq => ?_) (fun hq => ?_)) <;> (try (first | (conv => arg 8; simp only [hq]) | (conv => arg 4; simp only [hq])))) | (with_reducible refine fin_0 ?_ (by first | rfl | (conv => lhs; simp only [go_sem, e2])) ?_) | exact Sub.refl _ | omega)
        refine c_doesE (r1) ?_ ?_ ?_
        · ((try (conv => rhs; simp (disch := omega) only [go_sem])); try rfl)
        · first | rfl | (conv => lhs; simp only [go_sem])
        repeat' (first | with_reducible refine acc_none ?_ | (conv in hold _ => simp (disch := omega) only [go_sem]) | refine Stp.go ?_ | (with_reducible first | refine it_pos rfl ?_ | refine it_neg (by decide) ?_ | refine st_nil rfl ?_ | refine s_op ?_ ?_ | exact True.intro) | ((with_reducible first | refine dw_reg0 ?_ | refine dw_regB ?_); (conv => arg 3; whnf)) | (refine Spl.go (fun hq he => ?_) (fun hq he => ?_) <;> first | (exfalso; clear hq; omega) | ((try (first | (conv => arg 8; simp only [hq]) | (conv => arg 4; simp only [hq]))); clear hq)) | ((with_reducible first | refine c_split (fun hq => ?_) (fun hq => ?_) | refine q_split (fun hq => ?_) (fun hq => ?_)) <;> (try (first | (conv => arg 8; simp only [hq]) | (conv => arg 4; simp only [hq])))) | (with_reducible refine fin_0 ?_ (by first | rfl | (conv => lhs; simp only [go_sem])) ?_) | exact Sub.refl _ | omega)
      · refine does0 c_impl_IsDuplicateFree mixed (Nat.le_of_ble_eq_true rfl) ?_
        conv => arg 3; whnf
        repeat' (first | with_reducible refine acc_none ?_ | (conv in hold _ => simp (disch := omega) only [go_sem]) | refine Stp.go ?_ | (with_reducible first | refine it_pos rfl ?_ | refine it_neg (by decide) ?_ | refine st_nil rfl ?_ | refine s_op ?_ ?_ | exact True.intro) | ((with_reducible first | refine dw_reg0 ?_ | refine dw_regB ?_); (conv => arg 3; whnf)) | (refine Spl.go (fun hq he => ?_) (fun hq he => ?_) <;> first | (exfalso; clear hq; omega) | ((try (first | (conv => arg 8; simp only [hq]) | (conv => arg 4; simp only [hq]))); clear hq)) | ((with_reducible first | refine c_split (fun hq => ?_) (fun hq => ?_) | refine q_split (fun hq => ?_) (fun hq => ?_)) <;> (try (first | (conv => arg 8; simp only [hq]) | (conv => arg 4; simp only [hq])))) | (with_reducible refine fin_0 ?_ (by first | rfl | (conv => lhs; simp only [go_sem])) ?_) | exact Sub.refl _ | omega)
        refine c_doesE (h2) ?_ ?_ ?_
        · ((try (conv => rhs; simp (disch := omega) only [go_sem, e0, e1])); try rfl)
        · first | rfl | (conv => lhs; simp only [go_sem, e0, e1])
        repeat' (first | with_reducible refine acc_none ?_ | (conv in hold _ => simp (disch := omega) only [go_sem, e0, e1]) | refine Stp.go ?_ | (with_reducible first | refine it_pos rfl ?_ | refine it_neg (by decide) ?_ | refine st_nil rfl ?_ | refine s_op ?_ ?_ | exact True.intro) | ((with_reducible first | refine dw_reg0 ?_ | refine dw_regB ?_); (conv => arg 3; whnf)) | (refine Spl.go (fun hq he => ?_) (fun hq he => ?_) <;> first | (exfalso; clear hq; omega) | ((try (first | (conv => arg 8; simp only [hq]) | (conv => arg 4; simp only [hq]))); clear hq)) | ((with_reducible first | refine c_split (fun hq => ?_) (fun hq => ?_) | refine q_split (fun hq => ?_) (fun hq => ?_)) <;> (try (first | (conv => arg 8; simp only [hq]) | (conv => arg 4; simp only [hq])))) | (with_reducible refine fin_0 ?_ (by first | rfl | (conv => lhs; simp only [go_sem, e0, e1])) ?_) | exact Sub.refl _ | omega)
        refine c_doesE (r3) ?_ ?_ ?_
        · ((try (conv => rhs; simp (disch := omega) only [go_sem])); try rfl)
        · first | rfl | (conv => lhs; simp only [go_sem])
        repeat' (first | with_reducible refine acc_none ?_ | (conv in hold _ => simp (disch := omega) only [go_sem]) | refine Stp.go ?_ | (with_reducible first | refine it_pos rfl ?_ | refine it_neg (by decide) ?_ | refine st_nil rfl ?_ | refine s_op ?_ ?_ | exact True.intro) | ((with_reducible first | refine dw_reg0 ?_ | refine dw_regB ?_); (conv => arg 3; whnf)) | (refine Spl.go (fun hq he => ?_) (fun hq he => ?_) <;> first | (exfalso; clear hq; omega) | ((try (first | (conv => arg 8; simp only [hq]) | (conv => arg 4; simp only [hq]))); clear hq)) | ((with_reducible first | refine c_split (fun hq => ?_) (fun hq => ?_) | refine q_split (fun hq => ?_) (fun hq => ?_)) <;> (try (first | (conv => arg 8; simp only [hq]) | (conv => arg 4; simp only [hq])))) | (with_reducible refine fin_0 ?_ (by first | rfl | (conv => lhs; simp only [go_sem])) ?_) | exact Sub.refl _ | omega)
    · have e1 : ((sets.length : Int) != (ws.length : Int)) = true := by rw [bne_iff_ne]; omega
      have e2 : ((sets.length : Int) == (ws.length : Int)) = false := by rw [beq_eq_false_iff_ne]; omega
      refine ⟨false, ?_, ?_⟩
      · refine does0 c_spec_IsDuplicateFree mixed (Nat.le_of_ble_eq_true rfl) ?_
        conv => arg 3; whnf
        repeat' (first | with_reducible refine acc_none ?_ | (conv in hold _ => simp (disch := omega) only [go_sem]) | refine Stp.go ?_ | (with_reducible first | refine it_pos rfl ?_ | refine it_neg (by decide) ?_ | refine st_nil rfl ?_ | refine s_op ?_ ?_ | exact True.intro) | ((with_reducible first | refine dw_reg0 ?_ | refine dw_regB ?_); (conv => arg 3; whnf)) | (refine Spl.go (fun hq he => ?_) (fun hq he => ?_) <;> first | (exfalso; clear hq; omega) | ((try (first | (conv => arg 8; simp only [hq]) | (conv => arg 4; simp only [hq]))); clear hq)) | ((with_reducible first | refine c_split (fun hq => ?_) (fun hq => ?_) | refine q_split (fun hq => ?_) (fun hq => ?_)) <;> (try (first | (conv => arg 8; simp only [hq]) | (conv => arg 4; simp only [hq])))) | (with_reducible refine fin_0 ?_ (by first | rfl | (conv => lhs; simp only [go_sem])) ?_) | exact Sub.refl _ | omega)
        refine c_doesE (h1) ?_ ?_ ?_
        · ((try (conv => rhs; simp (disch := omega) only [go_sem, e2])); try rfl)
        · first | rfl | (conv => lhs; simp only [go_sem, e2])
        repeat' (first | with_reducible refine acc_none ?_ | (conv in hold _ => simp (disch := omega) only [go_sem, e2]) | refine Stp.go ?_ | (with_reducible first | refine it_pos rfl ?_ | refine it_neg (by decide) ?_ | refine st_nil rfl ?_ | refine s_op ?_ ?_ | exact True.intro) | ((with_reducible first | refine dw_reg0 ?_ | refine dw_regB ?_); (conv => arg 3; whnf)) | (refine Spl.go (fun hq he => ?_) (fun hq he => ?_) <;> first | (exfalso; clear hq; omega) | ((try (first | (conv => arg 8; simp only [hq]) | (conv => arg 4; simp only [hq]))); clear hq)) | ((with_reducible first | refine c_split (fun hq => ?_) (fun hq => ?_) | refine q_split (fun hq => ?_) (fun hq => ?_)) <;> (try (first | (conv => arg 8; simp only [hq]) | (conv => arg 4; simp only [hq])))) | (with_reducible refine fin_0 ?_ (by first | rfl | (conv => lhs; simp only [go_sem, e2])) ?_) | exact Sub.refl _ | omega)
      · refine does0 c_impl_IsDuplicateFree mixed (Nat.le_of_ble_eq_true rfl) ?_
        conv => arg 3; whnf
        repeat' (first | with_reducible refine acc_none ?_ | (conv in hold _ => simp (disch := omega) only [go_sem]) | refine Stp.go ?_ | (with_reducible first | refine it_pos rfl ?_ | refine it_neg (by decide) ?_ | refine st_nil rfl ?_ | refine s_op ?_ ?_ | exact True.intro) | ((with_reducible first | refine dw_reg0 ?_ | refine dw_regB ?_); (conv => arg 3; whnf)) | (refine Spl.go (fun hq he => ?_) (fun hq he => ?_) <;> first | (exfalso; clear hq; omega) | ((try (first | (conv => arg 8; simp only [hq]) | (conv => arg 4; simp only [hq]))); clear hq)) | ((with_reducible first | refine c_split (fun hq => ?_) (fun hq => ?_) | refine q_split (fun hq => ?_) (fun hq => ?_)) <;> (try (first | (conv => arg 8; simp only [hq]) | (conv => arg 4; simp only [hq])))) | (with_reducible refine fin_0 ?_ (by first | rfl | (conv => lhs; simp only [go_sem])) ?_) | exact Sub.refl _ | omega)
        refine c_doesE (h2) ?_ ?_ ?_
        · ((try (conv => rhs; simp (disch := omega) only [go_sem, e0, e1])); try rfl)
        · first | rfl | (conv => lhs; simp only [go_sem, e0, e1])
        repeat' (first | with_reducible refine acc_none ?_ | (conv in hold _ => simp (disch := omega) only [go_sem, e0, e1]) | refine Stp.go ?_ | (with_reducible first | refine it_pos rfl ?_ | refine it_neg (by decide) ?_ | refine st_nil rfl ?_ | refine s_op ?_ ?_ | exact True.intro) | ((with_reducible first | refine dw_reg0 ?_ | refine dw_regB ?_); (conv => arg 3; whnf)) | (refine Spl.go (fun hq he => ?_) (fun hq he => ?_) <;> first | (exfalso; clear hq; omega) | ((try (first | (conv => arg 8; simp only [hq]) | (conv => arg 4; simp only [hq]))); clear hq)) | ((with_reducible first | refine c_split (fun hq => ?_) (fun hq => ?_) | refine q_split (fun hq => ?_) (fun hq => ?_)) <;> (try (first | (conv => arg 8; simp only [hq]) | (conv => arg 4; simp only [hq])))) | (with_reducible refine fin_0 ?_ (by first | rfl | (conv => lhs; simp only [go_sem, e0, e1])) ?_) | exact Sub.refl _ | omega)
end Go.Proofs.Ytpfedjaedlfdfaa
