/-
  Rows sorted by keys, in both packages. No condition.
-/
import Derived.Test.YtncecpieebepaaaDca
import Derived.Test.YtncecpieebepaaaDce
import Derived.Test.YtncecpieebepaaaKVKs
set_option maxHeartbeats 4000000
set_option maxRecDepth 100000
set_option linter.unusedVariables false
set_option linter.unusedSimpArgs false
namespace Go.Proofs.Ytncecpieebepaaa
open Go.RowKit

def srtK (ks : List Sk) (rs : List (List V)) : Prop := ∀ (i : Nat) (q r : List V), 0 < i → rs[i - 1]? = some q → rs[i]? = some r → cmpK ks q r ≤ 0
/-- What both packages answer. -/
def isS (rs : List (List V)) (ks : List Sk) : Prop := rs = [] ∨ ((rOk ⟨((rs.getD 0 []).length : Int), rs⟩ ∧ keysOk (rs.getD 0 []).length ks) ∧ srtK ks rs)
noncomputable instance isSDec (rs : List (List V)) (ks : List Sk) : Decidable (isS rs ks) := Classical.propDecidable _
noncomputable instance srtKDec (ks : List Sk) (rs : List (List V)) : Decidable (srtK ks rs) := Classical.propDecidable _
theorem rowsIn {w : Nat} {rs : List (List V)} (h : rOk ⟨(w : Int), rs⟩) : ∀ r, r ∈ rs → r.length = w ∧ ∀ v, v ∈ r → v.ok := fun r hr => by
  obtain ⟨i, hi⟩ := List.mem_iff_getElem?.1 hr
  have := h.2 i r hi
  exact ⟨by have := this.2; simp only at this; omega, this.1.2⟩
theorem isSortedK_ok {w : Nat} (hw : w ≤ 6) (rs : List (List V)) (hl : rs.length ≤ 400) (hrs : ∀ r, r ∈ rs → r.length = w ∧ ∀ v, v ∈ r → v.ok) (ks : List Sk) (hks : ∀ k, k ∈ ks → keyIn w k) : Does Try.prog 31 [] [rowsD rs, ordD ks] (Bo (decide (srtK ks rs))) [] := by
  obtain ⟨f, caps, hd, hcp⟩ := ordD_fn ks ks.length (Nat.le_refl _)
  rw [List.take_length] at hd
  have hcc : ∀ x y, x ∈ rs → y ∈ rs → enters Try.prog f = true ∧ Does Try.prog f [] (rowD x :: rowD y :: caps) (I (cmpK ks x y)) [] := fun x y hx hy => by
    obtain ⟨g, caps', e, h1, h2, h3⟩ := ordD_ok (show w < 1000 by omega) (hrs x hx) (hrs y hy) ks hks ks.length (Nat.le_refl _)
    rw [List.take_length, hd] at e
    cases e
    rw [List.take_length] at h3
    exact ⟨h1, h3⟩
  have hren := fun L => ren_pure.renL_pure L caps hcp
  rw [hd]
  refine does0 c_slices_IsSortedFunc_____loop_example_queryoptimizer_impl_Value___loop_example_queryoptimizer_impl_Value_ mixed (Nat.le_of_ble_eq_true rfl) ?_
  conv => arg 3; whnf
  repeat' (first | with_reducible refine acc_none ?_ | (conv in hold _ => simp (disch := omega) only [go_sem]) | refine Stp.go ?_ | (with_reducible first | refine it_pos rfl ?_ | refine it_neg (by decide) ?_ | refine st_nil rfl ?_ | refine s_op ?_ ?_ | exact True.intro) | ((with_reducible first | refine dw_reg0 ?_ | refine dw_regB ?_); (conv => arg 3; whnf)) | (refine Spl.go (fun hq he => ?_) (fun hq he => ?_) <;> first | (exfalso; clear hq; omega) | ((try (first | (conv => arg 8; simp only [hq]) | (conv => arg 4; simp only [hq]))); clear hq)) | ((with_reducible first | refine c_split (fun hq => ?_) (fun hq => ?_) | refine q_split (fun hq => ?_) (fun hq => ?_)) <;> (try (first | (conv => arg 8; simp only [hq]) | (conv => arg 4; simp only [hq])))) | (with_reducible refine fin_0 ?_ (by first | rfl | (conv => lhs; simp only [go_sem])) ?_) | exact Sub.refl _ | omega)
  refine dw_for (c := 0) (l := fun n => [(0, rowsD rs), (1, .fn f caps), (5, I ((rs.length : Int) - 1 - n))]) rs.length (fun n => ∀ (i : Nat) (q r : List V), rs.length ≤ i + n → 0 < i → rs[i - 1]? = some q → rs[i]? = some r → cmpK ks q r ≤ 0) 0 (fun i q r h1 h2 hq hr => by have := (List.getElem?_eq_some_iff.1 hr).1; omega) (Wk.list [] rfl rfl ?_) (fun n hn hJ => ?_) (Nat.zero_le _)
  · repeat' (first | (conv in hold _ => simp (disch := omega) only [go_sem, hren]) | exact True.intro | exact Sub.refl _ | omega)
    first | exact congrArg (fun n => D.v (Value.int .i64 n)) (by omega) | exact rfl
  · by_cases hil : n + 1 < rs.length
    · obtain ⟨r, hr⟩ : ∃ r, rs[rs.length - 1 - n]? = some r := ⟨_, List.getElem?_eq_getElem (by omega)⟩
      obtain ⟨q, hq⟩ : ∃ q, rs[rs.length - 1 - n - 1]? = some q := ⟨_, List.getElem?_eq_getElem (by omega)⟩
      have hrm := List.mem_of_getElem? hr
      have hqm := List.mem_of_getElem? hq
      have e1 : ((rs.length : Int) - 1 - (n : Int)).toNat = rs.length - 1 - n := by omega
      have e2 : ((rs.length : Int) - 1 - (n : Int) - 1).toNat = rs.length - 1 - n - 1 := by omega
      obtain ⟨hf, hc⟩ := hcc r q hrm hqm
      have hanti := cmpK_anti ks hks (hrs q hqm) (hrs r hrm)
      by_cases h3 : cmpK ks q r ≤ 0
      · repeat' (first | with_reducible refine acc_none ?_ | (conv in hold _ => simp (disch := omega) only [go_sem, List.getElem?_map, e1, e2, hr, hq, Option.map_some]) | refine Stp.go ?_ | (with_reducible first | refine it_pos rfl ?_ | refine it_neg (by decide) ?_ | refine st_nil rfl ?_ | refine s_op ?_ ?_ | exact True.intro) | ((with_reducible first | refine dw_reg0 ?_ | refine dw_regB ?_); (conv => arg 3; whnf)) | (refine Spl.go (fun hq he => ?_) (fun hq he => ?_) <;> first | (exfalso; clear hq; omega) | ((try (first | (conv => arg 8; simp only [hq]) | (conv => arg 4; simp only [hq]))); clear hq)) | ((with_reducible first | refine c_split (fun hq => ?_) (fun hq => ?_) | refine q_split (fun hq => ?_) (fun hq => ?_)) <;> (try (first | (conv => arg 8; simp only [hq]) | (conv => arg 4; simp only [hq])))) | (with_reducible refine fin_0 ?_ (by first | rfl | (conv => lhs; simp only [go_sem, List.getElem?_map, e1, e2, hr, hq, Option.map_some])) ?_) | exact Sub.refl _ | omega)
        refine v_fn (hf) ?_
        refine c_doesE (hc) ?_ ?_ ?_
        · ((try (conv => rhs; simp (disch := omega) only [go_sem, hcp])); try rfl)
        · first | rfl | (conv => lhs; simp only [go_sem, hcp])
        repeat' (first | with_reducible refine acc_none ?_ | (conv in hold _ => simp (disch := omega) only [go_sem, hcp]) | refine Stp.go ?_ | (with_reducible first | refine it_pos rfl ?_ | refine it_neg (by decide) ?_ | refine st_nil rfl ?_ | refine s_op ?_ ?_ | exact True.intro) | ((with_reducible first | refine dw_reg0 ?_ | refine dw_regB ?_); (conv => arg 3; whnf)) | (refine Spl.go (fun hq he => ?_) (fun hq he => ?_) <;> first | (exfalso; clear hq; omega) | ((try (first | (conv => arg 8; simp only [hq]) | (conv => arg 4; simp only [hq]))); clear hq)) | ((with_reducible first | refine c_split (fun hq => ?_) (fun hq => ?_) | refine q_split (fun hq => ?_) (fun hq => ?_)) <;> (try (first | (conv => arg 8; simp only [hq]) | (conv => arg 4; simp only [hq])))) | (with_reducible refine fin_0 ?_ (by first | rfl | (conv => lhs; simp only [go_sem, hcp])) ?_) | exact Sub.refl _ | omega)
        refine ⟨by omega, fun i q' r' h1 h2 hq' hr' => ?_, Wk.list [] rfl rfl ?_⟩
        · by_cases hi : i = rs.length - 1 - n
          · subst hi
            rw [hq] at hq'
            rw [hr] at hr'
            cases hq'
            cases hr'
            exact h3
          · exact hJ i q' r' (by omega) h2 hq' hr'
        · repeat' (first | (conv in hold _ => simp (disch := omega) only [go_sem, hren]) | exact True.intro | exact Sub.refl _ | omega)
          first | exact congrArg (fun n => D.v (Value.int .i64 n)) (by omega) | exact rfl
      · repeat' (first | with_reducible refine acc_none ?_ | (conv in hold _ => simp (disch := omega) only [go_sem, List.getElem?_map, e1, e2, hr, hq, Option.map_some]) | refine Stp.go ?_ | (with_reducible first | refine it_pos rfl ?_ | refine it_neg (by decide) ?_ | refine st_nil rfl ?_ | refine s_op ?_ ?_ | exact True.intro) | ((with_reducible first | refine dw_reg0 ?_ | refine dw_regB ?_); (conv => arg 3; whnf)) | (refine Spl.go (fun hq he => ?_) (fun hq he => ?_) <;> first | (exfalso; clear hq; omega) | ((try (first | (conv => arg 8; simp only [hq]) | (conv => arg 4; simp only [hq]))); clear hq)) | ((with_reducible first | refine c_split (fun hq => ?_) (fun hq => ?_) | refine q_split (fun hq => ?_) (fun hq => ?_)) <;> (try (first | (conv => arg 8; simp only [hq]) | (conv => arg 4; simp only [hq])))) | (with_reducible refine fin_0 ?_ (by first | rfl | (conv => lhs; simp only [go_sem, List.getElem?_map, e1, e2, hr, hq, Option.map_some])) ?_) | exact Sub.refl _ | omega)
        refine v_fn (hf) ?_
        refine c_doesE (hc) ?_ ?_ ?_
        · ((try (conv => rhs; simp (disch := omega) only [go_sem, hcp])); try rfl)
        · first | rfl | (conv => lhs; simp only [go_sem, hcp])
        repeat' (first | with_reducible refine acc_none ?_ | (conv in hold _ => simp (disch := omega) only [go_sem, hcp]) | refine Stp.go ?_ | (with_reducible first | refine it_pos rfl ?_ | refine it_neg (by decide) ?_ | refine st_nil rfl ?_ | refine s_op ?_ ?_ | exact True.intro) | ((with_reducible first | refine dw_reg0 ?_ | refine dw_regB ?_); (conv => arg 3; whnf)) | (refine Spl.go (fun hq he => ?_) (fun hq he => ?_) <;> first | (exfalso; clear hq; omega) | ((try (first | (conv => arg 8; simp only [hq]) | (conv => arg 4; simp only [hq]))); clear hq)) | ((with_reducible first | refine c_split (fun hq => ?_) (fun hq => ?_) | refine q_split (fun hq => ?_) (fun hq => ?_)) <;> (try (first | (conv => arg 8; simp only [hq]) | (conv => arg 4; simp only [hq])))) | (with_reducible refine fin_0 ?_ (by first | rfl | (conv => lhs; simp only [go_sem, hcp])) ?_) | exact Sub.refl _ | omega)
        exact sub_f (fun h => h3 (h _ q r (by omega) hq hr))
    · repeat' (first | with_reducible refine acc_none ?_ | (conv in hold _ => simp (disch := omega) only [go_sem]) | refine Stp.go ?_ | (with_reducible first | refine it_pos rfl ?_ | refine it_neg (by decide) ?_ | refine st_nil rfl ?_ | refine s_op ?_ ?_ | exact True.intro) | ((with_reducible first | refine dw_reg0 ?_ | refine dw_regB ?_); (conv => arg 3; whnf)) | (refine Spl.go (fun hq he => ?_) (fun hq he => ?_) <;> first | (exfalso; clear hq; omega) | ((try (first | (conv => arg 8; simp only [hq]) | (conv => arg 4; simp only [hq]))); clear hq)) | ((with_reducible first | refine c_split (fun hq => ?_) (fun hq => ?_) | refine q_split (fun hq => ?_) (fun hq => ?_)) <;> (try (first | (conv => arg 8; simp only [hq]) | (conv => arg 4; simp only [hq])))) | (with_reducible refine fin_0 ?_ (by first | rfl | (conv => lhs; simp only [go_sem])) ?_) | exact Sub.refl _ | omega)
      exact sub_iff ⟨fun _ i q r h2 hq hr => hJ i q r (by omega) h2 hq hr, fun _ => rfl⟩
theorem IsSorted_impl (rs : List (List V)) (hsz : rsz rs ≤ 1048576) (ks : List Sk) (hk : ks.length ≤ 1048576) : Does Try.prog 11 [] [rowsD rs, sksD ks] (Bo (decide (isS rs ks))) [] := by
  have hlen := rsz_len rs
  by_cases h0 : rs = []
  · rw [decide_eq_true (show isS rs ks from Or.inl h0)]
    subst h0
    refine does0 c_impl_IsSorted mixed (Nat.le_of_ble_eq_true rfl) ?_
    conv => arg 3; whnf
    repeat' (first | with_reducible refine acc_none ?_ | (conv in hold _ => simp (disch := omega) only [go_sem]) | refine Stp.go ?_ | (with_reducible first | refine it_pos rfl ?_ | refine it_neg (by decide) ?_ | refine st_nil rfl ?_ | refine s_op ?_ ?_ | exact True.intro) | ((with_reducible first | refine dw_reg0 ?_ | refine dw_regB ?_); (conv => arg 3; whnf)) | (refine Spl.go (fun hq he => ?_) (fun hq he => ?_) <;> first | (exfalso; clear hq; omega) | ((try (first | (conv => arg 8; simp only [hq]) | (conv => arg 4; simp only [hq]))); clear hq)) | ((with_reducible first | refine c_split (fun hq => ?_) (fun hq => ?_) | refine q_split (fun hq => ?_) (fun hq => ?_)) <;> (try (first | (conv => arg 8; simp only [hq]) | (conv => arg 4; simp only [hq])))) | (with_reducible refine fin_0 ?_ (by first | rfl | (conv => lhs; simp only [go_sem])) ?_) | exact Sub.refl _ | omega)
  · have hpos : 0 < rs.length := by
      cases rs with
      | nil => exact absurd rfl h0
      | cons a l => simp
    obtain ⟨x, hx⟩ : ∃ x, rs[0]? = some x := ⟨_, List.getElem?_eq_getElem hpos⟩
    have hgx : rs.getD 0 [] = x := by rw [List.getD_eq_getElem?_getD, hx]; rfl
    have hxs := rsz_mem (List.mem_of_getElem? hx)
    have hne : (((rs.length : Nat) : Int) == 0) = false := beq_eq_false_iff_ne.2 (by omega)
    have h1 := validRows_ok ⟨(x.length : Int), rs⟩ hsz
    by_cases hr : rOk ⟨(x.length : Int), rs⟩
    · rw [decide_eq_true hr] at h1
      have hw6 := hr.1.1
      simp only at hw6
      have hl4 : rs.length ≤ 400 := hr.1.2
      have h2 := ivalidKeys_ok ks (by omega) x.length (by omega)
      by_cases hko : keysOk x.length ks
      · rw [decide_eq_true hko] at h2
        have hrw := rowsIn hr
        have hksl : ks.length ≤ 6 := by
          have hnd : (ks.map (fun k => k.c.toNat)).Nodup := by
            rw [List.Nodup, List.pairwise_map]
            refine List.Pairwise.imp_of_mem ?_ hko.2
            intro a b ha hb hab
            have := (hko.1 a ha).1
            have := (hko.1 b hb).1
            omega
          have hsub : (ks.map (fun k => k.c.toNat)) ⊆ List.range x.length := fun c hc => by
            obtain ⟨k, hkm, rfl⟩ := List.mem_map.1 hc
            have q := hko.1 k hkm
            have q1 := q.1
            have q2 := q.2
            exact List.mem_range.2 (by omega)
          have := hnd.length_le_of_subset hsub
          rw [List.length_map, List.length_range] at this
          omega
        have h3 := orderBy_ok ks (by omega)
        have h4 := isSortedK_ok (w := x.length) (by omega) rs hl4 hrw ks hko.1
        have hop := ordD_pur ks ks.length (Nat.le_refl _)
        rw [List.take_length] at hop
        have hdec : decide (isS rs ks) = decide (srtK ks rs) := by
          rw [Bool.eq_iff_iff, decide_eq_true_iff, decide_eq_true_iff]
          unfold isS
          rw [hgx]
          exact ⟨fun h => h.elim (fun e => absurd e h0) (fun e => e.2), fun h => .inr ⟨⟨hr, hko⟩, h⟩⟩
        rw [hdec]
        refine does0 c_impl_IsSorted mixed (Nat.le_of_ble_eq_true rfl) ?_
        conv => arg 3; whnf
        repeat' (first | with_reducible refine acc_none ?_ | (conv in hold _ => simp (disch := omega) only [go_sem, hne, List.getElem?_map, hx, Option.map_some]) | refine Stp.go ?_ | (with_reducible first | refine it_pos rfl ?_ | refine it_neg (by decide) ?_ | refine st_nil rfl ?_ | refine s_op ?_ ?_ | exact True.intro) | ((with_reducible first | refine dw_reg0 ?_ | refine dw_regB ?_); (conv => arg 3; whnf)) | (refine Spl.go (fun hq he => ?_) (fun hq he => ?_) <;> first | (exfalso; clear hq; omega) | ((try (first | (conv => arg 8; simp only [hq]) | (conv => arg 4; simp only [hq]))); clear hq)) | ((with_reducible first | refine c_split (fun hq => ?_) (fun hq => ?_) | refine q_split (fun hq => ?_) (fun hq => ?_)) <;> (try (first | (conv => arg 8; simp only [hq]) | (conv => arg 4; simp only [hq])))) | (with_reducible refine fin_0 ?_ (by first | rfl | (conv => lhs; simp only [go_sem, hne, List.getElem?_map, hx, Option.map_some])) ?_) | exact Sub.refl _ | omega)
        refine c_doesE (h1) ?_ ?_ ?_
        · ((try (conv => rhs; simp (disch := omega) only [go_sem])); try rfl)
        · first | rfl | (conv => lhs; simp only [go_sem])
        repeat' (first | with_reducible refine acc_none ?_ | (conv in hold _ => simp (disch := omega) only [go_sem]) | refine Stp.go ?_ | (with_reducible first | refine it_pos rfl ?_ | refine it_neg (by decide) ?_ | refine st_nil rfl ?_ | refine s_op ?_ ?_ | exact True.intro) | ((with_reducible first | refine dw_reg0 ?_ | refine dw_regB ?_); (conv => arg 3; whnf)) | (refine Spl.go (fun hq he => ?_) (fun hq he => ?_) <;> first | (exfalso; clear hq; omega) | ((try (first | (conv => arg 8; simp only [hq]) | (conv => arg 4; simp only [hq]))); clear hq)) | ((with_reducible first | refine c_split (fun hq => ?_) (fun hq => ?_) | refine q_split (fun hq => ?_) (fun hq => ?_)) <;> (try (first | (conv => arg 8; simp only [hq]) | (conv => arg 4; simp only [hq])))) | (with_reducible refine fin_0 ?_ (by first | rfl | (conv => lhs; simp only [go_sem])) ?_) | exact Sub.refl _ | omega)
        refine c_doesE (h2) ?_ ?_ ?_
        · ((try (conv => rhs; simp (disch := omega) only [go_sem])); try rfl)
        · first | rfl | (conv => lhs; simp only [go_sem])
        repeat' (first | with_reducible refine acc_none ?_ | (conv in hold _ => simp (disch := omega) only [go_sem]) | refine Stp.go ?_ | (with_reducible first | refine it_pos rfl ?_ | refine it_neg (by decide) ?_ | refine st_nil rfl ?_ | refine s_op ?_ ?_ | exact True.intro) | ((with_reducible first | refine dw_reg0 ?_ | refine dw_regB ?_); (conv => arg 3; whnf)) | (refine Spl.go (fun hq he => ?_) (fun hq he => ?_) <;> first | (exfalso; clear hq; omega) | ((try (first | (conv => arg 8; simp only [hq]) | (conv => arg 4; simp only [hq]))); clear hq)) | ((with_reducible first | refine c_split (fun hq => ?_) (fun hq => ?_) | refine q_split (fun hq => ?_) (fun hq => ?_)) <;> (try (first | (conv => arg 8; simp only [hq]) | (conv => arg 4; simp only [hq])))) | (with_reducible refine fin_0 ?_ (by first | rfl | (conv => lhs; simp only [go_sem])) ?_) | exact Sub.refl _ | omega)
        refine c_doesE (h3) ?_ ?_ ?_
        · ((try (conv => rhs; simp (disch := omega) only [go_sem, hop])); try rfl)
        · first | rfl | (conv => lhs; simp only [go_sem, hop])
        repeat' (first | with_reducible refine acc_none ?_ | (conv in hold _ => simp (disch := omega) only [go_sem, hop]) | refine Stp.go ?_ | (with_reducible first | refine it_pos rfl ?_ | refine it_neg (by decide) ?_ | refine st_nil rfl ?_ | refine s_op ?_ ?_ | exact True.intro) | ((with_reducible first | refine dw_reg0 ?_ | refine dw_regB ?_); (conv => arg 3; whnf)) | (refine Spl.go (fun hq he => ?_) (fun hq he => ?_) <;> first | (exfalso; clear hq; omega) | ((try (first | (conv => arg 8; simp only [hq]) | (conv => arg 4; simp only [hq]))); clear hq)) | ((with_reducible first | refine c_split (fun hq => ?_) (fun hq => ?_) | refine q_split (fun hq => ?_) (fun hq => ?_)) <;> (try (first | (conv => arg 8; simp only [hq]) | (conv => arg 4; simp only [hq])))) | (with_reducible refine fin_0 ?_ (by first | rfl | (conv => lhs; simp only [go_sem, hop])) ?_) | exact Sub.refl _ | omega)
        refine c_doesE (h4) ?_ ?_ ?_
        · ((try (conv => rhs; simp (disch := omega) only [go_sem, hop])); try rfl)
        · first | rfl | (conv => lhs; simp only [go_sem, hop])
        repeat' (first | with_reducible refine acc_none ?_ | (conv in hold _ => simp (disch := omega) only [go_sem, hop]) | refine Stp.go ?_ | (with_reducible first | refine it_pos rfl ?_ | refine it_neg (by decide) ?_ | refine st_nil rfl ?_ | refine s_op ?_ ?_ | exact True.intro) | ((with_reducible first | refine dw_reg0 ?_ | refine dw_regB ?_); (conv => arg 3; whnf)) | (refine Spl.go (fun hq he => ?_) (fun hq he => ?_) <;> first | (exfalso; clear hq; omega) | ((try (first | (conv => arg 8; simp only [hq]) | (conv => arg 4; simp only [hq]))); clear hq)) | ((with_reducible first | refine c_split (fun hq => ?_) (fun hq => ?_) | refine q_split (fun hq => ?_) (fun hq => ?_)) <;> (try (first | (conv => arg 8; simp only [hq]) | (conv => arg 4; simp only [hq])))) | (with_reducible refine fin_0 ?_ (by first | rfl | (conv => lhs; simp only [go_sem, hop])) ?_) | exact Sub.refl _ | omega)
      · rw [decide_eq_false hko] at h2
        rw [decide_eq_false (show ¬ isS rs ks from fun h => h.elim h0 (fun e => hko (by have := e.1.2; rwa [hgx] at this)))]
        refine does0 c_impl_IsSorted mixed (Nat.le_of_ble_eq_true rfl) ?_
        conv => arg 3; whnf
        repeat' (first | with_reducible refine acc_none ?_ | (conv in hold _ => simp (disch := omega) only [go_sem, hne, List.getElem?_map, hx, Option.map_some]) | refine Stp.go ?_ | (with_reducible first | refine it_pos rfl ?_ | refine it_neg (by decide) ?_ | refine st_nil rfl ?_ | refine s_op ?_ ?_ | exact True.intro) | ((with_reducible first | refine dw_reg0 ?_ | refine dw_regB ?_); (conv => arg 3; whnf)) | (refine Spl.go (fun hq he => ?_) (fun hq he => ?_) <;> first | (exfalso; clear hq; omega) | ((try (first | (conv => arg 8; simp only [hq]) | (conv => arg 4; simp only [hq]))); clear hq)) | ((with_reducible first | refine c_split (fun hq => ?_) (fun hq => ?_) | refine q_split (fun hq => ?_) (fun hq => ?_)) <;> (try (first | (conv => arg 8; simp only [hq]) | (conv => arg 4; simp only [hq])))) | (with_reducible refine fin_0 ?_ (by first | rfl | (conv => lhs; simp only [go_sem, hne, List.getElem?_map, hx, Option.map_some])) ?_) | exact Sub.refl _ | omega)
        refine c_doesE (h1) ?_ ?_ ?_
        · ((try (conv => rhs; simp (disch := omega) only [go_sem])); try rfl)
        · first | rfl | (conv => lhs; simp only [go_sem])
        repeat' (first | with_reducible refine acc_none ?_ | (conv in hold _ => simp (disch := omega) only [go_sem]) | refine Stp.go ?_ | (with_reducible first | refine it_pos rfl ?_ | refine it_neg (by decide) ?_ | refine st_nil rfl ?_ | refine s_op ?_ ?_ | exact True.intro) | ((with_reducible first | refine dw_reg0 ?_ | refine dw_regB ?_); (conv => arg 3; whnf)) | (refine Spl.go (fun hq he => ?_) (fun hq he => ?_) <;> first | (exfalso; clear hq; omega) | ((try (first | (conv => arg 8; simp only [hq]) | (conv => arg 4; simp only [hq]))); clear hq)) | ((with_reducible first | refine c_split (fun hq => ?_) (fun hq => ?_) | refine q_split (fun hq => ?_) (fun hq => ?_)) <;> (try (first | (conv => arg 8; simp only [hq]) | (conv => arg 4; simp only [hq])))) | (with_reducible refine fin_0 ?_ (by first | rfl | (conv => lhs; simp only [go_sem])) ?_) | exact Sub.refl _ | omega)
        refine c_doesE (h2) ?_ ?_ ?_
        · ((try (conv => rhs; simp (disch := omega) only [go_sem])); try rfl)
        · first | rfl | (conv => lhs; simp only [go_sem])
        repeat' (first | with_reducible refine acc_none ?_ | (conv in hold _ => simp (disch := omega) only [go_sem]) | refine Stp.go ?_ | (with_reducible first | refine it_pos rfl ?_ | refine it_neg (by decide) ?_ | refine st_nil rfl ?_ | refine s_op ?_ ?_ | exact True.intro) | ((with_reducible first | refine dw_reg0 ?_ | refine dw_regB ?_); (conv => arg 3; whnf)) | (refine Spl.go (fun hq he => ?_) (fun hq he => ?_) <;> first | (exfalso; clear hq; omega) | ((try (first | (conv => arg 8; simp only [hq]) | (conv => arg 4; simp only [hq]))); clear hq)) | ((with_reducible first | refine c_split (fun hq => ?_) (fun hq => ?_) | refine q_split (fun hq => ?_) (fun hq => ?_)) <;> (try (first | (conv => arg 8; simp only [hq]) | (conv => arg 4; simp only [hq])))) | (with_reducible refine fin_0 ?_ (by first | rfl | (conv => lhs; simp only [go_sem])) ?_) | exact Sub.refl _ | omega)
    · rw [decide_eq_false hr] at h1
      rw [decide_eq_false (show ¬ isS rs ks from fun h => h.elim h0 (fun e => hr (by have := e.1.1; rwa [hgx] at this)))]
      refine does0 c_impl_IsSorted mixed (Nat.le_of_ble_eq_true rfl) ?_
      conv => arg 3; whnf
      repeat' (first | with_reducible refine acc_none ?_ | (conv in hold _ => simp (disch := omega) only [go_sem, hne, List.getElem?_map, hx, Option.map_some]) | refine Stp.go ?_ | (with_reducible first | refine it_pos rfl ?_ | refine it_neg (by decide) ?_ | refine st_nil rfl ?_ | refine s_op ?_ ?_ | exact True.intro) | ((with_reducible first | refine dw_reg0 ?_ | refine dw_regB ?_); (conv => arg 3; whnf)) | (refine Spl.go (fun hq he => ?_) (fun hq he => ?_) <;> first | (exfalso; clear hq; omega) | ((try (first | (conv => arg 8; simp only [hq]) | (conv => arg 4; simp only [hq]))); clear hq)) | ((with_reducible first | refine c_split (fun hq => ?_) (fun hq => ?_) | refine q_split (fun hq => ?_) (fun hq => ?_)) <;> (try (first | (conv => arg 8; simp only [hq]) | (conv => arg 4; simp only [hq])))) | (with_reducible refine fin_0 ?_ (by first | rfl | (conv => lhs; simp only [go_sem, hne, List.getElem?_map, hx, Option.map_some])) ?_) | exact Sub.refl _ | omega)
      refine c_doesE (h1) ?_ ?_ ?_
      · ((try (conv => rhs; simp (disch := omega) only [go_sem])); try rfl)
      · first | rfl | (conv => lhs; simp only [go_sem])
      repeat' (first | with_reducible refine acc_none ?_ | (conv in hold _ => simp (disch := omega) only [go_sem]) | refine Stp.go ?_ | (with_reducible first | refine it_pos rfl ?_ | refine it_neg (by decide) ?_ | refine st_nil rfl ?_ | refine s_op ?_ ?_ | exact True.intro) | ((with_reducible first | refine dw_reg0 ?_ | refine dw_regB ?_); (conv => arg 3; whnf)) | (refine Spl.go (fun hq he => ?_) (fun hq he => ?_) <;> first | (exfalso; clear hq; omega) | ((try (first | (conv => arg 8; simp only [hq]) | (conv => arg 4; simp only [hq]))); clear hq)) | ((with_reducible first | refine c_split (fun hq => ?_) (fun hq => ?_) | refine q_split (fun hq => ?_) (fun hq => ?_)) <;> (try (first | (conv => arg 8; simp only [hq]) | (conv => arg 4; simp only [hq])))) | (with_reducible refine fin_0 ?_ (by first | rfl | (conv => lhs; simp only [go_sem])) ?_) | exact Sub.refl _ | omega)
end Go.Proofs.Ytncecpieebepaaa
