/-
  The library's insertion sort of a row of one's own. No condition.
-/
import Derived.Test.YtjjcokmnebkbiaaDca
import Derived.Test.YtjjcokmnebkbiaaVTbD
import Derived.Test.YtjjcokmnebkbiaaVInsA
import Derived.Test.YtjjcokmnebkbiaaVSem
import Derived.Test.YtjjcokmnebkbiaaVInt
set_option maxHeartbeats 4000000
set_option maxRecDepth 100000
set_option linter.unusedVariables false
set_option linter.unusedSimpArgs false
namespace Go.Proofs.Ytjjcokmnebkbiaa
open Go.RowKit

theorem insSort_val {f : FuncId} (hf : enters Try.prog f = true) {c : V → V → Int} {R : V → V → Prop} (l0 sorted : List V) (hn : l0.length ≤ 400) (hO : InsOK c R l0) (hc : ∀ x y, x ∈ l0 → y ∈ l0 → Does Try.prog f [] [vD x, vD y] (I (c x y)) []) (hu : ∀ l : List V, l.Perm l0 → l.Pairwise R → l = sorted) :
    Does Try.prog 67 [.row 2 (l0.map vD)] [.own 1000000 2 l0.length, I 0, I l0.length, .fn f []] (.tup []) [.row 2 (sorted.map vD)] := by
  by_cases h0 : l0.length = 0
  · have hs : sorted = l0 := (hu l0 (List.Perm.refl _) (by rw [List.length_eq_zero_iff.1 h0]; exact List.Pairwise.nil)).symm
    rw [hs]
    refine does c_slices_insertionSortCmpFunc_loop_example_queryoptimizer_impl_Value_ mixed (Nat.le_of_ble_eq_true rfl) 1 rfl ?_
    conv => arg 3; whnf
    repeat' (first | with_reducible refine acc_none ?_ | (conv in hold _ => simp (disch := omega) only [go_sem]) | refine Stp.go ?_ | (with_reducible first | refine it_pos rfl ?_ | refine it_neg (by decide) ?_ | refine st_nil rfl ?_ | refine s_op ?_ ?_ | exact True.intro) | ((with_reducible first | refine dw_reg0 ?_ | refine dw_regB ?_); (conv => arg 3; whnf)) | (refine Spl.go (fun hq he => ?_) (fun hq he => ?_) <;> first | (exfalso; clear hq; omega) | ((try (first | (conv => arg 8; simp only [hq]) | (conv => arg 4; simp only [hq]))); clear hq)) | ((with_reducible first | refine c_split (fun hq => ?_) (fun hq => ?_) | refine q_split (fun hq => ?_) (fun hq => ?_)) <;> (try (first | (conv => arg 8; simp only [hq]) | (conv => arg 4; simp only [hq])))) | (with_reducible refine fin_0 ?_ (by first | rfl | (conv => lhs; simp only [go_sem])) ?_) | exact Sub.refl _ | omega)
    refine dw_for (c := 1) (l := fun i => [(0, .own 1000000 2 l0.length), (1, I 0), (2, I l0.length), (3, .fn f []), (8, I 1), (1000000, .row 2 (l0.map vD))]) 0 (fun _ => True) 0 trivial (Wk.list [1000000] rfl rfl ?_) (fun i hi _ => ?_) (Nat.zero_le _)
    · repeat' (first | (conv in hold _ => simp (disch := omega) only [go_sem]) | exact True.intro | exact Sub.refl _ | omega)
      first | exact rfl | exact ⟨rfl, rfl⟩ | skip
    · repeat' (first | with_reducible refine acc_none ?_ | (conv in hold _ => simp (disch := omega) only [go_sem]) | refine Stp.go ?_ | (with_reducible first | refine it_pos rfl ?_ | refine it_neg (by decide) ?_ | refine st_nil rfl ?_ | refine s_op ?_ ?_ | exact True.intro) | ((with_reducible first | refine dw_reg0 ?_ | refine dw_regB ?_); (conv => arg 3; whnf)) | (refine Spl.go (fun hq he => ?_) (fun hq he => ?_) <;> first | (exfalso; clear hq; omega) | ((try (first | (conv => arg 8; simp only [hq]) | (conv => arg 4; simp only [hq]))); clear hq)) | ((with_reducible first | refine c_split (fun hq => ?_) (fun hq => ?_) | refine q_split (fun hq => ?_) (fun hq => ?_)) <;> (try (first | (conv => arg 8; simp only [hq]) | (conv => arg 4; simp only [hq])))) | (with_reducible refine fin_0 ?_ (by first | rfl | (conv => lhs; simp only [go_sem])) ?_) | exact Sub.refl _ | omega)
      refine fin_L [1000000] ?_ ?_ rfl ?_
      repeat' (first | (conv in hold _ => simp (disch := omega) only [go_sem]) | exact True.intro | exact Sub.refl _ | omega)
  · refine does c_slices_insertionSortCmpFunc_loop_example_queryoptimizer_impl_Value_ mixed (Nat.le_of_ble_eq_true rfl) 1 rfl ?_
    conv => arg 3; whnf
    repeat' (first | with_reducible refine acc_none ?_ | (conv in hold _ => simp (disch := omega) only [go_sem]) | refine Stp.go ?_ | (with_reducible first | refine it_pos rfl ?_ | refine it_neg (by decide) ?_ | refine st_nil rfl ?_ | refine s_op ?_ ?_ | exact True.intro) | ((with_reducible first | refine dw_reg0 ?_ | refine dw_regB ?_); (conv => arg 3; whnf)) | (refine Spl.go (fun hq he => ?_) (fun hq he => ?_) <;> first | (exfalso; clear hq; omega) | ((try (first | (conv => arg 8; simp only [hq]) | (conv => arg 4; simp only [hq]))); clear hq)) | ((with_reducible first | refine c_split (fun hq => ?_) (fun hq => ?_) | refine q_split (fun hq => ?_) (fun hq => ?_)) <;> (try (first | (conv => arg 8; simp only [hq]) | (conv => arg 4; simp only [hq])))) | (with_reducible refine fin_0 ?_ (by first | rfl | (conv => lhs; simp only [go_sem])) ?_) | exact Sub.refl _ | omega)
    refine dw_any (c := 1) (l := fun P : List V => [(0, .own 1000000 2 l0.length), (1, I 0), (2, I l0.length), (3, .fn f []), (8, I P.length), (1000000, .row 2 ((P ++ l0.drop P.length).map vD))]) (fun P => (P.Perm (l0.take P.length) ∧ P.Pairwise R) ∧ 1 ≤ P.length ∧ P.length ≤ l0.length) (fun P => l0.length - P.length) (l0.take 1) ⟨⟨?_, ?_⟩, ?_, ?_⟩ (Wk.list [1000000] rfl rfl ?_) (fun P hP => ?_)
    · rw [List.length_take, show min 1 l0.length = 1 by omega]
    · cases l0 with
      | nil => exact List.Pairwise.nil
      | cons a l => exact List.pairwise_singleton R a
    · rw [List.length_take]; omega
    · rw [List.length_take]; omega
    · have h1 : (l0.take 1).length = 1 := by rw [List.length_take]; omega
      have h2 : l0.take 1 ++ l0.drop 1 = l0 := List.take_append_drop 1 l0
      repeat' (first | (conv in hold _ => simp (disch := omega) only [go_sem, h1, h2]) | exact True.intro | exact Sub.refl _ | omega)
      first | exact rfl | exact ⟨rfl, rfl⟩ | skip
    · obtain ⟨⟨hperm, hpw⟩, hP1, hPl⟩ := hP
      by_cases hlt : P.length < l0.length
      · obtain ⟨x, hx⟩ : ∃ x, l0[P.length]? = some x := ⟨_, List.getElem?_eq_getElem hlt⟩
        have hxm := List.mem_of_getElem? hx
        have hdr : l0.drop P.length = x :: l0.drop (P.length + 1) := by
          obtain ⟨hh, rfl⟩ := List.getElem?_eq_some_iff.1 hx
          exact List.drop_eq_getElem_cons hh
        have hmem : ∀ y, y ∈ P → y ∈ l0 := fun y hy => List.mem_of_mem_take (hperm.mem_iff.1 hy)
        have hbef : ∀ y, y ∈ P → (c x y < 0 → R x y) ∧ (¬ c x y < 0 → R y x) := fun y hy => by
          obtain ⟨j, hj⟩ := List.mem_iff_getElem?.1 (hperm.mem_iff.1 hy)
          have hjl := (List.getElem?_eq_some_iff.1 hj).1
          rw [List.length_take] at hjl
          rw [List.getElem?_take_of_lt (by omega)] at hj
          exact ⟨hO.lt P.length j x y (by omega) hx hj, hO.ge P.length j x y (by omega) hx hj⟩
        -- what the next state of the sort is
        have hnext : ∀ j : Nat, j ≤ P.length → (∀ b, b ∈ P.drop j → R x b) → (∀ a, a ∈ P.take j → R a x) → (P.take j ++ x :: P.drop j).Perm (l0.take (P.length + 1)) ∧ (P.take j ++ x :: P.drop j).Pairwise R ∧ (P.take j ++ x :: P.drop j).length = P.length + 1 := fun j hj hB hA => by
          have e := List.take_append_drop j P
          refine ⟨?_, ins_pw (by rw [e]; exact hpw) hA hB, ?_⟩
          · rw [take_next hx]
            have h1 : (P.take j ++ x :: P.drop j).Perm (x :: (P.take j ++ P.drop j)) := List.perm_middle
            rw [e] at h1
            refine h1.trans ?_
            refine (hperm.cons x).trans ?_
            exact (List.perm_append_singleton x (l0.take P.length)).symm
          · have h1 : (P.take j ++ x :: P.drop j).Perm (x :: (P.take j ++ P.drop j)) := List.perm_middle
            rw [e] at h1
            rw [h1.length_eq, List.length_cons]
        rw [hdr]
        repeat' (first | with_reducible refine acc_none ?_ | (conv in hold _ => simp (disch := omega) only [go_sem, List.length_append, List.length_cons]) | refine Stp.go ?_ | (with_reducible first | refine it_pos rfl ?_ | refine it_neg (by decide) ?_ | refine st_nil rfl ?_ | refine s_op ?_ ?_ | exact True.intro) | ((with_reducible first | refine dw_reg0 ?_ | refine dw_regB ?_); (conv => arg 3; whnf)) | (refine Spl.go (fun hq he => ?_) (fun hq he => ?_) <;> first | (exfalso; clear hq; omega) | ((try (first | (conv => arg 8; simp only [hq]) | (conv => arg 4; simp only [hq]))); clear hq)) | ((with_reducible first | refine c_split (fun hq => ?_) (fun hq => ?_) | refine q_split (fun hq => ?_) (fun hq => ?_)) <;> (try (first | (conv => arg 8; simp only [hq]) | (conv => arg 4; simp only [hq])))) | (with_reducible refine fin_0 ?_ (by first | rfl | (conv => lhs; simp only [go_sem, List.length_append, List.length_cons])) ?_) | exact Sub.refl _ | omega)
        refine dw_for (c := 1) (l := fun k => [(0, .own 1000000 2 l0.length), (1, I 0), (2, I l0.length), (3, .fn f []), (8, I P.length), (9, I ((P.length : Int) - k)), (1000000, .row 2 ((P.take (P.length - k) ++ x :: (P.drop (P.length - k) ++ l0.drop (P.length + 1))).map vD))]) P.length (fun k => ∀ b, b ∈ P.drop (P.length - k) → R x b) 0 (fun b hb => by simp at hb) (Wk.list [1000000] rfl rfl ?_) (fun k hk hJ => ?_) (Nat.zero_le _)
        · have e1 : P.take (P.length - 0) = P := List.take_of_length_le (by omega)
          have e2 : P.drop (P.length - 0) = [] := List.drop_of_length_le (by omega)
          rw [e1, e2, List.nil_append]
          repeat' (first | (conv in hold _ => simp (disch := omega) only [go_sem]) | exact True.intro | exact Sub.refl _ | omega)
          first | exact rfl | exact congrArg (fun n => D.v (Value.int .i64 n)) (by omega)
        · by_cases hk0 : k = P.length
          · subst hk0
            have e1 : P.take (P.length - P.length) = [] := by rw [Nat.sub_self]; rfl
            have e2 : P.drop (P.length - P.length) = P := by rw [Nat.sub_self]; rfl
            obtain ⟨n1, n2, n3⟩ := hnext 0 (by omega) (by rw [e2] at hJ; exact hJ) (fun a ha => by simp at ha)
            rw [e1, e2]
            have hk9 : (P.length : Int) - (P.length : Int) = 0 := by omega
            repeat' (first | with_reducible refine acc_none ?_ | (conv in hold _ => simp (disch := omega) only [go_sem, hk9]) | refine Stp.go ?_ | (with_reducible first | refine it_pos rfl ?_ | refine it_neg (by decide) ?_ | refine st_nil rfl ?_ | refine s_op ?_ ?_ | exact True.intro) | ((with_reducible first | refine dw_reg0 ?_ | refine dw_regB ?_); (conv => arg 3; whnf)) | (refine Spl.go (fun hq he => ?_) (fun hq he => ?_) <;> first | (exfalso; clear hq; omega) | ((try (first | (conv => arg 8; simp only [hq]) | (conv => arg 4; simp only [hq]))); clear hq)) | ((with_reducible first | refine c_split (fun hq => ?_) (fun hq => ?_) | refine q_split (fun hq => ?_) (fun hq => ?_)) <;> (try (first | (conv => arg 8; simp only [hq]) | (conv => arg 4; simp only [hq])))) | (with_reducible refine fin_0 ?_ (by first | rfl | (conv => lhs; simp only [go_sem, hk9])) ?_) | exact Sub.refl _ | omega)
            refine ⟨P.take 0 ++ x :: P.drop 0, ⟨⟨by rw [n3]; exact n1, n2⟩, by omega, by omega⟩, by omega, Wk.list [1000000] rfl rfl ?_⟩
            repeat' (first | (conv in hold _ => simp (disch := omega) only [go_sem, n3]) | exact True.intro | exact Sub.refl _ | omega)
            first | exact rfl | exact ⟨rfl, rfl⟩ | skip
          · obtain ⟨j, hj⟩ : ∃ j, P.length - k = j + 1 := ⟨P.length - k - 1, by omega⟩
            obtain ⟨y, hy⟩ : ∃ y, P[j]? = some y := ⟨_, List.getElem?_eq_getElem (by omega)⟩
            have hyP := List.mem_of_getElem? hy
            have htk := take_next hy
            have hAl : (P.take j).length = j := take_len (by omega)
            have hdj : P.drop j = y :: P.drop (j + 1) := by
              obtain ⟨hh, rfl⟩ := List.getElem?_eq_some_iff.1 hy
              exact List.drop_eq_getElem_cons hh
            rw [hj] at hJ ⊢
            have hL : P.take (j + 1) ++ x :: (P.drop (j + 1) ++ l0.drop (P.length + 1)) = P.take j ++ y :: x :: (P.drop (j + 1) ++ l0.drop (P.length + 1)) := by rw [htk, List.append_assoc]; rfl
            rw [hL]
            have hsw := swap_at y x (P.drop (j + 1) ++ l0.drop (P.length + 1)) (P.take j)
            have hg0 := mid_get (P.take j) y (x :: (P.drop (j + 1) ++ l0.drop (P.length + 1)))
            have hg1 := mid_get (P.take j ++ [y]) x (P.drop (j + 1) ++ l0.drop (P.length + 1))
            rw [List.append_assoc, List.length_append, hAl] at hg1
            rw [hAl] at hg0 hsw
            have hg1 : (P.take j ++ y :: x :: (P.drop (j + 1) ++ l0.drop (P.length + 1)))[j + 1]? = some x := hg1
            have hLl : (P.take j ++ y :: x :: (P.drop (j + 1) ++ l0.drop (P.length + 1))).length = l0.length := by
              simp only [List.length_append, List.length_cons, hAl, List.length_drop]
              omega
            obtain ⟨L, hLe⟩ : ∃ L, P.take j ++ y :: x :: (P.drop (j + 1) ++ l0.drop (P.length + 1)) = L := ⟨_, rfl⟩
            have hL0 := hL.trans hLe
            rw [hLe] at hg0 hg1 hsw hLl ⊢
            have hjj : (P.length : Int) - (k : Int) = (j : Int) + 1 := by omega
            have hj1 : ((j : Int) + 1).toNat = j + 1 := by omega
            have hj2 : ((j : Int) + 1 - 1).toNat = j := by omega
            have hct := hc x y hxm (hmem y hyP)
            by_cases hneg : c x y < 0
            · have hRx := (hbef y hyP).1 hneg
              have hmp : ((L.map vD).set (j + 1) (vD y)).set j (vD x) = ((L.set (j + 1) y).set j x).map vD := by rw [List.map_set, List.map_set]
              rw [hsw] at hmp
              have hq : ((L.map vD).set (j + 1) (vD y))[j]? = some (vD y) := by rw [List.getElem?_set_ne (by omega), List.getElem?_map, hg0]; rfl
              simp only [vD] at hmp hq
              have hset1 : ((L.map vD).set (j + 1) (vD y)).length = l0.length := by rw [List.length_set, List.length_map, hLl]
              repeat' (first | with_reducible refine acc_none ?_ | (conv in hold _ => simp (disch := omega) only [go_sem, hjj, hj1, hj2, hLl, hq, List.length_map, List.length_set, List.getElem?_map, hg0, hg1, Option.map_some]) | refine Stp.go ?_ | (with_reducible first | refine it_pos rfl ?_ | refine it_neg (by decide) ?_ | refine st_nil rfl ?_ | refine s_op ?_ ?_ | exact True.intro) | ((with_reducible first | refine dw_reg0 ?_ | refine dw_regB ?_); (conv => arg 3; whnf)) | (refine Spl.go (fun hq he => ?_) (fun hq he => ?_) <;> first | (exfalso; clear hq; omega) | ((try (first | (conv => arg 8; simp only [hq]) | (conv => arg 4; simp only [hq]))); clear hq)) | ((with_reducible first | refine c_split (fun hq => ?_) (fun hq => ?_) | refine q_split (fun hq => ?_) (fun hq => ?_)) <;> (try (first | (conv => arg 8; simp only [hq]) | (conv => arg 4; simp only [hq])))) | (with_reducible refine fin_0 ?_ (by first | rfl | (conv => lhs; simp only [go_sem, hjj, hj1, hj2, hLl, hq, List.length_map, List.length_set, List.getElem?_map, hg0, hg1, Option.map_some])) ?_) | exact Sub.refl _ | omega)
              refine v_fn (hf) ?_
              refine c_doesE (hct) ?_ ?_ ?_
              · ((try (conv => rhs; simp (disch := omega) only [go_sem, hjj, hj1, hj2, hLl, hq, List.length_map, List.length_set, List.getElem?_map, hg0, hg1, Option.map_some])); try rfl)
              · first | rfl | (conv => lhs; simp only [go_sem, hjj, hj1, hj2, hLl, hq, List.length_map, List.length_set, List.getElem?_map, hg0, hg1, Option.map_some])
              repeat' (first | with_reducible refine acc_none ?_ | (conv in hold _ => simp (disch := omega) only [go_sem, hjj, hj1, hj2, hLl, hq, List.length_map, List.length_set, List.getElem?_map, hg0, hg1, Option.map_some]) | refine Stp.go ?_ | (with_reducible first | refine it_pos rfl ?_ | refine it_neg (by decide) ?_ | refine st_nil rfl ?_ | refine s_op ?_ ?_ | exact True.intro) | ((with_reducible first | refine dw_reg0 ?_ | refine dw_regB ?_); (conv => arg 3; whnf)) | (refine Spl.go (fun hq he => ?_) (fun hq he => ?_) <;> first | (exfalso; clear hq; omega) | ((try (first | (conv => arg 8; simp only [hq]) | (conv => arg 4; simp only [hq]))); clear hq)) | ((with_reducible first | refine c_split (fun hq => ?_) (fun hq => ?_) | refine q_split (fun hq => ?_) (fun hq => ?_)) <;> (try (first | (conv => arg 8; simp only [hq]) | (conv => arg 4; simp only [hq])))) | (with_reducible refine fin_0 ?_ (by first | rfl | (conv => lhs; simp only [go_sem, hjj, hj1, hj2, hLl, hq, List.length_map, List.length_set, List.getElem?_map, hg0, hg1, Option.map_some])) ?_) | exact Sub.refl _ | omega)
              refine ⟨by omega, fun b hb => ?_, Wk.list [1000000] rfl rfl ?_⟩
              · rw [show P.length - (k + 1) = j by omega, hdj] at hb
                rcases List.mem_cons.1 hb with rfl | hb
                · exact hRx
                · exact hJ b hb
              · rw [show P.length - (k + 1) = j by omega, hdj]
                repeat' (first | (conv in hold _ => simp (disch := omega) only [go_sem, hmp]) | exact True.intro | exact Sub.refl _ | omega)
                first | exact rfl | exact congrArg (fun n => D.v (Value.int .i64 n)) (by omega) | exact ⟨congrArg (fun n => D.v (Value.int .i64 n)) (by omega), rfl⟩ | exact ⟨congrArg (fun n => D.v (Value.int .i64 n)) (by omega), congrArg (D.row 2) hmp⟩
            · have hRy := (hbef y hyP).2 hneg
              obtain ⟨n1, n2, n3⟩ := hnext (j + 1) (by omega) hJ (fun a ha => by
                rw [htk] at ha
                rcases List.mem_append.1 ha with ha | ha
                · have hp2 := List.take_append_drop j P
                  rw [hdj] at hp2
                  rw [← hp2] at hpw
                  have := (List.pairwise_append.1 hpw).2.2 a ha y (List.mem_cons_self ..)
                  exact hO.tr a y x (hmem a (List.mem_of_mem_take ha)) (hmem y hyP) hxm this hRy
                · rw [List.mem_singleton.1 ha]
                  exact hRy)
              rw [show L = (P.take (j + 1) ++ x :: P.drop (j + 1)) ++ l0.drop (P.length + 1) by rw [List.append_assoc]; exact hL0.symm] at hg0 hg1 hLl ⊢
              repeat' (first | with_reducible refine acc_none ?_ | (conv in hold _ => simp (disch := omega) only [go_sem, hjj, hj1, hj2, hLl, List.length_map, List.getElem?_map, hg0, hg1, Option.map_some]) | refine Stp.go ?_ | (with_reducible first | refine it_pos rfl ?_ | refine it_neg (by decide) ?_ | refine st_nil rfl ?_ | refine s_op ?_ ?_ | exact True.intro) | ((with_reducible first | refine dw_reg0 ?_ | refine dw_regB ?_); (conv => arg 3; whnf)) | (refine Spl.go (fun hq he => ?_) (fun hq he => ?_) <;> first | (exfalso; clear hq; omega) | ((try (first | (conv => arg 8; simp only [hq]) | (conv => arg 4; simp only [hq]))); clear hq)) | ((with_reducible first | refine c_split (fun hq => ?_) (fun hq => ?_) | refine q_split (fun hq => ?_) (fun hq => ?_)) <;> (try (first | (conv => arg 8; simp only [hq]) | (conv => arg 4; simp only [hq])))) | (with_reducible refine fin_0 ?_ (by first | rfl | (conv => lhs; simp only [go_sem, hjj, hj1, hj2, hLl, List.length_map, List.getElem?_map, hg0, hg1, Option.map_some])) ?_) | exact Sub.refl _ | omega)
              refine v_fn (hf) ?_
              refine c_doesE (hct) ?_ ?_ ?_
              · ((try (conv => rhs; simp (disch := omega) only [go_sem, hjj, hj1, hj2, hLl, List.length_map, List.getElem?_map, hg0, hg1, Option.map_some])); try rfl)
              · first | rfl | (conv => lhs; simp only [go_sem, hjj, hj1, hj2, hLl, List.length_map, List.getElem?_map, hg0, hg1, Option.map_some])
              repeat' (first | with_reducible refine acc_none ?_ | (conv in hold _ => simp (disch := omega) only [go_sem, hjj, hj1, hj2, hLl, List.length_map, List.getElem?_map, hg0, hg1, Option.map_some]) | refine Stp.go ?_ | (with_reducible first | refine it_pos rfl ?_ | refine it_neg (by decide) ?_ | refine st_nil rfl ?_ | refine s_op ?_ ?_ | exact True.intro) | ((with_reducible first | refine dw_reg0 ?_ | refine dw_regB ?_); (conv => arg 3; whnf)) | (refine Spl.go (fun hq he => ?_) (fun hq he => ?_) <;> first | (exfalso; clear hq; omega) | ((try (first | (conv => arg 8; simp only [hq]) | (conv => arg 4; simp only [hq]))); clear hq)) | ((with_reducible first | refine c_split (fun hq => ?_) (fun hq => ?_) | refine q_split (fun hq => ?_) (fun hq => ?_)) <;> (try (first | (conv => arg 8; simp only [hq]) | (conv => arg 4; simp only [hq])))) | (with_reducible refine fin_0 ?_ (by first | rfl | (conv => lhs; simp only [go_sem, hjj, hj1, hj2, hLl, List.length_map, List.getElem?_map, hg0, hg1, Option.map_some])) ?_) | exact Sub.refl _ | omega)
              refine ⟨P.take (j + 1) ++ x :: P.drop (j + 1), ⟨⟨by rw [n3]; exact n1, n2⟩, by omega, by omega⟩, by omega, Wk.list [1000000] rfl rfl ?_⟩
              repeat' (first | (conv in hold _ => simp (disch := omega) only [go_sem, n3]) | exact True.intro | exact Sub.refl _ | omega)
              first | exact rfl | exact ⟨rfl, rfl⟩ | skip
      · have hPn : P.length = l0.length := by omega
        have hfin : P = sorted := hu P (by rw [hPn, List.take_length] at hperm; exact hperm) hpw
        have hnil : P ++ l0.drop P.length = sorted := by rw [hPn, List.drop_length, List.append_nil, hfin]
        rw [hnil]
        repeat' (first | with_reducible refine acc_none ?_ | (conv in hold _ => simp (disch := omega) only [go_sem, hPn]) | refine Stp.go ?_ | (with_reducible first | refine it_pos rfl ?_ | refine it_neg (by decide) ?_ | refine st_nil rfl ?_ | refine s_op ?_ ?_ | exact True.intro) | ((with_reducible first | refine dw_reg0 ?_ | refine dw_regB ?_); (conv => arg 3; whnf)) | (refine Spl.go (fun hq he => ?_) (fun hq he => ?_) <;> first | (exfalso; clear hq; omega) | ((try (first | (conv => arg 8; simp only [hq]) | (conv => arg 4; simp only [hq]))); clear hq)) | ((with_reducible first | refine c_split (fun hq => ?_) (fun hq => ?_) | refine q_split (fun hq => ?_) (fun hq => ?_)) <;> (try (first | (conv => arg 8; simp only [hq]) | (conv => arg 4; simp only [hq])))) | (with_reducible refine fin_0 ?_ (by first | rfl | (conv => lhs; simp only [go_sem, hPn])) ?_) | exact Sub.refl _ | omega)
        refine fin_L [1000000] ?_ ?_ rfl ?_
        repeat' (first | (conv in hold _ => simp (disch := omega) only [go_sem]) | exact True.intro | exact Sub.refl _ | omega)
theorem insSort_int (rs : List (List V)) (w cc : Int) {f : FuncId} (hf : enters Try.prog f = true) {c : Int → Int → Int} {R : Int → Int → Prop} (l0 sorted : List Int) (hn : l0.length ≤ 400) (hO : InsOK c R l0) (hc : ∀ x y, x ∈ l0 → y ∈ l0 → Does Try.prog f [.obj [I w, rowsD rs], .obj [I cc]] [I x, I y, .ref 1000000 0, .ref 1000001 0] (I (c x y)) [.obj [I w, rowsD rs], .obj [I cc]]) (hu : ∀ l : List Int, l.Perm l0 → l.Pairwise R → l = sorted) :
    Does Try.prog 61 [.obj [I w, rowsD rs], .obj [I cc], .row 1 (l0.map I)] [.own 1000002 1 l0.length, I 0, I l0.length, .fn f [.ref 1000000 0, .ref 1000001 0]] (.tup []) [.obj [I w, rowsD rs], .obj [I cc], .row 1 (sorted.map I)] := by
  by_cases h0 : l0.length = 0
  · have hs : sorted = l0 := (hu l0 (List.Perm.refl _) (by rw [List.length_eq_zero_iff.1 h0]; exact List.Pairwise.nil)).symm
    rw [hs]
    refine does c_slices_insertionSortCmpFunc_int_ mixed (Nat.le_of_ble_eq_true rfl) 3 rfl ?_
    conv => arg 3; whnf
    repeat' (first | with_reducible refine acc_none ?_ | (conv in hold _ => simp (disch := omega) only [go_sem]) | refine Stp.go ?_ | (with_reducible first | refine it_pos rfl ?_ | refine it_neg (by decide) ?_ | refine st_nil rfl ?_ | refine s_op ?_ ?_ | exact True.intro) | ((with_reducible first | refine dw_reg0 ?_ | refine dw_regB ?_); (conv => arg 3; whnf)) | (refine Spl.go (fun hq he => ?_) (fun hq he => ?_) <;> first | (exfalso; clear hq; omega) | ((try (first | (conv => arg 8; simp only [hq]) | (conv => arg 4; simp only [hq]))); clear hq)) | ((with_reducible first | refine c_split (fun hq => ?_) (fun hq => ?_) | refine q_split (fun hq => ?_) (fun hq => ?_)) <;> (try (first | (conv => arg 8; simp only [hq]) | (conv => arg 4; simp only [hq])))) | (with_reducible refine fin_0 ?_ (by first | rfl | (conv => lhs; simp only [go_sem])) ?_) | exact Sub.refl _ | omega)
    refine dw_for (c := 3) (l := fun i => [(0, .own 1000002 1 l0.length), (1, I 0), (2, I l0.length), (3, .fn f [.ref 1000000 0, .ref 1000001 0]), (8, I 1), (1000000, .obj [I w, rowsD rs]), (1000001, .obj [I cc]), (1000002, .row 1 (l0.map I))]) 0 (fun _ => True) 0 trivial (Wk.list [1000000, 1000001, 1000002] rfl rfl ?_) (fun i hi _ => ?_) (Nat.zero_le _)
    · repeat' (first | (conv in hold _ => simp (disch := omega) only [go_sem]) | exact True.intro | exact Sub.refl _ | omega)
      first | exact rfl | exact ⟨rfl, rfl⟩ | skip
    · repeat' (first | with_reducible refine acc_none ?_ | (conv in hold _ => simp (disch := omega) only [go_sem]) | refine Stp.go ?_ | (with_reducible first | refine it_pos rfl ?_ | refine it_neg (by decide) ?_ | refine st_nil rfl ?_ | refine s_op ?_ ?_ | exact True.intro) | ((with_reducible first | refine dw_reg0 ?_ | refine dw_regB ?_); (conv => arg 3; whnf)) | (refine Spl.go (fun hq he => ?_) (fun hq he => ?_) <;> first | (exfalso; clear hq; omega) | ((try (first | (conv => arg 8; simp only [hq]) | (conv => arg 4; simp only [hq]))); clear hq)) | ((with_reducible first | refine c_split (fun hq => ?_) (fun hq => ?_) | refine q_split (fun hq => ?_) (fun hq => ?_)) <;> (try (first | (conv => arg 8; simp only [hq]) | (conv => arg 4; simp only [hq])))) | (with_reducible refine fin_0 ?_ (by first | rfl | (conv => lhs; simp only [go_sem])) ?_) | exact Sub.refl _ | omega)
      refine fin_L [1000000, 1000001, 1000002] ?_ ?_ rfl ?_
      repeat' (first | (conv in hold _ => simp (disch := omega) only [go_sem]) | exact True.intro | exact Sub.refl _ | omega)
  · refine does c_slices_insertionSortCmpFunc_int_ mixed (Nat.le_of_ble_eq_true rfl) 3 rfl ?_
    conv => arg 3; whnf
    repeat' (first | with_reducible refine acc_none ?_ | (conv in hold _ => simp (disch := omega) only [go_sem]) | refine Stp.go ?_ | (with_reducible first | refine it_pos rfl ?_ | refine it_neg (by decide) ?_ | refine st_nil rfl ?_ | refine s_op ?_ ?_ | exact True.intro) | ((with_reducible first | refine dw_reg0 ?_ | refine dw_regB ?_); (conv => arg 3; whnf)) | (refine Spl.go (fun hq he => ?_) (fun hq he => ?_) <;> first | (exfalso; clear hq; omega) | ((try (first | (conv => arg 8; simp only [hq]) | (conv => arg 4; simp only [hq]))); clear hq)) | ((with_reducible first | refine c_split (fun hq => ?_) (fun hq => ?_) | refine q_split (fun hq => ?_) (fun hq => ?_)) <;> (try (first | (conv => arg 8; simp only [hq]) | (conv => arg 4; simp only [hq])))) | (with_reducible refine fin_0 ?_ (by first | rfl | (conv => lhs; simp only [go_sem])) ?_) | exact Sub.refl _ | omega)
    refine dw_any (c := 3) (l := fun P : List Int => [(0, .own 1000002 1 l0.length), (1, I 0), (2, I l0.length), (3, .fn f [.ref 1000000 0, .ref 1000001 0]), (8, I P.length), (1000000, .obj [I w, rowsD rs]), (1000001, .obj [I cc]), (1000002, .row 1 ((P ++ l0.drop P.length).map I))]) (fun P => (P.Perm (l0.take P.length) ∧ P.Pairwise R) ∧ 1 ≤ P.length ∧ P.length ≤ l0.length) (fun P => l0.length - P.length) (l0.take 1) ⟨⟨?_, ?_⟩, ?_, ?_⟩ (Wk.list [1000000, 1000001, 1000002] rfl rfl ?_) (fun P hP => ?_)
    · rw [List.length_take, show min 1 l0.length = 1 by omega]
    · cases l0 with
      | nil => exact List.Pairwise.nil
      | cons a l => exact List.pairwise_singleton R a
    · rw [List.length_take]; omega
    · rw [List.length_take]; omega
    · have h1 : (l0.take 1).length = 1 := by rw [List.length_take]; omega
      have h2 : l0.take 1 ++ l0.drop 1 = l0 := List.take_append_drop 1 l0
      repeat' (first | (conv in hold _ => simp (disch := omega) only [go_sem, h1, h2]) | exact True.intro | exact Sub.refl _ | omega)
      first | exact rfl | exact ⟨rfl, rfl⟩ | skip
    · obtain ⟨⟨hperm, hpw⟩, hP1, hPl⟩ := hP
      by_cases hlt : P.length < l0.length
      · obtain ⟨x, hx⟩ : ∃ x, l0[P.length]? = some x := ⟨_, List.getElem?_eq_getElem hlt⟩
        have hxm := List.mem_of_getElem? hx
        have hdr : l0.drop P.length = x :: l0.drop (P.length + 1) := by
          obtain ⟨hh, rfl⟩ := List.getElem?_eq_some_iff.1 hx
          exact List.drop_eq_getElem_cons hh
        have hmem : ∀ y, y ∈ P → y ∈ l0 := fun y hy => List.mem_of_mem_take (hperm.mem_iff.1 hy)
        have hbef : ∀ y, y ∈ P → (c x y < 0 → R x y) ∧ (¬ c x y < 0 → R y x) := fun y hy => by
          obtain ⟨j, hj⟩ := List.mem_iff_getElem?.1 (hperm.mem_iff.1 hy)
          have hjl := (List.getElem?_eq_some_iff.1 hj).1
          rw [List.length_take] at hjl
          rw [List.getElem?_take_of_lt (by omega)] at hj
          exact ⟨hO.lt P.length j x y (by omega) hx hj, hO.ge P.length j x y (by omega) hx hj⟩
        -- what the next state of the sort is
        have hnext : ∀ j : Nat, j ≤ P.length → (∀ b, b ∈ P.drop j → R x b) → (∀ a, a ∈ P.take j → R a x) → (P.take j ++ x :: P.drop j).Perm (l0.take (P.length + 1)) ∧ (P.take j ++ x :: P.drop j).Pairwise R ∧ (P.take j ++ x :: P.drop j).length = P.length + 1 := fun j hj hB hA => by
          have e := List.take_append_drop j P
          refine ⟨?_, ins_pw (by rw [e]; exact hpw) hA hB, ?_⟩
          · rw [take_next hx]
            have h1 : (P.take j ++ x :: P.drop j).Perm (x :: (P.take j ++ P.drop j)) := List.perm_middle
            rw [e] at h1
            refine h1.trans ?_
            refine (hperm.cons x).trans ?_
            exact (List.perm_append_singleton x (l0.take P.length)).symm
          · have h1 : (P.take j ++ x :: P.drop j).Perm (x :: (P.take j ++ P.drop j)) := List.perm_middle
            rw [e] at h1
            rw [h1.length_eq, List.length_cons]
        rw [hdr]
        repeat' (first | with_reducible refine acc_none ?_ | (conv in hold _ => simp (disch := omega) only [go_sem, List.length_append, List.length_cons]) | refine Stp.go ?_ | (with_reducible first | refine it_pos rfl ?_ | refine it_neg (by decide) ?_ | refine st_nil rfl ?_ | refine s_op ?_ ?_ | exact True.intro) | ((with_reducible first | refine dw_reg0 ?_ | refine dw_regB ?_); (conv => arg 3; whnf)) | (refine Spl.go (fun hq he => ?_) (fun hq he => ?_) <;> first | (exfalso; clear hq; omega) | ((try (first | (conv => arg 8; simp only [hq]) | (conv => arg 4; simp only [hq]))); clear hq)) | ((with_reducible first | refine c_split (fun hq => ?_) (fun hq => ?_) | refine q_split (fun hq => ?_) (fun hq => ?_)) <;> (try (first | (conv => arg 8; simp only [hq]) | (conv => arg 4; simp only [hq])))) | (with_reducible refine fin_0 ?_ (by first | rfl | (conv => lhs; simp only [go_sem, List.length_append, List.length_cons])) ?_) | exact Sub.refl _ | omega)
        refine dw_for (c := 3) (l := fun k => [(0, .own 1000002 1 l0.length), (1, I 0), (2, I l0.length), (3, .fn f [.ref 1000000 0, .ref 1000001 0]), (8, I P.length), (9, I ((P.length : Int) - k)), (1000000, .obj [I w, rowsD rs]), (1000001, .obj [I cc]), (1000002, .row 1 ((P.take (P.length - k) ++ x :: (P.drop (P.length - k) ++ l0.drop (P.length + 1))).map I))]) P.length (fun k => ∀ b, b ∈ P.drop (P.length - k) → R x b) 0 (fun b hb => by simp at hb) (Wk.list [1000000, 1000001, 1000002] rfl rfl ?_) (fun k hk hJ => ?_) (Nat.zero_le _)
        · have e1 : P.take (P.length - 0) = P := List.take_of_length_le (by omega)
          have e2 : P.drop (P.length - 0) = [] := List.drop_of_length_le (by omega)
          rw [e1, e2, List.nil_append]
          repeat' (first | (conv in hold _ => simp (disch := omega) only [go_sem]) | exact True.intro | exact Sub.refl _ | omega)
          first | exact rfl | exact congrArg (fun n => D.v (Value.int .i64 n)) (by omega)
        · by_cases hk0 : k = P.length
          · subst hk0
            have e1 : P.take (P.length - P.length) = [] := by rw [Nat.sub_self]; rfl
            have e2 : P.drop (P.length - P.length) = P := by rw [Nat.sub_self]; rfl
            obtain ⟨n1, n2, n3⟩ := hnext 0 (by omega) (by rw [e2] at hJ; exact hJ) (fun a ha => by simp at ha)
            rw [e1, e2]
            have hk9 : (P.length : Int) - (P.length : Int) = 0 := by omega
            repeat' (first | with_reducible refine acc_none ?_ | (conv in hold _ => simp (disch := omega) only [go_sem, hk9]) | refine Stp.go ?_ | (with_reducible first | refine it_pos rfl ?_ | refine it_neg (by decide) ?_ | refine st_nil rfl ?_ | refine s_op ?_ ?_ | exact True.intro) | ((with_reducible first | refine dw_reg0 ?_ | refine dw_regB ?_); (conv => arg 3; whnf)) | (refine Spl.go (fun hq he => ?_) (fun hq he => ?_) <;> first | (exfalso; clear hq; omega) | ((try (first | (conv => arg 8; simp only [hq]) | (conv => arg 4; simp only [hq]))); clear hq)) | ((with_reducible first | refine c_split (fun hq => ?_) (fun hq => ?_) | refine q_split (fun hq => ?_) (fun hq => ?_)) <;> (try (first | (conv => arg 8; simp only [hq]) | (conv => arg 4; simp only [hq])))) | (with_reducible refine fin_0 ?_ (by first | rfl | (conv => lhs; simp only [go_sem, hk9])) ?_) | exact Sub.refl _ | omega)
            refine ⟨P.take 0 ++ x :: P.drop 0, ⟨⟨by rw [n3]; exact n1, n2⟩, by omega, by omega⟩, by omega, Wk.list [1000000, 1000001, 1000002] rfl rfl ?_⟩
            repeat' (first | (conv in hold _ => simp (disch := omega) only [go_sem, n3]) | exact True.intro | exact Sub.refl _ | omega)
            first | exact rfl | exact ⟨rfl, rfl⟩ | skip
          · obtain ⟨j, hj⟩ : ∃ j, P.length - k = j + 1 := ⟨P.length - k - 1, by omega⟩
            obtain ⟨y, hy⟩ : ∃ y, P[j]? = some y := ⟨_, List.getElem?_eq_getElem (by omega)⟩
            have hyP := List.mem_of_getElem? hy
            have htk := take_next hy
            have hAl : (P.take j).length = j := take_len (by omega)
            have hdj : P.drop j = y :: P.drop (j + 1) := by
              obtain ⟨hh, rfl⟩ := List.getElem?_eq_some_iff.1 hy
              exact List.drop_eq_getElem_cons hh
            rw [hj] at hJ ⊢
            have hL : P.take (j + 1) ++ x :: (P.drop (j + 1) ++ l0.drop (P.length + 1)) = P.take j ++ y :: x :: (P.drop (j + 1) ++ l0.drop (P.length + 1)) := by rw [htk, List.append_assoc]; rfl
            rw [hL]
            have hsw := swap_at y x (P.drop (j + 1) ++ l0.drop (P.length + 1)) (P.take j)
            have hg0 := mid_get (P.take j) y (x :: (P.drop (j + 1) ++ l0.drop (P.length + 1)))
            have hg1 := mid_get (P.take j ++ [y]) x (P.drop (j + 1) ++ l0.drop (P.length + 1))
            rw [List.append_assoc, List.length_append, hAl] at hg1
            rw [hAl] at hg0 hsw
            have hg1 : (P.take j ++ y :: x :: (P.drop (j + 1) ++ l0.drop (P.length + 1)))[j + 1]? = some x := hg1
            have hLl : (P.take j ++ y :: x :: (P.drop (j + 1) ++ l0.drop (P.length + 1))).length = l0.length := by
              simp only [List.length_append, List.length_cons, hAl, List.length_drop]
              omega
            obtain ⟨L, hLe⟩ : ∃ L, P.take j ++ y :: x :: (P.drop (j + 1) ++ l0.drop (P.length + 1)) = L := ⟨_, rfl⟩
            have hL0 := hL.trans hLe
            rw [hLe] at hg0 hg1 hsw hLl ⊢
            have hjj : (P.length : Int) - (k : Int) = (j : Int) + 1 := by omega
            have hj1 : ((j : Int) + 1).toNat = j + 1 := by omega
            have hj2 : ((j : Int) + 1 - 1).toNat = j := by omega
            have hct := hc x y hxm (hmem y hyP)
            by_cases hneg : c x y < 0
            · have hRx := (hbef y hyP).1 hneg
              have hmp : ((L.map I).set (j + 1) (I y)).set j (I x) = ((L.set (j + 1) y).set j x).map I := by rw [List.map_set, List.map_set]
              rw [hsw] at hmp
              have hq : ((L.map I).set (j + 1) (I y))[j]? = some (I y) := by rw [List.getElem?_set_ne (by omega), List.getElem?_map, hg0]; rfl
              skip
              have hset1 : ((L.map I).set (j + 1) (I y)).length = l0.length := by rw [List.length_set, List.length_map, hLl]
              repeat' (first | with_reducible refine acc_none ?_ | (conv in hold _ => simp (disch := omega) only [go_sem, hjj, hj1, hj2, hLl, hq, List.length_map, List.length_set, List.getElem?_map, hg0, hg1, Option.map_some]) | refine Stp.go ?_ | (with_reducible first | refine it_pos rfl ?_ | refine it_neg (by decide) ?_ | refine st_nil rfl ?_ | refine s_op ?_ ?_ | exact True.intro) | ((with_reducible first | refine dw_reg0 ?_ | refine dw_regB ?_); (conv => arg 3; whnf)) | (refine Spl.go (fun hq he => ?_) (fun hq he => ?_) <;> first | (exfalso; clear hq; omega) | ((try (first | (conv => arg 8; simp only [hq]) | (conv => arg 4; simp only [hq]))); clear hq)) | ((with_reducible first | refine c_split (fun hq => ?_) (fun hq => ?_) | refine q_split (fun hq => ?_) (fun hq => ?_)) <;> (try (first | (conv => arg 8; simp only [hq]) | (conv => arg 4; simp only [hq])))) | (with_reducible refine fin_0 ?_ (by first | rfl | (conv => lhs; simp only [go_sem, hjj, hj1, hj2, hLl, hq, List.length_map, List.length_set, List.getElem?_map, hg0, hg1, Option.map_some])) ?_) | exact Sub.refl _ | omega)
              refine v_fn (hf) ?_
              refine c_doesR [1000000, 1000001] (hct) (callOK_of rfl (Nat.le_of_ble_eq_true rfl) rfl ?_ ?_) ?_ ?_
              · repeat' (first | (conv in hold _ => simp (disch := omega) only [go_sem, hjj, hj1, hj2, hLl, hq, List.length_map, List.length_set, List.getElem?_map, hg0, hg1, Option.map_some]) | exact True.intro | exact Sub.refl _ | omega)
              · repeat' (first | (conv in hold _ => simp (disch := omega) only [go_sem, hjj, hj1, hj2, hLl, hq, List.length_map, List.length_set, List.getElem?_map, hg0, hg1, Option.map_some]) | exact True.intro | exact Sub.refl _ | omega)
              · ((conv => rhs; simp (disch := omega) only [go_sem, hjj, hj1, hj2, hLl, hq, List.length_map, List.length_set, List.getElem?_map, hg0, hg1, Option.map_some]); try rfl)
              repeat' (first | with_reducible refine acc_none ?_ | (conv in hold _ => simp (disch := omega) only [go_sem, hjj, hj1, hj2, hLl, hq, List.length_map, List.length_set, List.getElem?_map, hg0, hg1, Option.map_some]) | refine Stp.go ?_ | (with_reducible first | refine it_pos rfl ?_ | refine it_neg (by decide) ?_ | refine st_nil rfl ?_ | refine s_op ?_ ?_ | exact True.intro) | ((with_reducible first | refine dw_reg0 ?_ | refine dw_regB ?_); (conv => arg 3; whnf)) | (refine Spl.go (fun hq he => ?_) (fun hq he => ?_) <;> first | (exfalso; clear hq; omega) | ((try (first | (conv => arg 8; simp only [hq]) | (conv => arg 4; simp only [hq]))); clear hq)) | ((with_reducible first | refine c_split (fun hq => ?_) (fun hq => ?_) | refine q_split (fun hq => ?_) (fun hq => ?_)) <;> (try (first | (conv => arg 8; simp only [hq]) | (conv => arg 4; simp only [hq])))) | (with_reducible refine fin_0 ?_ (by first | rfl | (conv => lhs; simp only [go_sem, hjj, hj1, hj2, hLl, hq, List.length_map, List.length_set, List.getElem?_map, hg0, hg1, Option.map_some])) ?_) | exact Sub.refl _ | omega)
              refine ⟨by omega, fun b hb => ?_, Wk.list [1000000, 1000001, 1000002] rfl rfl ?_⟩
              · rw [show P.length - (k + 1) = j by omega, hdj] at hb
                rcases List.mem_cons.1 hb with rfl | hb
                · exact hRx
                · exact hJ b hb
              · rw [show P.length - (k + 1) = j by omega, hdj]
                repeat' (first | (conv in hold _ => simp (disch := omega) only [go_sem, hmp]) | exact True.intro | exact Sub.refl _ | omega)
                first | exact rfl | exact congrArg (fun n => D.v (Value.int .i64 n)) (by omega) | exact ⟨congrArg (fun n => D.v (Value.int .i64 n)) (by omega), rfl⟩ | exact ⟨congrArg (fun n => D.v (Value.int .i64 n)) (by omega), congrArg (D.row 1) hmp⟩
            · have hRy := (hbef y hyP).2 hneg
              obtain ⟨n1, n2, n3⟩ := hnext (j + 1) (by omega) hJ (fun a ha => by
                rw [htk] at ha
                rcases List.mem_append.1 ha with ha | ha
                · have hp2 := List.take_append_drop j P
                  rw [hdj] at hp2
                  rw [← hp2] at hpw
                  have := (List.pairwise_append.1 hpw).2.2 a ha y (List.mem_cons_self ..)
                  exact hO.tr a y x (hmem a (List.mem_of_mem_take ha)) (hmem y hyP) hxm this hRy
                · rw [List.mem_singleton.1 ha]
                  exact hRy)
              rw [show L = (P.take (j + 1) ++ x :: P.drop (j + 1)) ++ l0.drop (P.length + 1) by rw [List.append_assoc]; exact hL0.symm] at hg0 hg1 hLl ⊢
              repeat' (first | with_reducible refine acc_none ?_ | (conv in hold _ => simp (disch := omega) only [go_sem, hjj, hj1, hj2, hLl, List.length_map, List.getElem?_map, hg0, hg1, Option.map_some]) | refine Stp.go ?_ | (with_reducible first | refine it_pos rfl ?_ | refine it_neg (by decide) ?_ | refine st_nil rfl ?_ | refine s_op ?_ ?_ | exact True.intro) | ((with_reducible first | refine dw_reg0 ?_ | refine dw_regB ?_); (conv => arg 3; whnf)) | (refine Spl.go (fun hq he => ?_) (fun hq he => ?_) <;> first | (exfalso; clear hq; omega) | ((try (first | (conv => arg 8; simp only [hq]) | (conv => arg 4; simp only [hq]))); clear hq)) | ((with_reducible first | refine c_split (fun hq => ?_) (fun hq => ?_) | refine q_split (fun hq => ?_) (fun hq => ?_)) <;> (try (first | (conv => arg 8; simp only [hq]) | (conv => arg 4; simp only [hq])))) | (with_reducible refine fin_0 ?_ (by first | rfl | (conv => lhs; simp only [go_sem, hjj, hj1, hj2, hLl, List.length_map, List.getElem?_map, hg0, hg1, Option.map_some])) ?_) | exact Sub.refl _ | omega)
              refine v_fn (hf) ?_
              refine c_doesR [1000000, 1000001] (hct) (callOK_of rfl (Nat.le_of_ble_eq_true rfl) rfl ?_ ?_) ?_ ?_
              · repeat' (first | (conv in hold _ => simp (disch := omega) only [go_sem, hjj, hj1, hj2, hLl, List.length_map, List.getElem?_map, hg0, hg1, Option.map_some]) | exact True.intro | exact Sub.refl _ | omega)
              · repeat' (first | (conv in hold _ => simp (disch := omega) only [go_sem, hjj, hj1, hj2, hLl, List.length_map, List.getElem?_map, hg0, hg1, Option.map_some]) | exact True.intro | exact Sub.refl _ | omega)
              · ((conv => rhs; simp (disch := omega) only [go_sem, hjj, hj1, hj2, hLl, List.length_map, List.getElem?_map, hg0, hg1, Option.map_some]); try rfl)
              repeat' (first | with_reducible refine acc_none ?_ | (conv in hold _ => simp (disch := omega) only [go_sem, hjj, hj1, hj2, hLl, List.length_map, List.getElem?_map, hg0, hg1, Option.map_some]) | refine Stp.go ?_ | (with_reducible first | refine it_pos rfl ?_ | refine it_neg (by decide) ?_ | refine st_nil rfl ?_ | refine s_op ?_ ?_ | exact True.intro) | ((with_reducible first | refine dw_reg0 ?_ | refine dw_regB ?_); (conv => arg 3; whnf)) | (refine Spl.go (fun hq he => ?_) (fun hq he => ?_) <;> first | (exfalso; clear hq; omega) | ((try (first | (conv => arg 8; simp only [hq]) | (conv => arg 4; simp only [hq]))); clear hq)) | ((with_reducible first | refine c_split (fun hq => ?_) (fun hq => ?_) | refine q_split (fun hq => ?_) (fun hq => ?_)) <;> (try (first | (conv => arg 8; simp only [hq]) | (conv => arg 4; simp only [hq])))) | (with_reducible refine fin_0 ?_ (by first | rfl | (conv => lhs; simp only [go_sem, hjj, hj1, hj2, hLl, List.length_map, List.getElem?_map, hg0, hg1, Option.map_some])) ?_) | exact Sub.refl _ | omega)
              refine ⟨P.take (j + 1) ++ x :: P.drop (j + 1), ⟨⟨by rw [n3]; exact n1, n2⟩, by omega, by omega⟩, by omega, Wk.list [1000000, 1000001, 1000002] rfl rfl ?_⟩
              repeat' (first | (conv in hold _ => simp (disch := omega) only [go_sem, n3]) | exact True.intro | exact Sub.refl _ | omega)
              first | exact rfl | exact ⟨rfl, rfl⟩ | skip
      · have hPn : P.length = l0.length := by omega
        have hfin : P = sorted := hu P (by rw [hPn, List.take_length] at hperm; exact hperm) hpw
        have hnil : P ++ l0.drop P.length = sorted := by rw [hPn, List.drop_length, List.append_nil, hfin]
        rw [hnil]
        repeat' (first | with_reducible refine acc_none ?_ | (conv in hold _ => simp (disch := omega) only [go_sem, hPn]) | refine Stp.go ?_ | (with_reducible first | refine it_pos rfl ?_ | refine it_neg (by decide) ?_ | refine st_nil rfl ?_ | refine s_op ?_ ?_ | exact True.intro) | ((with_reducible first | refine dw_reg0 ?_ | refine dw_regB ?_); (conv => arg 3; whnf)) | (refine Spl.go (fun hq he => ?_) (fun hq he => ?_) <;> first | (exfalso; clear hq; omega) | ((try (first | (conv => arg 8; simp only [hq]) | (conv => arg 4; simp only [hq]))); clear hq)) | ((with_reducible first | refine c_split (fun hq => ?_) (fun hq => ?_) | refine q_split (fun hq => ?_) (fun hq => ?_)) <;> (try (first | (conv => arg 8; simp only [hq]) | (conv => arg 4; simp only [hq])))) | (with_reducible refine fin_0 ?_ (by first | rfl | (conv => lhs; simp only [go_sem, hPn])) ?_) | exact Sub.refl _ | omega)
        refine fin_L [1000000, 1000001, 1000002] ?_ ?_ rfl ?_
        repeat' (first | (conv in hold _ => simp (disch := omega) only [go_sem]) | exact True.intro | exact Sub.refl _ | omega)
end Go.Proofs.Ytjjcokmnebkbiaa
