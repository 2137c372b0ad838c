/-
  Rows put in order by keys, in the model. No condition.
-/
import Derived.Test.YtncecpieebepaaaDca
import Derived.Test.YtncecpieebepaaaDcf
import Derived.Test.YtncecpieebepaaaJVKt
import Derived.Test.YtncecpieebepaaaKVDrawTc
import Derived.Test.YtncecpieebepaaaVInsA
set_option maxHeartbeats 4000000
set_option maxRecDepth 100000
set_option linter.unusedVariables false
set_option linter.unusedSimpArgs false
namespace Go.Proofs.Ytncecpieebepaaa
open Go.RowKit

/-- Where a row goes in. -/
def posK (ks : List Sk) (x : List V) (l : List (List V)) : Nat → Nat
  | 0 => 0
  | k + 1 => if 0 < cmpK ks (l.getD k []) x then posK ks x l k else k + 1
theorem posK_le (ks : List Sk) (x : List V) (l : List (List V)) : ∀ k, posK ks x l k ≤ k
  | 0 => Nat.le_refl _
  | k + 1 => by
    rw [posK]
    split
    · have := posK_le ks x l k; omega
    · exact Nat.le_refl _
def putK (ks : List Sk) (l : List (List V)) (x : List V) : List (List V) := l.take (posK ks x l l.length) ++ x :: l.drop (posK ks x l l.length)
def sK (ks : List Sk) (rs : List (List V)) : List (List V) := rs.foldl (putK ks) []
theorem putK_perm (ks : List Sk) (l : List (List V)) (x : List V) : (putK ks l x).Perm (x :: l) := by
  refine List.perm_middle.trans ?_
  rw [List.take_append_drop]
theorem fold_putK (ks : List Sk) : ∀ (rs l : List (List V)), (rs.foldl (putK ks) l).Perm (l ++ rs)
  | [], l => by rw [List.append_nil]; exact List.Perm.refl _
  | x :: rs, l => by
    refine (fold_putK ks rs (putK ks l x)).trans ?_
    refine ((putK_perm ks l x).append_right rs).trans ?_
    exact List.perm_middle.symm
theorem sK_perm (ks : List Sk) (rs : List (List V)) : (sK ks rs).Perm rs := fold_putK ks rs []
theorem sK_len (ks : List Sk) (rs : List (List V)) : (sK ks rs).length = rs.length := (sK_perm ks rs).length_eq
theorem sK_rsw {w : Nat} (ks : List Sk) {rs : List (List V)} (h : RsW w rs) : RsW w (sK ks rs) := h.perm (sK_perm ks rs)
theorem sK_next (ks : List Sk) {rs : List (List V)} {i : Nat} {x : List V} (h : rs[i]? = some x) : sK ks (rs.take (i + 1)) = putK ks (sK ks (rs.take i)) x := by
  unfold sK
  rw [take_next h, List.foldl_append]
  rfl
theorem rows_pur2 (l m : List (List V)) (x : List V) : D.purL (l.map rowD ++ rowD x :: m.map rowD) = true := by
  rw [← List.map_cons, ← List.map_append]
  exact rows_pur _
theorem sortKeyed_own {w : Nat} (hw : w ≤ 6) (rs : List (List V)) (hrs : RsW w rs) (hl : rs.length ≤ 400) (ks : List Sk) (hkl : ks.length ≤ 1000) (hks : ∀ k, k ∈ ks → keyIn w k) : Does Try.prog 26 [] [rowsD rs, sksD ks] (.own 1000000 1 rs.length) [.row 1 ((sK ks rs).map rowD)] := by
  refine does c_spec_sortRows mixed (Nat.le_of_ble_eq_true rfl) 0 rfl ?_
  conv => arg 3; whnf
  repeat' (first | with_reducible refine acc_none ?_ | (conv in hold _ => simp (disch := omega) only [go_sem]) | refine Stp.go ?_ | (with_reducible first | refine it_pos rfl ?_ | refine it_neg (by decide) ?_ | refine st_nil rfl ?_ | refine s_op ?_ ?_ | exact True.intro) | ((with_reducible first | refine dw_reg0 ?_ | refine dw_regB ?_); (conv => arg 3; whnf)) | (refine Spl.go (fun hq he => ?_) (fun hq he => ?_) <;> first | (exfalso; clear hq; omega) | ((try (first | (conv => arg 8; simp only [hq]) | (conv => arg 4; simp only [hq]))); clear hq)) | ((with_reducible first | refine c_split (fun hq => ?_) (fun hq => ?_) | refine q_split (fun hq => ?_) (fun hq => ?_)) <;> (try (first | (conv => arg 8; simp only [hq]) | (conv => arg 4; simp only [hq])))) | (with_reducible refine fin_0 ?_ (by first | rfl | (conv => lhs; simp only [go_sem])) ?_) | exact Sub.refl _ | omega)
  refine dw_for (c := 1) (l := fun i => [(0, rowsD rs), (1, sksD ks), (5, .own 1000000 1 i), (6, I i), (1000000, .row 1 ((sK ks (rs.take i)).map rowD))]) rs.length (fun _ => True) 0 trivial ((wk_row 5 2000090 1 (by decide) (by decide) rfl rfl).trans (Wk.list [2000090] rfl rfl ?_)) (fun i hi _ => ?_) (Nat.zero_le _)
  · repeat' (first | (conv in hold _ => simp (disch := omega) only [go_sem]) | exact True.intro | exact Sub.refl _ | omega)
    exact ⟨rfl, rfl⟩
  · have htl : (sK ks (rs.take i)).length = i := by rw [sK_len]; exact take_len hi
    have htk : ((sK ks (rs.take i)).map rowD).take i = (sK ks (rs.take i)).map rowD := List.take_of_length_le (by rw [List.length_map, htl]; exact Nat.le_refl _)
    rcases at_or_end hi with ⟨x, hx, hlt⟩ | rfl
    · have hnx := sK_next ks hx
      have hcr : RsW w (sK ks (rs.take i)) := sK_rsw ks (hrs.take i)
      have hxr := hrs x (List.mem_of_getElem? hx)
      have hcp := copyRow_ok x (by omega)
      unfold putK at hnx
      rw [htl] at hnx
      generalize sK ks (rs.take i) = cur at htl htk hnx hcr
      repeat' (first | with_reducible refine acc_none ?_ | (conv in hold _ => simp (disch := omega) only [go_sem, List.getElem?_map, hx, Option.map_some]) | refine Stp.go ?_ | (with_reducible first | refine it_pos rfl ?_ | refine it_neg (by decide) ?_ | refine st_nil rfl ?_ | refine s_op ?_ ?_ | exact True.intro) | ((with_reducible first | refine dw_reg0 ?_ | refine dw_regB ?_); (conv => arg 3; whnf)) | (refine Spl.go (fun hq he => ?_) (fun hq he => ?_) <;> first | (exfalso; clear hq; omega) | ((try (first | (conv => arg 8; simp only [hq]) | (conv => arg 4; simp only [hq]))); clear hq)) | ((with_reducible first | refine c_split (fun hq => ?_) (fun hq => ?_) | refine q_split (fun hq => ?_) (fun hq => ?_)) <;> (try (first | (conv => arg 8; simp only [hq]) | (conv => arg 4; simp only [hq])))) | (with_reducible refine fin_0 ?_ (by first | rfl | (conv => lhs; simp only [go_sem, List.getElem?_map, hx, Option.map_some])) ?_) | exact Sub.refl _ | omega)
      refine dw_for (c := 0) (l := fun n => [(0, rowsD rs), (1, sksD ks), (5, rowsD cur), (6, I i), (7, I ((i : Int) - n))]) i (fun n => posK ks x cur i = posK ks x cur (i - n)) 0 rfl ((wk_frz 5 1000000 (by decide) (by decide) rfl ?_).trans (Wk.list [] rfl rfl ?_)) (fun n hn hJ => ?_) (Nat.zero_le _)
      · exact rows_pur _
      · repeat' (first | (conv in hold _ => simp (disch := omega) only [go_sem, htk, htl]) | exact True.intro | exact Sub.refl _ | omega)
        exact rfl
      · have hdone : ∀ k : Nat, k ≤ i → posK ks x cur i = k →
            (cur.map rowD).take k = (cur.take k).map rowD ∧ (cur.map rowD).drop k = (cur.drop k).map rowD ∧ ((cur.take k).map rowD).take k = (cur.take k).map rowD ∧ ((cur.take k).map rowD).length = k ∧ ((cur.take k).map rowD ++ [rowD x]).length = k + 1 ∧ ((cur.take k).map rowD ++ [rowD x]).take (k + 1) = (cur.take k).map rowD ++ [rowD x] ∧ ((cur.map rowD).take cur.length).drop k = (cur.drop k).map rowD ∧ k + 1 + (i - k) = i + 1 ∧ (cur.drop k).length = i - k ∧ (cur.take k).length = k ∧ sK ks (rs.take (i + 1)) = cur.take k ++ x :: cur.drop k := fun k hk e => by
          have t4 : (cur.take k).length = k := by rw [List.length_take]; omega
          have t7 : ((cur.take k).map rowD).length = k := by rw [List.length_map, t4]
          have t8 : ((cur.take k).map rowD ++ [rowD x]).length = k + 1 := by rw [List.length_append, t7]; rfl
          rw [e] at hnx
          refine ⟨List.map_take.symm, List.map_drop.symm, List.take_of_length_le (by omega), t7, t8, List.take_of_length_le (by omega), ?_, by omega, by rw [List.length_drop]; omega, t4, hnx⟩
          rw [take_all rowD cur]
          exact List.map_drop.symm
        by_cases h0 : n = i
        · obtain ⟨t1, t2, t3, t7, t8, t9, tb, ta, t5, t4, hn2⟩ := hdone 0 (by omega) (by rw [hJ, h0, Nat.sub_self]; rfl)
          have e0 : (i : Int) - (n : Int) = 0 := by omega
          rw [rowD] at t8 t9
          repeat' (first | with_reducible refine acc_none ?_ | (conv in hold _ => simp (disch := omega) only [go_sem, e0, t1, t2, t3, t4, t5, t7, htl, List.length_map, List.getElem?_map, hx, Option.map_some]) | refine Stp.go ?_ | (with_reducible first | refine it_pos rfl ?_ | refine it_neg (by decide) ?_ | refine st_nil rfl ?_ | refine s_op ?_ ?_ | exact True.intro) | ((with_reducible first | refine dw_reg0 ?_ | refine dw_regB ?_); (conv => arg 3; whnf)) | (refine Spl.go (fun hq he => ?_) (fun hq he => ?_) <;> first | (exfalso; clear hq; omega) | ((try (first | (conv => arg 8; simp only [hq]) | (conv => arg 4; simp only [hq]))); clear hq)) | ((with_reducible first | refine c_split (fun hq => ?_) (fun hq => ?_) | refine q_split (fun hq => ?_) (fun hq => ?_)) <;> (try (first | (conv => arg 8; simp only [hq]) | (conv => arg 4; simp only [hq])))) | (with_reducible refine fin_0 ?_ (by first | rfl | (conv => lhs; simp only [go_sem, e0, t1, t2, t3, t4, t5, t7, htl, List.length_map, List.getElem?_map, hx, Option.map_some])) ?_) | exact Sub.refl _ | omega)
          refine c_doesE (hcp) ?_ ?_ ?_
          · ((try (conv => rhs; simp (disch := omega) only [go_sem, e0, t1, t2, t3, t4, t5, t7, t8, t9, tb, htk, htl, List.length_map])); try rfl)
          · first | rfl | (conv => lhs; simp only [go_sem, e0, t1, t2, t3, t4, t5, t7, t8, t9, tb, htk, htl, List.length_map])
          repeat' (first | with_reducible refine acc_none ?_ | (conv in hold _ => simp (disch := omega) only [go_sem, e0, t1, t2, t3, t4, t5, t7, t8, t9, tb, htk, htl, List.length_map]) | refine Stp.go ?_ | (with_reducible first | refine it_pos rfl ?_ | refine it_neg (by decide) ?_ | refine st_nil rfl ?_ | refine s_op ?_ ?_ | exact True.intro) | ((with_reducible first | refine dw_reg0 ?_ | refine dw_regB ?_); (conv => arg 3; whnf)) | (refine Spl.go (fun hq he => ?_) (fun hq he => ?_) <;> first | (exfalso; clear hq; omega) | ((try (first | (conv => arg 8; simp only [hq]) | (conv => arg 4; simp only [hq]))); clear hq)) | ((with_reducible first | refine c_split (fun hq => ?_) (fun hq => ?_) | refine q_split (fun hq => ?_) (fun hq => ?_)) <;> (try (first | (conv => arg 8; simp only [hq]) | (conv => arg 4; simp only [hq])))) | (with_reducible refine fin_0 ?_ (by first | rfl | (conv => lhs; simp only [go_sem, e0, t1, t2, t3, t4, t5, t7, t8, t9, tb, htk, htl, List.length_map])) ?_) | exact Sub.refl _ | omega)
          refine ⟨hlt, trivial, Wk.list [2000053] rfl rfl ?_⟩
          repeat' (first | (conv in hold _ => simp (disch := omega) only [go_sem, ta, t9, hn2, htk, htl, List.length_map, List.map_append, List.map_cons]) | exact True.intro | exact Sub.refl _ | omega)
          rw [Nat.add_comm 1 i]
        · obtain ⟨k, hk⟩ : ∃ k, i - n = k + 1 := ⟨i - n - 1, by omega⟩
          obtain ⟨y, hy⟩ : ∃ y, cur[k]? = some y := ⟨_, List.getElem?_eq_getElem (by omega)⟩
          have hyr := hcr y (List.mem_of_getElem? hy)
          have hc := compareBy_ok hw hyr hxr ks (by omega) hks
          have hgd : cur.getD k [] = y := by rw [List.getD_eq_getElem?_getD, hy]; rfl
          have e1 : (i : Int) - (n : Int) = (k : Int) + 1 := by omega
          have e2 : ((k : Int) + 1 - 1).toNat = k := by omega
          rw [hk, posK, hgd] at hJ
          by_cases hp : 0 < cmpK ks y x
          · rw [if_pos hp] at hJ
            repeat' (first | with_reducible refine acc_none ?_ | (conv in hold _ => simp (disch := omega) only [go_sem, e1, e2, List.getElem?_map, hx, hy, Option.map_some]) | refine Stp.go ?_ | (with_reducible first | refine it_pos rfl ?_ | refine it_neg (by decide) ?_ | refine st_nil rfl ?_ | refine s_op ?_ ?_ | exact True.intro) | ((with_reducible first | refine dw_reg0 ?_ | refine dw_regB ?_); (conv => arg 3; whnf)) | (refine Spl.go (fun hq he => ?_) (fun hq he => ?_) <;> first | (exfalso; clear hq; omega) | ((try (first | (conv => arg 8; simp only [hq]) | (conv => arg 4; simp only [hq]))); clear hq)) | ((with_reducible first | refine c_split (fun hq => ?_) (fun hq => ?_) | refine q_split (fun hq => ?_) (fun hq => ?_)) <;> (try (first | (conv => arg 8; simp only [hq]) | (conv => arg 4; simp only [hq])))) | (with_reducible refine fin_0 ?_ (by first | rfl | (conv => lhs; simp only [go_sem, e1, e2, List.getElem?_map, hx, hy, Option.map_some])) ?_) | exact Sub.refl _ | omega)
            refine c_doesE (hc) ?_ ?_ ?_
            · ((try (conv => rhs; simp (disch := omega) only [go_sem, e1, e2])); try rfl)
            · first | rfl | (conv => lhs; simp only [go_sem, e1, e2])
            repeat' (first | with_reducible refine acc_none ?_ | (conv in hold _ => simp (disch := omega) only [go_sem, e1, e2]) | refine Stp.go ?_ | (with_reducible first | refine it_pos rfl ?_ | refine it_neg (by decide) ?_ | refine st_nil rfl ?_ | refine s_op ?_ ?_ | exact True.intro) | ((with_reducible first | refine dw_reg0 ?_ | refine dw_regB ?_); (conv => arg 3; whnf)) | (refine Spl.go (fun hq he => ?_) (fun hq he => ?_) <;> first | (exfalso; clear hq; omega) | ((try (first | (conv => arg 8; simp only [hq]) | (conv => arg 4; simp only [hq]))); clear hq)) | ((with_reducible first | refine c_split (fun hq => ?_) (fun hq => ?_) | refine q_split (fun hq => ?_) (fun hq => ?_)) <;> (try (first | (conv => arg 8; simp only [hq]) | (conv => arg 4; simp only [hq])))) | (with_reducible refine fin_0 ?_ (by first | rfl | (conv => lhs; simp only [go_sem, e1, e2])) ?_) | exact Sub.refl _ | omega)
            refine ⟨by omega, by rw [hJ, show i - (n + 1) = k by omega], Wk.list [] rfl rfl ?_⟩
            repeat' (first | (conv in hold _ => simp (disch := omega) only [go_sem]) | exact True.intro | exact Sub.refl _ | omega)
            first | exact congrArg (fun n => D.v (Value.int .i64 n)) (by omega) | done
          · rw [if_neg hp] at hJ
            obtain ⟨t1, t2, t3, t7, t8, t9, tb, ta, t5, t4, hn2⟩ := hdone (k + 1) (by omega) hJ
            have e3 : ((k : Int) + 1).toNat = k + 1 := by omega
            rw [rowD] at t8 t9
            repeat' (first | with_reducible refine acc_none ?_ | (conv in hold _ => simp (disch := omega) only [go_sem, e1, e2, List.getElem?_map, hx, hy, Option.map_some]) | refine Stp.go ?_ | (with_reducible first | refine it_pos rfl ?_ | refine it_neg (by decide) ?_ | refine st_nil rfl ?_ | refine s_op ?_ ?_ | exact True.intro) | ((with_reducible first | refine dw_reg0 ?_ | refine dw_regB ?_); (conv => arg 3; whnf)) | (refine Spl.go (fun hq he => ?_) (fun hq he => ?_) <;> first | (exfalso; clear hq; omega) | ((try (first | (conv => arg 8; simp only [hq]) | (conv => arg 4; simp only [hq]))); clear hq)) | ((with_reducible first | refine c_split (fun hq => ?_) (fun hq => ?_) | refine q_split (fun hq => ?_) (fun hq => ?_)) <;> (try (first | (conv => arg 8; simp only [hq]) | (conv => arg 4; simp only [hq])))) | (with_reducible refine fin_0 ?_ (by first | rfl | (conv => lhs; simp only [go_sem, e1, e2, List.getElem?_map, hx, hy, Option.map_some])) ?_) | exact Sub.refl _ | omega)
            refine c_doesE (hc) ?_ ?_ ?_
            · ((try (conv => rhs; simp (disch := omega) only [go_sem, e1, e2, e3, t1, t2, t3, t4, t5, t7, htl, List.length_map, List.getElem?_map, hx, Option.map_some])); try rfl)
            · first | rfl | (conv => lhs; simp only [go_sem, e1, e2, e3, t1, t2, t3, t4, t5, t7, htl, List.length_map, List.getElem?_map, hx, Option.map_some])
            repeat' (first | with_reducible refine acc_none ?_ | (conv in hold _ => simp (disch := omega) only [go_sem, e1, e2, e3, t1, t2, t3, t4, t5, t7, htl, List.length_map, List.getElem?_map, hx, Option.map_some]) | refine Stp.go ?_ | (with_reducible first | refine it_pos rfl ?_ | refine it_neg (by decide) ?_ | refine st_nil rfl ?_ | refine s_op ?_ ?_ | exact True.intro) | ((with_reducible first | refine dw_reg0 ?_ | refine dw_regB ?_); (conv => arg 3; whnf)) | (refine Spl.go (fun hq he => ?_) (fun hq he => ?_) <;> first | (exfalso; clear hq; omega) | ((try (first | (conv => arg 8; simp only [hq]) | (conv => arg 4; simp only [hq]))); clear hq)) | ((with_reducible first | refine c_split (fun hq => ?_) (fun hq => ?_) | refine q_split (fun hq => ?_) (fun hq => ?_)) <;> (try (first | (conv => arg 8; simp only [hq]) | (conv => arg 4; simp only [hq])))) | (with_reducible refine fin_0 ?_ (by first | rfl | (conv => lhs; simp only [go_sem, e1, e2, e3, t1, t2, t3, t4, t5, t7, htl, List.length_map, List.getElem?_map, hx, Option.map_some])) ?_) | exact Sub.refl _ | omega)
            refine c_doesE (hcp) ?_ ?_ ?_
            · ((try (conv => rhs; simp (disch := omega) only [go_sem, e1, e2, e3, t1, t2, t3, t4, t5, t7, t8, t9, tb, htk, htl, List.length_map])); try rfl)
            · first | rfl | (conv => lhs; simp only [go_sem, e1, e2, e3, t1, t2, t3, t4, t5, t7, t8, t9, tb, htk, htl, List.length_map])
            repeat' (first | with_reducible refine acc_none ?_ | (conv in hold _ => simp (disch := omega) only [go_sem, e1, e2, e3, t1, t2, t3, t4, t5, t7, t8, t9, tb, htk, htl, List.length_map]) | refine Stp.go ?_ | (with_reducible first | refine it_pos rfl ?_ | refine it_neg (by decide) ?_ | refine st_nil rfl ?_ | refine s_op ?_ ?_ | exact True.intro) | ((with_reducible first | refine dw_reg0 ?_ | refine dw_regB ?_); (conv => arg 3; whnf)) | (refine Spl.go (fun hq he => ?_) (fun hq he => ?_) <;> first | (exfalso; clear hq; omega) | ((try (first | (conv => arg 8; simp only [hq]) | (conv => arg 4; simp only [hq]))); clear hq)) | ((with_reducible first | refine c_split (fun hq => ?_) (fun hq => ?_) | refine q_split (fun hq => ?_) (fun hq => ?_)) <;> (try (first | (conv => arg 8; simp only [hq]) | (conv => arg 4; simp only [hq])))) | (with_reducible refine fin_0 ?_ (by first | rfl | (conv => lhs; simp only [go_sem, e1, e2, e3, t1, t2, t3, t4, t5, t7, t8, t9, tb, htk, htl, List.length_map])) ?_) | exact Sub.refl _ | omega)
            refine ⟨hlt, trivial, Wk.list [2000053] rfl rfl ?_⟩
            repeat' (first | (conv in hold _ => simp (disch := omega) only [go_sem, ta, t9, hn2, htk, htl, List.length_map, List.map_append, List.map_cons]) | exact True.intro | exact Sub.refl _ | omega)
            exact congrArg (D.row 1) ((List.append_assoc _ _ _).trans (ren_pure.renL_pure [2000053] _ (rows_pur2 _ _ x)).symm)
    · have e1 : rs.take rs.length = rs := List.take_length
      repeat' (first | with_reducible refine acc_none ?_ | (conv in hold _ => simp (disch := omega) only [go_sem, e1]) | refine Stp.go ?_ | (with_reducible first | refine it_pos rfl ?_ | refine it_neg (by decide) ?_ | refine st_nil rfl ?_ | refine s_op ?_ ?_ | exact True.intro) | ((with_reducible first | refine dw_reg0 ?_ | refine dw_regB ?_); (conv => arg 3; whnf)) | (refine Spl.go (fun hq he => ?_) (fun hq he => ?_) <;> first | (exfalso; clear hq; omega) | ((try (first | (conv => arg 8; simp only [hq]) | (conv => arg 4; simp only [hq]))); clear hq)) | ((with_reducible first | refine c_split (fun hq => ?_) (fun hq => ?_) | refine q_split (fun hq => ?_) (fun hq => ?_)) <;> (try (first | (conv => arg 8; simp only [hq]) | (conv => arg 4; simp only [hq])))) | (with_reducible refine fin_0 ?_ (by first | rfl | (conv => lhs; simp only [go_sem, e1])) ?_) | exact Sub.refl _ | omega)
      refine fin_L [1000000] ?_ ?_ rfl ?_
      repeat' (first | (conv in hold _ => simp (disch := omega) only [go_sem, e1]) | exact True.intro | exact Sub.refl _ | omega)
end Go.Proofs.Ytncecpieebepaaa
set_option maxHeartbeats 4000000
set_option maxRecDepth 100000
set_option linter.unusedVariables false
set_option linter.unusedSimpArgs false
namespace Go.Proofs.Ytncecpieebepaaa
open Go.RowKit

theorem kk_tri {w : Nat} {k : Sk} (hk : keyIn w k) : ∃ g : List V → Int, ∀ a b : List V, (a.length = w ∧ ∀ v, v ∈ a → v.ok) → (b.length = w ∧ ∀ v, v ∈ b → v.ok) → (kk k a b = 0 ∧ g a = g b) ∨ (kk k a b = -1 ∧ g a < g b) ∨ (kk k a b = 1 ∧ g b < g a) := by
  refine ⟨fun a => if k.d = true then - keyV (colV k.c.toNat a) else keyV (colV k.c.toNat a), fun a b ha hb => ?_⟩
  have h1 : (colV k.c.toNat a).ok := ha.2 _ (List.mem_of_getElem? (colV_at (by have := hk.1; have := hk.2; omega)))
  have h2 : (colV k.c.toNat b).ok := hb.2 _ (List.mem_of_getElem? (colV_at (by have := hk.1; have := hk.2; omega)))
  unfold kk
  by_cases hd : k.d = true
  · simp only [hd, if_true]
    rcases cmpV_key h2 h1 with ⟨e1, e2⟩ | ⟨e1, e2⟩ | ⟨e1, e2⟩
    · exact .inl ⟨e1, by omega⟩
    · exact .inr (.inl ⟨e1, by omega⟩)
    · exact .inr (.inr ⟨e1, by omega⟩)
  · simp only [hd, if_false]
    rcases cmpV_key h1 h2 with ⟨e1, e2⟩ | ⟨e1, e2⟩ | ⟨e1, e2⟩
    · exact .inl ⟨e1, e2⟩
    · exact .inr (.inl ⟨e1, e2⟩)
    · exact .inr (.inr ⟨e1, e2⟩)
theorem cmpK_cons (k : Sk) (ks : List Sk) (a b : List V) : cmpK (k :: ks) a b = if kk k a b = 0 then cmpK ks a b else kk k a b := by
  unfold cmpK
  rw [List.foldl_cons, if_pos rfl]
  by_cases h : kk k a b = 0
  · rw [if_pos h, h]
  · rw [if_neg h, fold_stay h]
theorem cmpK_tr {w : Nat} : ∀ (ks : List Sk) (_ : ∀ k, k ∈ ks → keyIn w k) {x y z : List V} (_ : x.length = w ∧ ∀ v, v ∈ x → v.ok) (_ : y.length = w ∧ ∀ v, v ∈ y → v.ok) (_ : z.length = w ∧ ∀ v, v ∈ z → v.ok), cmpK ks x y ≤ 0 → cmpK ks y z ≤ 0 → cmpK ks x z ≤ 0 ∧ (cmpK ks x z = 0 ↔ cmpK ks x y = 0 ∧ cmpK ks y z = 0)
  | [], _, _, _, _, _, _, _ => fun _ _ => ⟨Int.le_refl _, ⟨fun _ => ⟨rfl, rfl⟩, fun _ => rfl⟩⟩
  | k :: ks, hks, x, y, z, hx, hy, hz => by
    obtain ⟨g, hg⟩ := kk_tri (hks k (List.mem_cons_self ..))
    have ih := cmpK_tr ks (fun k hk => hks k (List.mem_cons_of_mem _ hk)) hx hy hz
    rw [cmpK_cons, cmpK_cons, cmpK_cons]
    have h1 := hg x y hx hy
    have h2 := hg y z hy hz
    have h3 := hg x z hx hz
    intro a1 a2
    generalize kk k x y = p at *
    generalize kk k y z = q at *
    generalize kk k x z = r at *
    by_cases p0 : p = 0
    · rw [if_pos p0] at a1
      by_cases q0 : q = 0
      · rw [if_pos q0] at a2
        have r0 : r = 0 := by omega
        rw [if_pos p0, if_pos q0, if_pos r0]
        exact ih a1 a2
      · rw [if_neg q0] at a2
        have r0 : r ≠ 0 := by omega
        rw [if_pos p0, if_neg q0, if_neg r0]
        omega
    · rw [if_neg p0] at a1
      have r0 : r ≠ 0 := by
        by_cases q0 : q = 0
        · omega
        · rw [if_neg q0] at a2
          omega
      rw [if_neg p0, if_neg r0]
      by_cases q0 : q = 0
      · rw [if_pos q0]
        omega
      · rw [if_neg q0] at a2 ⊢
        omega
/-- One row before another: by the keys, then by the rows themselves. -/
def leK (ks : List Sk) (x y : List V) : Prop := cmpK ks x y < 0 ∨ (cmpK ks x y = 0 ∧ cmpR x y ≤ 0)
theorem leK_tr {w : Nat} {ks : List Sk} (hks : ∀ k, k ∈ ks → keyIn w k) {x y z : List V} (hx : x.length = w ∧ ∀ v, v ∈ x → v.ok) (hy : y.length = w ∧ ∀ v, v ∈ y → v.ok) (hz : z.length = w ∧ ∀ v, v ∈ z → v.ok) (h1 : leK ks x y) (h2 : leK ks y z) : leK ks x z := by
  have hxy : cmpK ks x y ≤ 0 := by rcases h1 with h | h <;> omega
  have hyz : cmpK ks y z ≤ 0 := by rcases h2 with h | h <;> omega
  obtain ⟨t1, t2⟩ := cmpK_tr ks hks hx hy hz hxy hyz
  by_cases h0 : cmpK ks x z = 0
  · obtain ⟨e1, e2⟩ := t2.1 h0
    refine .inr ⟨h0, ?_⟩
    have r1 : cmpR x y ≤ 0 := by rcases h1 with h | h <;> omega
    have r2 : cmpR y z ≤ 0 := by rcases h2 with h | h <;> omega
    exact (cmpR_trans x y z (by omega) (by omega) hx.2 hy.2 hz.2 r1).1 r2
  · exact .inl (by omega)
theorem leK_anti {w : Nat} {ks : List Sk} (hks : ∀ k, k ∈ ks → keyIn w k) {x y : List V} (hx : x.length = w ∧ ∀ v, v ∈ x → v.ok) (hy : y.length = w ∧ ∀ v, v ∈ y → v.ok) (h1 : leK ks x y) (h2 : leK ks y x) : x = y := by
  have e := cmpK_anti ks hks hx hy
  have r := cmpR_anti x y (by omega) hx.2 hy.2
  have h0 : cmpR x y = 0 := by
    rcases h1 with h | h <;> rcases h2 with h' | h' <;> omega
  exact cmpR_eq h0
/-- Two lists with the same rows in this order are the same. -/
theorem leK_unique {w : Nat} {ks : List Sk} (hks : ∀ k, k ∈ ks → keyIn w k) : ∀ {l m : List (List V)}, RsW w l → l.Perm m → l.Pairwise (leK ks) → m.Pairwise (leK ks) → l = m
  | [], m, _, hp, _, _ => (List.nil_perm.1 hp).symm
  | a :: l, [], _, hp, _, _ => absurd hp.length_eq (by simp)
  | a :: l, b :: m, hw, hp, h1, h2 => by
    have hwm : RsW w (b :: m) := hw.perm hp.symm
    have hab : a = b := by
      by_cases e : a = b
      · exact e
      · have ha : a ∈ m := by
          rcases List.mem_cons.1 (hp.mem_iff.1 (List.mem_cons_self ..)) with h | h
          · exact absurd h e
          · exact h
        have hb : b ∈ l := by
          rcases List.mem_cons.1 (hp.mem_iff.2 (List.mem_cons_self ..)) with h | h
          · exact absurd h.symm e
          · exact h
        exact leK_anti hks (hw a (List.mem_cons_self ..)) (hwm b (List.mem_cons_self ..)) ((List.pairwise_cons.1 h1).1 b hb) ((List.pairwise_cons.1 h2).1 a ha)
    subst hab
    rw [leK_unique hks (fun r hr => hw r (List.mem_cons_of_mem _ hr)) ((List.perm_cons a).1 hp) (List.pairwise_cons.1 h1).2 (List.pairwise_cons.1 h2).2]
/-- Where the place of a row is: what lies before it, what behind. -/
theorem posK_split (ks : List Sk) (x : List V) (l : List (List V)) : ∀ n, n ≤ l.length → (∀ (j : Nat) (y : List V), posK ks x l n ≤ j → j < n → l[j]? = some y → 0 < cmpK ks y x) ∧ (∀ (k : Nat) (y : List V), posK ks x l n = k + 1 → l[k]? = some y → cmpK ks y x ≤ 0)
  | 0, _ => ⟨fun j y _ hj _ => absurd hj (Nat.not_lt_zero _), fun k y h _ => by rw [posK] at h; omega⟩
  | n + 1, hn => by
    obtain ⟨h1, h2⟩ := posK_split ks x l n (by omega)
    obtain ⟨y, hy⟩ : ∃ y, l[n]? = some y := ⟨_, List.getElem?_eq_getElem (by omega)⟩
    have hgd : l.getD n [] = y := by rw [List.getD_eq_getElem?_getD, hy]; rfl
    rw [posK, hgd]
    by_cases hp : 0 < cmpK ks y x
    · rw [if_pos hp]
      refine ⟨fun j z hj hjn hz => ?_, h2⟩
      by_cases hjn' : j = n
      · subst hjn'
        rw [hy] at hz
        cases hz
        exact hp
      · exact h1 j z hj (by omega) hz
    · rw [if_neg hp]
      refine ⟨fun j z hj hjn hz => by omega, fun k z hk hz => ?_⟩
      obtain rfl : k = n := by omega
      rw [hy] at hz
      cases hz
      omega
theorem putK_pw {w : Nat} {ks : List Sk} (hks : ∀ k, k ∈ ks → keyIn w k) {l : List (List V)} {x : List V} (hl : RsW w l) (hx : x.length = w ∧ ∀ v, v ∈ x → v.ok) (hp : l.Pairwise (leK ks)) (hb : ∀ y, y ∈ l → cmpR y x ≤ 0) : (putK ks l x).Pairwise (leK ks) := by
  obtain ⟨h1, h2⟩ := posK_split ks x l l.length (Nat.le_refl _)
  have hle := posK_le ks x l l.length
  unfold putK
  generalize posK ks x l l.length = k at *
  have e := List.take_append_drop k l
  refine ins_pw (by rw [e]; exact hp) (fun a ha => ?_) (fun b hbm => ?_)
  · have ham := List.mem_of_mem_take ha
    obtain ⟨j, rfl⟩ : ∃ j, k = j + 1 := by
      cases k with
      | zero => simp at ha
      | succ j => exact ⟨j, rfl⟩
    obtain ⟨y, hy⟩ : ∃ y, l[j]? = some y := ⟨_, List.getElem?_eq_getElem (by omega)⟩
    have hym := List.mem_of_getElem? hy
    have hyx : leK ks y x := by
      have := h2 j y rfl hy
      by_cases h0 : cmpK ks y x = 0
      · exact .inr ⟨h0, hb y hym⟩
      · exact .inl (by omega)
    rw [take_next hy] at ha
    rcases List.mem_append.1 ha with ha | ha
    · have hdj : l.drop j = y :: l.drop (j + 1) := by
        obtain ⟨hh, rfl⟩ := List.getElem?_eq_some_iff.1 hy
        exact List.drop_eq_getElem_cons hh
      have e2 := List.take_append_drop j l
      rw [hdj] at e2
      rw [← e2] at hp
      exact leK_tr hks (hl a ham) (hl y hym) hx ((List.pairwise_append.1 hp).2.2 a ha y (List.mem_cons_self ..)) hyx
    · rw [List.mem_singleton.1 ha]
      exact hyx
  · obtain ⟨j, hj⟩ := List.mem_iff_getElem?.1 hbm
    rw [List.getElem?_drop] at hj
    have h3 := h1 (k + j) b (by omega) (List.getElem?_eq_some_iff.1 hj).1 hj
    have h4 := cmpK_anti ks hks (hl b (List.mem_of_mem_drop hbm)) hx
    exact .inl (by omega)
theorem sK_pw {w : Nat} {ks : List Sk} (hks : ∀ k, k ∈ ks → keyIn w k) {rs : List (List V)} (h : RsW w rs) (ha : Asc rs) : (sK ks rs).Pairwise (leK ks) := by
  suffices hh : ∀ i, i ≤ rs.length → (sK ks (rs.take i)).Pairwise (leK ks) by
    have := hh rs.length (Nat.le_refl _)
    rwa [List.take_length] at this
  intro i
  induction i with
  | zero => intro _; exact List.Pairwise.nil
  | succ i ih =>
    intro hi
    obtain ⟨x, hx⟩ : ∃ x, rs[i]? = some x := ⟨_, List.getElem?_eq_getElem (by omega)⟩
    rw [sK_next ks hx]
    refine putK_pw hks (sK_rsw ks (h.take i)) (h x (List.mem_of_getElem? hx)) (ih (by omega)) (fun y hy => ?_)
    have hy := (sK_perm ks (rs.take i)).mem_iff.1 hy
    obtain ⟨j, hj⟩ := List.mem_iff_getElem?.1 hy
    have hjl := (List.getElem?_eq_some_iff.1 hj).1
    rw [List.length_take] at hjl
    rw [List.getElem?_take_of_lt (by omega)] at hj
    exact asc_at ha (show j < i by omega) hj hx
/-- What an insertion sort of a table's rows asks of the order by keys. -/
theorem insOK_leK {w : Nat} {ks : List Sk} (hks : ∀ k, k ∈ ks → keyIn w k) {rs : List (List V)} (h : RsW w rs) (ha : Asc rs) : InsOK (cmpK ks) (leK ks) rs where
  lt := fun i j x y _ _ _ hc => .inl hc
  ge := fun i j x y hj hx hy hc => by
    have e := cmpK_anti ks hks (h x (List.mem_of_getElem? hx)) (h y (List.mem_of_getElem? hy))
    by_cases h0 : cmpK ks y x = 0
    · exact .inr ⟨h0, asc_at ha hj hy hx⟩
    · exact .inl (by omega)
  tr := fun x y z hx hy hz => leK_tr hks (h x hx) (h y hy) (h z hz)
/-- Whatever list has the rows of a table in this order is the model's. -/
theorem sK_only {w : Nat} {ks : List Sk} (hks : ∀ k, k ∈ ks → keyIn w k) {rs : List (List V)} (h : RsW w rs) (ha : Asc rs) : ∀ l : List (List V), l.Perm rs → l.Pairwise (leK ks) → l = sK ks rs := fun l hp hl =>
  leK_unique hks (h.perm hp) (hp.trans (sK_perm ks rs).symm) hl (sK_pw hks h ha)
end Go.Proofs.Ytncecpieebepaaa
