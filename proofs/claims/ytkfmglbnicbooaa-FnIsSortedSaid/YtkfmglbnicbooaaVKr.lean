/-
  Rows put in order by keys, in the model. No condition.
-/
import Derived.Test.YtkfmglbnicbooaaDca
import Derived.Test.YtkfmglbnicbooaaDcf
import Derived.Test.YtkfmglbnicbooaaVKt
import Derived.Test.YtkfmglbnicbooaaVDrawTc
set_option maxHeartbeats 4000000
set_option maxRecDepth 100000
set_option linter.unusedVariables false
set_option linter.unusedSimpArgs false
namespace Go.Proofs.Ytkfmglbnicbooaa
open Go.RowKit

/-- Where a row goes in. -/
def posK (ks : List Sk) (x : List V) (l : List (List V)) : Nat → Nat
  | 0 => 0
  | k + 1 => if 0 < cmpK ks (l.getD k []) x then posK ks x l k else k + 1
theorem posK_le (ks : List Sk) (x : List V) (l : List (List V)) : ∀ k, posK ks x l k ≤ k
  | 0 => Nat.le_refl _
  | k + 1 => by
    rw [posK]
    split
    · have := posK_le ks x l k; omega
    · exact Nat.le_refl _
def putK (ks : List Sk) (l : List (List V)) (x : List V) : List (List V) := l.take (posK ks x l l.length) ++ x :: l.drop (posK ks x l l.length)
def sK (ks : List Sk) (rs : List (List V)) : List (List V) := rs.foldl (putK ks) []
theorem putK_perm (ks : List Sk) (l : List (List V)) (x : List V) : (putK ks l x).Perm (x :: l) := by
  refine List.perm_middle.trans ?_
  rw [List.take_append_drop]
theorem fold_putK (ks : List Sk) : ∀ (rs l : List (List V)), (rs.foldl (putK ks) l).Perm (l ++ rs)
  | [], l => by rw [List.append_nil]; exact List.Perm.refl _
  | x :: rs, l => by
    refine (fold_putK ks rs (putK ks l x)).trans ?_
    refine ((putK_perm ks l x).append_right rs).trans ?_
    exact List.perm_middle.symm
theorem sK_perm (ks : List Sk) (rs : List (List V)) : (sK ks rs).Perm rs := fold_putK ks rs []
theorem sK_len (ks : List Sk) (rs : List (List V)) : (sK ks rs).length = rs.length := (sK_perm ks rs).length_eq
theorem sK_rsw {w : Nat} (ks : List Sk) {rs : List (List V)} (h : RsW w rs) : RsW w (sK ks rs) := h.perm (sK_perm ks rs)
theorem sK_next (ks : List Sk) {rs : List (List V)} {i : Nat} {x : List V} (h : rs[i]? = some x) : sK ks (rs.take (i + 1)) = putK ks (sK ks (rs.take i)) x := by
  unfold sK
  rw [take_next h, List.foldl_append]
  rfl
theorem rows_pur2 (l m : List (List V)) (x : List V) : D.purL (l.map rowD ++ rowD x :: m.map rowD) = true := by
  rw [← List.map_cons, ← List.map_append]
  exact rows_pur _
theorem sortKeyed_own {w : Nat} (hw : w ≤ 6) (rs : List (List V)) (hrs : RsW w rs) (hl : rs.length ≤ 400) (ks : List Sk) (hkl : ks.length ≤ 1000) (hks : ∀ k, k ∈ ks → keyIn w k) : Does Try.prog 36 [] [rowsD rs, sksD ks] (.own 1000000 1 rs.length) [.row 1 ((sK ks rs).map rowD)] := by
  refine does c_spec_sortRows mixed (Nat.le_of_ble_eq_true rfl) 0 rfl ?_
  conv => arg 3; whnf
  repeat' (first | with_reducible refine acc_none ?_ | (conv in hold _ => simp (disch := omega) only [go_sem]) | refine Stp.go ?_ | (with_reducible first | refine it_pos rfl ?_ | refine it_neg (by decide) ?_ | refine st_nil rfl ?_ | refine s_op ?_ ?_ | exact True.intro) | ((with_reducible first | refine dw_reg0 ?_ | refine dw_regB ?_); (conv => arg 3; whnf)) | (refine Spl.go (fun hq he => ?_) (fun hq he => ?_) <;> first | (exfalso; clear hq; omega) | ((try (first | (conv => arg 8; simp only [hq]) | (conv => arg 4; simp only [hq]))); clear hq)) | ((with_reducible first | refine c_split (fun hq => ?_) (fun hq => ?_) | refine q_split (fun hq => ?_) (fun hq => ?_)) <;> (try (first | (conv => arg 8; simp only [hq]) | (conv => arg 4; simp only [hq])))) | (with_reducible refine fin_0 ?_ (by first | rfl | (conv => lhs; simp only [go_sem])) ?_) | exact Sub.refl _ | omega)
  refine dw_for (c := 1) (l := fun i => [(0, rowsD rs), (1, sksD ks), (5, .own 1000000 1 i), (6, I i), (1000000, .row 1 ((sK ks (rs.take i)).map rowD))]) rs.length (fun _ => True) 0 trivial ((wk_row 5 2000090 1 (by decide) (by decide) rfl rfl).trans (Wk.list [2000090] rfl rfl ?_)) (fun i hi _ => ?_) (Nat.zero_le _)
  · repeat' (first | (conv in hold _ => simp (disch := omega) only [go_sem]) | exact True.intro | exact Sub.refl _ | omega)
    exact ⟨rfl, rfl⟩
  · have htl : (sK ks (rs.take i)).length = i := by rw [sK_len]; exact take_len hi
    have htk : ((sK ks (rs.take i)).map rowD).take i = (sK ks (rs.take i)).map rowD := List.take_of_length_le (by rw [List.length_map, htl]; exact Nat.le_refl _)
    rcases at_or_end hi with ⟨x, hx, hlt⟩ | rfl
    · have hnx := sK_next ks hx
      have hcr : RsW w (sK ks (rs.take i)) := sK_rsw ks (hrs.take i)
      have hxr := hrs x (List.mem_of_getElem? hx)
      have hcp := copyRow_ok x (by omega)
      unfold putK at hnx
      rw [htl] at hnx
      generalize sK ks (rs.take i) = cur at htl htk hnx hcr
      repeat' (first | with_reducible refine acc_none ?_ | (conv in hold _ => simp (disch := omega) only [go_sem, List.getElem?_map, hx, Option.map_some]) | refine Stp.go ?_ | (with_reducible first | refine it_pos rfl ?_ | refine it_neg (by decide) ?_ | refine st_nil rfl ?_ | refine s_op ?_ ?_ | exact True.intro) | ((with_reducible first | refine dw_reg0 ?_ | refine dw_regB ?_); (conv => arg 3; whnf)) | (refine Spl.go (fun hq he => ?_) (fun hq he => ?_) <;> first | (exfalso; clear hq; omega) | ((try (first | (conv => arg 8; simp only [hq]) | (conv => arg 4; simp only [hq]))); clear hq)) | ((with_reducible first | refine c_split (fun hq => ?_) (fun hq => ?_) | refine q_split (fun hq => ?_) (fun hq => ?_)) <;> (try (first | (conv => arg 8; simp only [hq]) | (conv => arg 4; simp only [hq])))) | (with_reducible refine fin_0 ?_ (by first | rfl | (conv => lhs; simp only [go_sem, List.getElem?_map, hx, Option.map_some])) ?_) | exact Sub.refl _ | omega)
      refine dw_for (c := 0) (l := fun n => [(0, rowsD rs), (1, sksD ks), (5, rowsD cur), (6, I i), (7, I ((i : Int) - n))]) i (fun n => posK ks x cur i = posK ks x cur (i - n)) 0 rfl ((wk_frz 5 1000000 (by decide) (by decide) rfl ?_).trans (Wk.list [] rfl rfl ?_)) (fun n hn hJ => ?_) (Nat.zero_le _)
      · exact rows_pur _
      · repeat' (first | (conv in hold _ => simp (disch := omega) only [go_sem, htk, htl]) | exact True.intro | exact Sub.refl _ | omega)
        exact rfl
      · have hdone : ∀ k : Nat, k ≤ i → posK ks x cur i = k →
            (cur.map rowD).take k = (cur.take k).map rowD ∧ (cur.map rowD).drop k = (cur.drop k).map rowD ∧ ((cur.take k).map rowD).take k = (cur.take k).map rowD ∧ ((cur.take k).map rowD).length = k ∧ ((cur.take k).map rowD ++ [rowD x]).length = k + 1 ∧ ((cur.take k).map rowD ++ [rowD x]).take (k + 1) = (cur.take k).map rowD ++ [rowD x] ∧ ((cur.map rowD).take cur.length).drop k = (cur.drop k).map rowD ∧ k + 1 + (i - k) = i + 1 ∧ (cur.drop k).length = i - k ∧ (cur.take k).length = k ∧ sK ks (rs.take (i + 1)) = cur.take k ++ x :: cur.drop k := fun k hk e => by
          have t4 : (cur.take k).length = k := by rw [List.length_take]; omega
          have t7 : ((cur.take k).map rowD).length = k := by rw [List.length_map, t4]
          have t8 : ((cur.take k).map rowD ++ [rowD x]).length = k + 1 := by rw [List.length_append, t7]; rfl
          rw [e] at hnx
          refine ⟨List.map_take.symm, List.map_drop.symm, List.take_of_length_le (by omega), t7, t8, List.take_of_length_le (by omega), ?_, by omega, by rw [List.length_drop]; omega, t4, hnx⟩
          rw [take_all rowD cur]
          exact List.map_drop.symm
        by_cases h0 : n = i
        · obtain ⟨t1, t2, t3, t7, t8, t9, tb, ta, t5, t4, hn2⟩ := hdone 0 (by omega) (by rw [hJ, h0, Nat.sub_self]; rfl)
          have e0 : (i : Int) - (n : Int) = 0 := by omega
          rw [rowD] at t8 t9
          repeat' (first | with_reducible refine acc_none ?_ | (conv in hold _ => simp (disch := omega) only [go_sem, e0, t1, t2, t3, t4, t5, t7, htl, List.length_map, List.getElem?_map, hx, Option.map_some]) | refine Stp.go ?_ | (with_reducible first | refine it_pos rfl ?_ | refine it_neg (by decide) ?_ | refine st_nil rfl ?_ | refine s_op ?_ ?_ | exact True.intro) | ((with_reducible first | refine dw_reg0 ?_ | refine dw_regB ?_); (conv => arg 3; whnf)) | (refine Spl.go (fun hq he => ?_) (fun hq he => ?_) <;> first | (exfalso; clear hq; omega) | ((try (first | (conv => arg 8; simp only [hq]) | (conv => arg 4; simp only [hq]))); clear hq)) | ((with_reducible first | refine c_split (fun hq => ?_) (fun hq => ?_) | refine q_split (fun hq => ?_) (fun hq => ?_)) <;> (try (first | (conv => arg 8; simp only [hq]) | (conv => arg 4; simp only [hq])))) | (with_reducible refine fin_0 ?_ (by first | rfl | (conv => lhs; simp only [go_sem, e0, t1, t2, t3, t4, t5, t7, htl, List.length_map, List.getElem?_map, hx, Option.map_some])) ?_) | exact Sub.refl _ | omega)
          refine c_doesE (hcp) ?_ ?_ ?_
          · ((try (conv => rhs; simp (disch := omega) only [go_sem, e0, t1, t2, t3, t4, t5, t7, t8, t9, tb, htk, htl, List.length_map])); try rfl)
          · first | rfl | (conv => lhs; simp only [go_sem, e0, t1, t2, t3, t4, t5, t7, t8, t9, tb, htk, htl, List.length_map])
          repeat' (first | with_reducible refine acc_none ?_ | (conv in hold _ => simp (disch := omega) only [go_sem, e0, t1, t2, t3, t4, t5, t7, t8, t9, tb, htk, htl, List.length_map]) | refine Stp.go ?_ | (with_reducible first | refine it_pos rfl ?_ | refine it_neg (by decide) ?_ | refine st_nil rfl ?_ | refine s_op ?_ ?_ | exact True.intro) | ((with_reducible first | refine dw_reg0 ?_ | refine dw_regB ?_); (conv => arg 3; whnf)) | (refine Spl.go (fun hq he => ?_) (fun hq he => ?_) <;> first | (exfalso; clear hq; omega) | ((try (first | (conv => arg 8; simp only [hq]) | (conv => arg 4; simp only [hq]))); clear hq)) | ((with_reducible first | refine c_split (fun hq => ?_) (fun hq => ?_) | refine q_split (fun hq => ?_) (fun hq => ?_)) <;> (try (first | (conv => arg 8; simp only [hq]) | (conv => arg 4; simp only [hq])))) | (with_reducible refine fin_0 ?_ (by first | rfl | (conv => lhs; simp only [go_sem, e0, t1, t2, t3, t4, t5, t7, t8, t9, tb, htk, htl, List.length_map])) ?_) | exact Sub.refl _ | omega)
          refine ⟨hlt, trivial, Wk.list [2000053] rfl rfl ?_⟩
          repeat' (first | (conv in hold _ => simp (disch := omega) only [go_sem, ta, t9, hn2, htk, htl, List.length_map, List.map_append, List.map_cons]) | exact True.intro | exact Sub.refl _ | omega)
          rw [Nat.add_comm 1 i]
        · obtain ⟨k, hk⟩ : ∃ k, i - n = k + 1 := ⟨i - n - 1, by omega⟩
          obtain ⟨y, hy⟩ : ∃ y, cur[k]? = some y := ⟨_, List.getElem?_eq_getElem (by omega)⟩
          have hyr := hcr y (List.mem_of_getElem? hy)
          have hc := compareBy_ok hw hyr hxr ks (by omega) hks
          have hgd : cur.getD k [] = y := by rw [List.getD_eq_getElem?_getD, hy]; rfl
          have e1 : (i : Int) - (n : Int) = (k : Int) + 1 := by omega
          have e2 : ((k : Int) + 1 - 1).toNat = k := by omega
          rw [hk, posK, hgd] at hJ
          by_cases hp : 0 < cmpK ks y x
          · rw [if_pos hp] at hJ
            repeat' (first | with_reducible refine acc_none ?_ | (conv in hold _ => simp (disch := omega) only [go_sem, e1, e2, List.getElem?_map, hx, hy, Option.map_some]) | refine Stp.go ?_ | (with_reducible first | refine it_pos rfl ?_ | refine it_neg (by decide) ?_ | refine st_nil rfl ?_ | refine s_op ?_ ?_ | exact True.intro) | ((with_reducible first | refine dw_reg0 ?_ | refine dw_regB ?_); (conv => arg 3; whnf)) | (refine Spl.go (fun hq he => ?_) (fun hq he => ?_) <;> first | (exfalso; clear hq; omega) | ((try (first | (conv => arg 8; simp only [hq]) | (conv => arg 4; simp only [hq]))); clear hq)) | ((with_reducible first | refine c_split (fun hq => ?_) (fun hq => ?_) | refine q_split (fun hq => ?_) (fun hq => ?_)) <;> (try (first | (conv => arg 8; simp only [hq]) | (conv => arg 4; simp only [hq])))) | (with_reducible refine fin_0 ?_ (by first | rfl | (conv => lhs; simp only [go_sem, e1, e2, List.getElem?_map, hx, hy, Option.map_some])) ?_) | exact Sub.refl _ | omega)
            refine c_doesE (hc) ?_ ?_ ?_
            · ((try (conv => rhs; simp (disch := omega) only [go_sem, e1, e2])); try rfl)
            · first | rfl | (conv => lhs; simp only [go_sem, e1, e2])
            repeat' (first | with_reducible refine acc_none ?_ | (conv in hold _ => simp (disch := omega) only [go_sem, e1, e2]) | refine Stp.go ?_ | (with_reducible first | refine it_pos rfl ?_ | refine it_neg (by decide) ?_ | refine st_nil rfl ?_ | refine s_op ?_ ?_ | exact True.intro) | ((with_reducible first | refine dw_reg0 ?_ | refine dw_regB ?_); (conv => arg 3; whnf)) | (refine Spl.go (fun hq he => ?_) (fun hq he => ?_) <;> first | (exfalso; clear hq; omega) | ((try (first | (conv => arg 8; simp only [hq]) | (conv => arg 4; simp only [hq]))); clear hq)) | ((with_reducible first | refine c_split (fun hq => ?_) (fun hq => ?_) | refine q_split (fun hq => ?_) (fun hq => ?_)) <;> (try (first | (conv => arg 8; simp only [hq]) | (conv => arg 4; simp only [hq])))) | (with_reducible refine fin_0 ?_ (by first | rfl | (conv => lhs; simp only [go_sem, e1, e2])) ?_) | exact Sub.refl _ | omega)
            refine ⟨by omega, by rw [hJ, show i - (n + 1) = k by omega], Wk.list [] rfl rfl ?_⟩
            repeat' (first | (conv in hold _ => simp (disch := omega) only [go_sem]) | exact True.intro | exact Sub.refl _ | omega)
            first | exact congrArg (fun n => D.v (Value.int .i64 n)) (by omega) | done
          · rw [if_neg hp] at hJ
            obtain ⟨t1, t2, t3, t7, t8, t9, tb, ta, t5, t4, hn2⟩ := hdone (k + 1) (by omega) hJ
            have e3 : ((k : Int) + 1).toNat = k + 1 := by omega
            rw [rowD] at t8 t9
            repeat' (first | with_reducible refine acc_none ?_ | (conv in hold _ => simp (disch := omega) only [go_sem, e1, e2, List.getElem?_map, hx, hy, Option.map_some]) | refine Stp.go ?_ | (with_reducible first | refine it_pos rfl ?_ | refine it_neg (by decide) ?_ | refine st_nil rfl ?_ | refine s_op ?_ ?_ | exact True.intro) | ((with_reducible first | refine dw_reg0 ?_ | refine dw_regB ?_); (conv => arg 3; whnf)) | (refine Spl.go (fun hq he => ?_) (fun hq he => ?_) <;> first | (exfalso; clear hq; omega) | ((try (first | (conv => arg 8; simp only [hq]) | (conv => arg 4; simp only [hq]))); clear hq)) | ((with_reducible first | refine c_split (fun hq => ?_) (fun hq => ?_) | refine q_split (fun hq => ?_) (fun hq => ?_)) <;> (try (first | (conv => arg 8; simp only [hq]) | (conv => arg 4; simp only [hq])))) | (with_reducible refine fin_0 ?_ (by first | rfl | (conv => lhs; simp only [go_sem, e1, e2, List.getElem?_map, hx, hy, Option.map_some])) ?_) | exact Sub.refl _ | omega)
            refine c_doesE (hc) ?_ ?_ ?_
            · ((try (conv => rhs; simp (disch := omega) only [go_sem, e1, e2, e3, t1, t2, t3, t4, t5, t7, htl, List.length_map, List.getElem?_map, hx, Option.map_some])); try rfl)
            · first | rfl | (conv => lhs; simp only [go_sem, e1, e2, e3, t1, t2, t3, t4, t5, t7, htl, List.length_map, List.getElem?_map, hx, Option.map_some])
            repeat' (first | with_reducible refine acc_none ?_ | (conv in hold _ => simp (disch := omega) only [go_sem, e1, e2, e3, t1, t2, t3, t4, t5, t7, htl, List.length_map, List.getElem?_map, hx, Option.map_some]) | refine Stp.go ?_ | (with_reducible first | refine it_pos rfl ?_ | refine it_neg (by decide) ?_ | refine st_nil rfl ?_ | refine s_op ?_ ?_ | exact True.intro) | ((with_reducible first | refine dw_reg0 ?_ | refine dw_regB ?_); (conv => arg 3; whnf)) | (refine Spl.go (fun hq he => ?_) (fun hq he => ?_) <;> first | (exfalso; clear hq; omega) | ((try (first | (conv => arg 8; simp only [hq]) | (conv => arg 4; simp only [hq]))); clear hq)) | ((with_reducible first | refine c_split (fun hq => ?_) (fun hq => ?_) | refine q_split (fun hq => ?_) (fun hq => ?_)) <;> (try (first | (conv => arg 8; simp only [hq]) | (conv => arg 4; simp only [hq])))) | (with_reducible refine fin_0 ?_ (by first | rfl | (conv => lhs; simp only [go_sem, e1, e2, e3, t1, t2, t3, t4, t5, t7, htl, List.length_map, List.getElem?_map, hx, Option.map_some])) ?_) | exact Sub.refl _ | omega)
            refine c_doesE (hcp) ?_ ?_ ?_
            · ((try (conv => rhs; simp (disch := omega) only [go_sem, e1, e2, e3, t1, t2, t3, t4, t5, t7, t8, t9, tb, htk, htl, List.length_map])); try rfl)
            · first | rfl | (conv => lhs; simp only [go_sem, e1, e2, e3, t1, t2, t3, t4, t5, t7, t8, t9, tb, htk, htl, List.length_map])
            repeat' (first | with_reducible refine acc_none ?_ | (conv in hold _ => simp (disch := omega) only [go_sem, e1, e2, e3, t1, t2, t3, t4, t5, t7, t8, t9, tb, htk, htl, List.length_map]) | refine Stp.go ?_ | (with_reducible first | refine it_pos rfl ?_ | refine it_neg (by decide) ?_ | refine st_nil rfl ?_ | refine s_op ?_ ?_ | exact True.intro) | ((with_reducible first | refine dw_reg0 ?_ | refine dw_regB ?_); (conv => arg 3; whnf)) | (refine Spl.go (fun hq he => ?_) (fun hq he => ?_) <;> first | (exfalso; clear hq; omega) | ((try (first | (conv => arg 8; simp only [hq]) | (conv => arg 4; simp only [hq]))); clear hq)) | ((with_reducible first | refine c_split (fun hq => ?_) (fun hq => ?_) | refine q_split (fun hq => ?_) (fun hq => ?_)) <;> (try (first | (conv => arg 8; simp only [hq]) | (conv => arg 4; simp only [hq])))) | (with_reducible refine fin_0 ?_ (by first | rfl | (conv => lhs; simp only [go_sem, e1, e2, e3, t1, t2, t3, t4, t5, t7, t8, t9, tb, htk, htl, List.length_map])) ?_) | exact Sub.refl _ | omega)
            refine ⟨hlt, trivial, Wk.list [2000053] rfl rfl ?_⟩
            repeat' (first | (conv in hold _ => simp (disch := omega) only [go_sem, ta, t9, hn2, htk, htl, List.length_map, List.map_append, List.map_cons]) | exact True.intro | exact Sub.refl _ | omega)
            exact congrArg (D.row 1) ((List.append_assoc _ _ _).trans (ren_pure.renL_pure [2000053] _ (rows_pur2 _ _ x)).symm)
    · have e1 : rs.take rs.length = rs := List.take_length
      repeat' (first | with_reducible refine acc_none ?_ | (conv in hold _ => simp (disch := omega) only [go_sem, e1]) | refine Stp.go ?_ | (with_reducible first | refine it_pos rfl ?_ | refine it_neg (by decide) ?_ | refine st_nil rfl ?_ | refine s_op ?_ ?_ | exact True.intro) | ((with_reducible first | refine dw_reg0 ?_ | refine dw_regB ?_); (conv => arg 3; whnf)) | (refine Spl.go (fun hq he => ?_) (fun hq he => ?_) <;> first | (exfalso; clear hq; omega) | ((try (first | (conv => arg 8; simp only [hq]) | (conv => arg 4; simp only [hq]))); clear hq)) | ((with_reducible first | refine c_split (fun hq => ?_) (fun hq => ?_) | refine q_split (fun hq => ?_) (fun hq => ?_)) <;> (try (first | (conv => arg 8; simp only [hq]) | (conv => arg 4; simp only [hq])))) | (with_reducible refine fin_0 ?_ (by first | rfl | (conv => lhs; simp only [go_sem, e1])) ?_) | exact Sub.refl _ | omega)
      refine fin_L [1000000] ?_ ?_ rfl ?_
      repeat' (first | (conv in hold _ => simp (disch := omega) only [go_sem, e1]) | exact True.intro | exact Sub.refl _ | omega)
end Go.Proofs.Ytkfmglbnicbooaa
