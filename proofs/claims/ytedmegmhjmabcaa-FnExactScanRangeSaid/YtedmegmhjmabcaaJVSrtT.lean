/-
  Rows of numbers of one's own: marked, looked at. No condition.
-/
import Derived.Test.YtedmegmhjmabcaaDca
import Derived.Test.YtedmegmhjmabcaaVLend
import Derived.Test.YtedmegmhjmabcaaJVSzE
import Derived.Test.YtedmegmhjmabcaaDcb
import Derived.Test.YtedmegmhjmabcaaVDraw
import Derived.Test.YtedmegmhjmabcaaVLib
set_option maxHeartbeats 4000000
set_option maxRecDepth 100000
set_option linter.unusedVariables false
set_option linter.unusedSimpArgs false
namespace Go.Proofs.Ytedmegmhjmabcaa
open Go.RowKit

/-- A row of which the first are new. -/
def mixL (new : Nat → D) (old : List D) (i : Nat) : List D := (List.range i).map new ++ old.drop i
theorem mix_0 (new : Nat → D) (old : List D) : mixL new old 0 = old := rfl
theorem mix_len (new : Nat → D) (old : List D) {i : Nat} (h : i ≤ old.length) : (mixL new old i).length = old.length := by
  unfold mixL
  rw [List.length_append, List.length_map, List.length_range, List.length_drop]
  omega
theorem mix_get (new : Nat → D) {old : List D} {i : Nat} {x : D} (h : old[i]? = some x) : (mixL new old i)[i]? = some x := by
  unfold mixL
  rw [List.getElem?_append_right (by rw [List.length_map, List.length_range]; omega), List.length_map, List.length_range, Nat.sub_self, List.getElem?_drop, Nat.add_zero]
  exact h
theorem mix_set (new : Nat → D) {old : List D} {i : Nat} (h : i < old.length) : (mixL new old i).set i (new i) = mixL new old (i + 1) := by
  unfold mixL
  rw [List.set_append_right _ _ (by rw [List.length_map, List.length_range]; exact Nat.le_refl _), List.length_map, List.length_range, Nat.sub_self, List.range_succ, List.map_append, List.append_assoc]
  congr 1
  rw [List.drop_eq_getElem_cons h]
  rfl
theorem mix_end (new : Nat → D) (old : List D) : mixL new old old.length = (List.range old.length).map new := by
  unfold mixL
  rw [List.drop_length, List.append_nil]
theorem mix_ren (new : Nat → D) (old : List D) (hn : ∀ i, (new i).pur = true) (ho : D.purL old = true) (L : List Nat) (i : Nat) : D.renL L (mixL new old i) = mixL new old i := by
  refine ren_pure.renL_pure L _ (D.purL_iff.2 fun d hd => ?_)
  unfold mixL at hd
  rcases List.mem_append.1 hd with hd | hd
  · obtain ⟨j, _, rfl⟩ := List.mem_map.1 hd
    exact hn j
  · exact D.purL_iff.1 ho d (List.mem_of_mem_drop hd)
theorem news_ren (new : Nat → D) (hn : ∀ i, (new i).pur = true) (L : List Nat) (n : Nat) : D.renL L ((List.range n).map new) = (List.range n).map new := by
  refine ren_pure.renL_pure L _ (D.purL_iff.2 fun d hd => ?_)
  obtain ⟨j, _, rfl⟩ := List.mem_map.1 hd
  exact hn j
def mkI (k : Int) (i : Nat) : D := I (k + i)
theorem markIntS_ok (l : List Int) (hl : l.length ≤ 1048576) (k : Int) (hk : 0 ≤ k ∧ k ≤ 1099511627776) : Does Try.prog 22 [.row 1 (l.map I)] [.own 1000000 1 l.length, I k] (I (k + l.length)) [.row 1 ((List.range l.length).map (mkI k))] := by
  have hlm : (l.map I).length = l.length := List.length_map ..
  have hren := mix_ren (mkI k) (l.map I) (fun _ => rfl) (ints_pur l)
  have hren2 := news_ren (mkI k) (fun _ => rfl)
  refine does c_laws_markIntS mixed (Nat.le_of_ble_eq_true rfl) 1 rfl ?_
  conv => arg 3; whnf
  repeat' (first | with_reducible refine acc_none ?_ | (conv in hold _ => simp (disch := omega) only [go_sem]) | refine Stp.go ?_ | (with_reducible first | refine it_pos rfl ?_ | refine it_neg (by decide) ?_ | refine st_nil rfl ?_ | refine s_op ?_ ?_ | exact True.intro) | ((with_reducible first | refine dw_reg0 ?_ | refine dw_regB ?_); (conv => arg 3; whnf)) | (refine Spl.go (fun hq he => ?_) (fun hq he => ?_) <;> first | (exfalso; clear hq; omega) | ((try (first | (conv => arg 8; simp only [hq]) | (conv => arg 4; simp only [hq]))); clear hq)) | ((with_reducible first | refine c_split (fun hq => ?_) (fun hq => ?_) | refine q_split (fun hq => ?_) (fun hq => ?_)) <;> (try (first | (conv => arg 8; simp only [hq]) | (conv => arg 4; simp only [hq])))) | (with_reducible refine fin_0 ?_ (by first | rfl | (conv => lhs; simp only [go_sem])) ?_) | exact Sub.refl _ | omega)
  refine dw_for (c := 1) (l := fun i => [(0, .own 1000000 1 l.length), (1, I (k + i)), (5, I i), (1000000, .row 1 (mixL (mkI k) (l.map I) i))]) l.length (fun _ => True) 0 trivial (Wk.list [1000000] rfl rfl ?_) (fun i hi _ => ?_) (Nat.zero_le _)
  · repeat' (first | (conv in hold _ => simp (disch := omega) only [go_sem, hren]) | exact True.intro | exact Sub.refl _ | omega)
    exact ⟨congrArg (fun n => D.v (Value.int IntKind.i64 n)) (by omega), rfl, rfl⟩
  · have hml := mix_len (mkI k) (l.map I) (i := i) (by omega)
    by_cases hlt : i < l.length
    · obtain ⟨x, hx⟩ : ∃ x, l[i]? = some x := ⟨_, List.getElem?_eq_getElem hlt⟩
      have hxI : (l.map I)[i]? = some (I x) := by rw [List.getElem?_map, hx]; rfl
      have hg := mix_get (mkI k) hxI
      have hst := mix_set (mkI k) (old := l.map I) (i := i) (by omega)
      rw [mkI] at hst
      repeat' (first | with_reducible refine acc_none ?_ | (conv in hold _ => simp (disch := omega) only [go_sem, hml, hlm, hg]) | refine Stp.go ?_ | (with_reducible first | refine it_pos rfl ?_ | refine it_neg (by decide) ?_ | refine st_nil rfl ?_ | refine s_op ?_ ?_ | exact True.intro) | ((with_reducible first | refine dw_reg0 ?_ | refine dw_regB ?_); (conv => arg 3; whnf)) | (refine Spl.go (fun hq he => ?_) (fun hq he => ?_) <;> first | (exfalso; clear hq; omega) | ((try (first | (conv => arg 8; simp only [hq]) | (conv => arg 4; simp only [hq]))); clear hq)) | ((with_reducible first | refine c_split (fun hq => ?_) (fun hq => ?_) | refine q_split (fun hq => ?_) (fun hq => ?_)) <;> (try (first | (conv => arg 8; simp only [hq]) | (conv => arg 4; simp only [hq])))) | (with_reducible refine fin_0 ?_ (by first | rfl | (conv => lhs; simp only [go_sem, hml, hlm, hg])) ?_) | exact Sub.refl _ | omega)
      refine ⟨hlt, trivial, Wk.list [1000000] rfl rfl ?_⟩
      repeat' (first | (conv in hold _ => simp (disch := omega) only [go_sem, hst, hren]) | exact True.intro | exact Sub.refl _ | omega)
      exact congrArg (fun n => D.v (Value.int IntKind.i64 n)) (by omega)
    · obtain rfl : i = l.length := by omega
      have hend := mix_end (mkI k) (l.map I)
      rw [hlm] at hend
      repeat' (first | with_reducible refine acc_none ?_ | (conv in hold _ => simp (disch := omega) only [go_sem, hml, hlm]) | refine Stp.go ?_ | (with_reducible first | refine it_pos rfl ?_ | refine it_neg (by decide) ?_ | refine st_nil rfl ?_ | refine s_op ?_ ?_ | exact True.intro) | ((with_reducible first | refine dw_reg0 ?_ | refine dw_regB ?_); (conv => arg 3; whnf)) | (refine Spl.go (fun hq he => ?_) (fun hq he => ?_) <;> first | (exfalso; clear hq; omega) | ((try (first | (conv => arg 8; simp only [hq]) | (conv => arg 4; simp only [hq]))); clear hq)) | ((with_reducible first | refine c_split (fun hq => ?_) (fun hq => ?_) | refine q_split (fun hq => ?_) (fun hq => ?_)) <;> (try (first | (conv => arg 8; simp only [hq]) | (conv => arg 4; simp only [hq])))) | (with_reducible refine fin_0 ?_ (by first | rfl | (conv => lhs; simp only [go_sem, hml, hlm])) ?_) | exact Sub.refl _ | omega)
      refine fin_L [1000000] ?_ ?_ rfl ?_
      repeat' (first | (conv in hold _ => simp (disch := omega) only [go_sem, hend, hren2]) | exact True.intro | exact Sub.refl _ | omega)
theorem heldIntS_ok (n : Nat) (hn : n ≤ 1048576) (k : Int) (hk : 0 ≤ k ∧ k ≤ 1099511627776) : Does Try.prog 23 [] [.sl 1 ((List.range n).map (mkI k)), I k] (I (k + n)) [] := by
  have hlm : ((List.range n).map (mkI k)).length = n := by rw [List.length_map, List.length_range]
  refine does0 c_laws_heldIntS mixed (Nat.le_of_ble_eq_true rfl) ?_
  conv => arg 3; whnf
  repeat' (first | with_reducible refine acc_none ?_ | (conv in hold _ => simp (disch := omega) only [go_sem, hlm]) | refine Stp.go ?_ | (with_reducible first | refine it_pos rfl ?_ | refine it_neg (by decide) ?_ | refine st_nil rfl ?_ | refine s_op ?_ ?_ | exact True.intro) | ((with_reducible first | refine dw_reg0 ?_ | refine dw_regB ?_); (conv => arg 3; whnf)) | (refine Spl.go (fun hq he => ?_) (fun hq he => ?_) <;> first | (exfalso; clear hq; omega) | ((try (first | (conv => arg 8; simp only [hq]) | (conv => arg 4; simp only [hq]))); clear hq)) | ((with_reducible first | refine c_split (fun hq => ?_) (fun hq => ?_) | refine q_split (fun hq => ?_) (fun hq => ?_)) <;> (try (first | (conv => arg 8; simp only [hq]) | (conv => arg 4; simp only [hq])))) | (with_reducible refine fin_0 ?_ (by first | rfl | (conv => lhs; simp only [go_sem, hlm])) ?_) | exact Sub.refl _ | omega)
  refine dw_for (c := 0) (l := fun i => [(0, .sl 1 ((List.range n).map (mkI k))), (1, I (k + i)), (5, I i)]) n (fun _ => True) 0 trivial (Wk.list [] rfl rfl ?_) (fun i hi _ => ?_) (Nat.zero_le _)
  · repeat' (first | (conv in hold _ => simp (disch := omega) only [go_sem]) | exact True.intro | exact Sub.refl _ | omega)
    exact ⟨congrArg (fun n => D.v (Value.int IntKind.i64 n)) (by omega), rfl⟩
  · by_cases hlt : i < n
    · have hx : ((List.range n).map (mkI k))[i]? = some (I (k + i)) := by rw [List.getElem?_map, List.getElem?_range hlt]; rfl
      repeat' (first | with_reducible refine acc_none ?_ | (conv in hold _ => simp (disch := omega) only [go_sem, hlm, hx, bne_self_eq_false]) | refine Stp.go ?_ | (with_reducible first | refine it_pos rfl ?_ | refine it_neg (by decide) ?_ | refine st_nil rfl ?_ | refine s_op ?_ ?_ | exact True.intro) | ((with_reducible first | refine dw_reg0 ?_ | refine dw_regB ?_); (conv => arg 3; whnf)) | (refine Spl.go (fun hq he => ?_) (fun hq he => ?_) <;> first | (exfalso; clear hq; omega) | ((try (first | (conv => arg 8; simp only [hq]) | (conv => arg 4; simp only [hq]))); clear hq)) | ((with_reducible first | refine c_split (fun hq => ?_) (fun hq => ?_) | refine q_split (fun hq => ?_) (fun hq => ?_)) <;> (try (first | (conv => arg 8; simp only [hq]) | (conv => arg 4; simp only [hq])))) | (with_reducible refine fin_0 ?_ (by first | rfl | (conv => lhs; simp only [go_sem, hlm, hx, bne_self_eq_false])) ?_) | exact Sub.refl _ | omega)
      refine ⟨hlt, trivial, Wk.list [] rfl rfl ?_⟩
      repeat' (first | (conv in hold _ => simp (disch := omega) only [go_sem]) | exact True.intro | exact Sub.refl _ | omega)
      exact congrArg (fun n => D.v (Value.int IntKind.i64 n)) (by omega)
    · obtain rfl : i = n := by omega
      repeat' (first | with_reducible refine acc_none ?_ | (conv in hold _ => simp (disch := omega) only [go_sem, hlm]) | refine Stp.go ?_ | (with_reducible first | refine it_pos rfl ?_ | refine it_neg (by decide) ?_ | refine st_nil rfl ?_ | refine s_op ?_ ?_ | exact True.intro) | ((with_reducible first | refine dw_reg0 ?_ | refine dw_regB ?_); (conv => arg 3; whnf)) | (refine Spl.go (fun hq he => ?_) (fun hq he => ?_) <;> first | (exfalso; clear hq; omega) | ((try (first | (conv => arg 8; simp only [hq]) | (conv => arg 4; simp only [hq]))); clear hq)) | ((with_reducible first | refine c_split (fun hq => ?_) (fun hq => ?_) | refine q_split (fun hq => ?_) (fun hq => ?_)) <;> (try (first | (conv => arg 8; simp only [hq]) | (conv => arg 4; simp only [hq])))) | (with_reducible refine fin_0 ?_ (by first | rfl | (conv => lhs; simp only [go_sem, hlm])) ?_) | exact Sub.refl _ | omega)
theorem flat_mkI (k : Int) (n : Nat) : flatRow (.row 1 ((List.range n).map (mkI k))) := flatRow_map (mkI k) 1 _ (fun a c hc => ⟨_, List.mem_singleton.1 hc⟩)
/-- No numbers: nothing to mark, nothing to look at. -/
theorem markIntS_nil (k : Int) : Does Try.prog 22 [] [.sl 1 [], I k] (I k) [] := by
  refine does0 c_laws_markIntS mixed (Nat.le_of_ble_eq_true rfl) ?_
  conv => arg 3; whnf
  repeat' (first | with_reducible refine acc_none ?_ | (conv in hold _ => simp (disch := omega) only [go_sem]) | refine Stp.go ?_ | (with_reducible first | refine it_pos rfl ?_ | refine it_neg (by decide) ?_ | refine st_nil rfl ?_ | refine s_op ?_ ?_ | exact True.intro) | ((with_reducible first | refine dw_reg0 ?_ | refine dw_regB ?_); (conv => arg 3; whnf)) | (refine Spl.go (fun hq he => ?_) (fun hq he => ?_) <;> first | (exfalso; clear hq; omega) | ((try (first | (conv => arg 8; simp only [hq]) | (conv => arg 4; simp only [hq]))); clear hq)) | ((with_reducible first | refine c_split (fun hq => ?_) (fun hq => ?_) | refine q_split (fun hq => ?_) (fun hq => ?_)) <;> (try (first | (conv => arg 8; simp only [hq]) | (conv => arg 4; simp only [hq])))) | (with_reducible refine fin_0 ?_ (by first | rfl | (conv => lhs; simp only [go_sem])) ?_) | exact Sub.refl _ | omega)
  refine dw_for (c := 0) (l := fun i => [(0, .sl 1 []), (1, I k), (5, I i)]) 0 (fun _ => True) 0 trivial (Wk.list [] rfl rfl ?_) (fun i hi _ => ?_) (Nat.zero_le _)
  · repeat' (first | (conv in hold _ => simp (disch := omega) only [go_sem]) | exact True.intro | exact Sub.refl _ | omega)
    exact rfl
  · obtain rfl : i = 0 := by omega
    repeat' (first | with_reducible refine acc_none ?_ | (conv in hold _ => simp (disch := omega) only [go_sem, List.length_nil]) | refine Stp.go ?_ | (with_reducible first | refine it_pos rfl ?_ | refine it_neg (by decide) ?_ | refine st_nil rfl ?_ | refine s_op ?_ ?_ | exact True.intro) | ((with_reducible first | refine dw_reg0 ?_ | refine dw_regB ?_); (conv => arg 3; whnf)) | (refine Spl.go (fun hq he => ?_) (fun hq he => ?_) <;> first | (exfalso; clear hq; omega) | ((try (first | (conv => arg 8; simp only [hq]) | (conv => arg 4; simp only [hq]))); clear hq)) | ((with_reducible first | refine c_split (fun hq => ?_) (fun hq => ?_) | refine q_split (fun hq => ?_) (fun hq => ?_)) <;> (try (first | (conv => arg 8; simp only [hq]) | (conv => arg 4; simp only [hq])))) | (with_reducible refine fin_0 ?_ (by first | rfl | (conv => lhs; simp only [go_sem, List.length_nil])) ?_) | exact Sub.refl _ | omega)
theorem heldIntS_nil (k : Int) : Does Try.prog 23 [] [.sl 1 [], I k] (I k) [] := by
  refine does0 c_laws_heldIntS mixed (Nat.le_of_ble_eq_true rfl) ?_
  conv => arg 3; whnf
  repeat' (first | with_reducible refine acc_none ?_ | (conv in hold _ => simp (disch := omega) only [go_sem]) | refine Stp.go ?_ | (with_reducible first | refine it_pos rfl ?_ | refine it_neg (by decide) ?_ | refine st_nil rfl ?_ | refine s_op ?_ ?_ | exact True.intro) | ((with_reducible first | refine dw_reg0 ?_ | refine dw_regB ?_); (conv => arg 3; whnf)) | (refine Spl.go (fun hq he => ?_) (fun hq he => ?_) <;> first | (exfalso; clear hq; omega) | ((try (first | (conv => arg 8; simp only [hq]) | (conv => arg 4; simp only [hq]))); clear hq)) | ((with_reducible first | refine c_split (fun hq => ?_) (fun hq => ?_) | refine q_split (fun hq => ?_) (fun hq => ?_)) <;> (try (first | (conv => arg 8; simp only [hq]) | (conv => arg 4; simp only [hq])))) | (with_reducible refine fin_0 ?_ (by first | rfl | (conv => lhs; simp only [go_sem])) ?_) | exact Sub.refl _ | omega)
  refine dw_for (c := 0) (l := fun i => [(0, .sl 1 []), (1, I k), (5, I i)]) 0 (fun _ => True) 0 trivial (Wk.list [] rfl rfl ?_) (fun i hi _ => ?_) (Nat.zero_le _)
  · repeat' (first | (conv in hold _ => simp (disch := omega) only [go_sem]) | exact True.intro | exact Sub.refl _ | omega)
    exact rfl
  · obtain rfl : i = 0 := by omega
    repeat' (first | with_reducible refine acc_none ?_ | (conv in hold _ => simp (disch := omega) only [go_sem, List.length_nil]) | refine Stp.go ?_ | (with_reducible first | refine it_pos rfl ?_ | refine it_neg (by decide) ?_ | refine st_nil rfl ?_ | refine s_op ?_ ?_ | exact True.intro) | ((with_reducible first | refine dw_reg0 ?_ | refine dw_regB ?_); (conv => arg 3; whnf)) | (refine Spl.go (fun hq he => ?_) (fun hq he => ?_) <;> first | (exfalso; clear hq; omega) | ((try (first | (conv => arg 8; simp only [hq]) | (conv => arg 4; simp only [hq]))); clear hq)) | ((with_reducible first | refine c_split (fun hq => ?_) (fun hq => ?_) | refine q_split (fun hq => ?_) (fun hq => ?_)) <;> (try (first | (conv => arg 8; simp only [hq]) | (conv => arg 4; simp only [hq])))) | (with_reducible refine fin_0 ?_ (by first | rfl | (conv => lhs; simp only [go_sem, List.length_nil])) ?_) | exact Sub.refl _ | omega)
end Go.Proofs.Ytedmegmhjmabcaa
set_option maxHeartbeats 4000000
set_option maxRecDepth 100000
set_option linter.unusedVariables false
set_option linter.unusedSimpArgs false
namespace Go.Proofs.Ytedmegmhjmabcaa
open Go.RowKit

theorem copyRow_ok (vs : List V) (hl : vs.length < 2000000) : Does Try.prog 107 [] [rowD vs] (rowD vs) [] := by
  refine does0 c_spec_copyRow mixed (Nat.le_of_ble_eq_true rfl) ?_
  conv => arg 3; whnf
  repeat' (first | with_reducible refine acc_none ?_ | (conv in hold _ => simp (disch := omega) only [go_sem]) | refine Stp.go ?_ | (with_reducible first | refine it_pos rfl ?_ | refine it_neg (by decide) ?_ | refine st_nil rfl ?_ | refine s_op ?_ ?_ | exact True.intro) | ((with_reducible first | refine dw_reg0 ?_ | refine dw_regB ?_); (conv => arg 3; whnf)) | (refine Spl.go (fun hq he => ?_) (fun hq he => ?_) <;> first | (exfalso; clear hq; omega) | ((try (first | (conv => arg 8; simp only [hq]) | (conv => arg 4; simp only [hq]))); clear hq)) | ((with_reducible first | refine c_split (fun hq => ?_) (fun hq => ?_) | refine q_split (fun hq => ?_) (fun hq => ?_)) <;> (try (first | (conv => arg 8; simp only [hq]) | (conv => arg 4; simp only [hq])))) | exact Sub.refl _ | omega)
  refine fin_wk (wk_frz 2 2000005 (by decide) (by decide) rfl ?_) ?_
  rotate_left
  (conv in hold _ => simp (disch := omega) only [go_sem, take_all])
  · refine fin_L [] ?_ ?_ rfl ?_
    repeat' (first | (conv in hold _ => simp (disch := omega) only [go_sem]) | exact True.intro | exact Sub.refl _ | omega)
  · exact vals_pur _
theorem map_rowD_append (a b : List (List V)) : (a ++ b).map rowD = a.map rowD ++ b.map rowD := List.map_append
theorem insertRow_own (rs : List (List V)) (r : List V) (w : Nat) (hw : w < 1000) (hl : rs.length ≤ 400) (hs : RsW w (r :: rs)) (ha : Asc rs) : Does Try.prog 104 [] [rowsD rs, rowD r] (.own 1000000 1 (ins r rs).length) [.row 1 ((ins r rs).map rowD)] := by
  have hr := hs r (List.mem_cons_self ..)
  have hcp := copyRow_ok r (by omega)
  let p : Nat → Bool := fun j => decide (0 < cmpR (rs.getD j []) r)
  have hat : ∀ (j : Nat) (x : List V), rs[j]? = some x → p j = decide (0 < cmpR x r) := fun j x hj => by
    show decide (0 < cmpR (rs.getD j []) r) = _
    rw [List.getD_eq_getElem?_getD, hj]
    rfl
  have hp : ∀ i j, i ≤ j → j < rs.length → p i = true → p j = true := fun i j hij hj hi => by
    have e1 := List.getElem?_eq_getElem (l := rs) (i := i) (by omega)
    have e2 := List.getElem?_eq_getElem hj
    rw [hat _ _ e1] at hi
    rw [hat _ _ e2]
    have g1 := hs _ (List.mem_cons_of_mem _ (List.getElem_mem (l := rs) (n := i) (by omega)))
    have g2 := hs _ (List.mem_cons_of_mem _ (List.getElem_mem hj))
    by_cases hij' : i = j
    · subst hij'; exact hi
    · have h1 := asc_at ha (show i < j by omega) e1 e2
      have hi := of_decide_eq_true hi
      refine decide_eq_true ?_
      have h2 := cmpR_anti _ r (by omega) g1.2 hr.2
      have h3 := cmpR_anti _ r (by omega) g2.2 hr.2
      have h4 := (cmpR_trans r _ _ (by omega) (by omega) hr.2 g1.2 g2.2 (by omega)).1 h1
      by_cases h5 : cmpR r rs[j] = 0
      · have e := cmpR_eq h5
        have h6 := cmpR_anti rs[i] rs[j] (by omega) g1.2 g2.2
        unfold leR at h1
        rw [← e] at h1
        omega
      · omega
  clear_value p
  have hinv := itB_inv (p := p) (n := rs.length) hp
  have hend := hinv rs.length
  have hee : (itB p rs.length rs.length).1 = (itB p rs.length rs.length).2 := by omega
  have hres : ins r rs = rs.take (itB p rs.length rs.length).1 ++ r :: rs.drop (itB p rs.length rs.length).1 := by
    refine ins_at r rs _ (by omega) (fun j x hj hx => ?_) (fun x hx => ?_)
    · have h1 := hend.2.1 j hj
      rw [hat j x hx] at h1
      have := of_decide_eq_false h1
      omega
    · have h1 := hend.2.2 _ (by omega) (List.getElem?_eq_some_iff.1 hx).1
      rw [hat _ x hx] at h1
      have := of_decide_eq_true h1
      omega
  have hil : (ins r rs).length = rs.length + 1 := (ins_perm r rs).length_eq
  rw [hil]
  refine does c_spec_insertRow mixed (Nat.le_of_ble_eq_true rfl) 0 rfl ?_
  conv => arg 3; whnf
  repeat' (first | with_reducible refine acc_none ?_ | (conv in hold _ => simp (disch := omega) only [go_sem]) | refine Stp.go ?_ | (with_reducible first | refine it_pos rfl ?_ | refine it_neg (by decide) ?_ | refine st_nil rfl ?_ | refine s_op ?_ ?_ | exact True.intro) | ((with_reducible first | refine dw_reg0 ?_ | refine dw_regB ?_); (conv => arg 3; whnf)) | (refine Spl.go (fun hq he => ?_) (fun hq he => ?_) <;> first | (exfalso; clear hq; omega) | ((try (first | (conv => arg 8; simp only [hq]) | (conv => arg 4; simp only [hq]))); clear hq)) | ((with_reducible first | refine c_split (fun hq => ?_) (fun hq => ?_) | refine q_split (fun hq => ?_) (fun hq => ?_)) <;> (try (first | (conv => arg 8; simp only [hq]) | (conv => arg 4; simp only [hq])))) | (with_reducible refine fin_0 ?_ (by first | rfl | (conv => lhs; simp only [go_sem])) ?_) | exact Sub.refl _ | omega)
  refine dw_for (c := 0) (l := fun i => [(0, rowsD rs), (1, rowD r), (5, I (itB p rs.length i).1), (6, I (itB p rs.length i).2)]) rs.length (fun _ => True) 0 trivial (Wk.list [] rfl rfl ?_) (fun i hi _ => ?_) (Nat.zero_le _)
  · repeat' (first | (conv in hold _ => simp (disch := omega) only [go_sem]) | exact True.intro | exact Sub.refl _ | omega)
    exact ⟨rfl, rfl⟩
  · have hi3 := hinv i
    have hnx : itB p rs.length (i + 1) = stepB p (itB p rs.length i) := rfl
    have hstop := itB_end (p := p) (n := rs.length) (i := i)
    by_cases hlt : (itB p rs.length i).1 < (itB p rs.length i).2
    · generalize itB p rs.length i = s at hi3 hnx hstop hlt
      obtain ⟨lo, hi'⟩ := s
      simp only at hi3 hstop hlt
      have hmid : ((lo : Int) + (hi' : Int)).tdiv 2 = (((lo + hi') / 2 : Nat) : Int) := by
        rw [Int.tdiv_eq_ediv_of_nonneg (by omega)]
        omega
      have hw' : IntKind.i64.wrap (((lo + hi') / 2 : Nat) : Int) = (((lo + hi') / 2 : Nat) : Int) := wrap64 (by omega) (by omega)
      have hx := List.getElem?_eq_getElem (l := rs) (i := (lo + hi') / 2) (by omega)
      generalize rs[(lo + hi') / 2]'(by omega) = x at hx
      have hxl := hs x (List.mem_cons_of_mem _ (List.mem_of_getElem? hx))
      have hc := compareRows_spec x r (by omega) (by omega)
      have hatm := hat _ x hx
      have hmr : (lo + hi') / 2 < rs.length := by omega
      unfold stepB at hnx
      simp only [hlt, if_true] at hnx
      generalize (lo + hi') / 2 = m at hmid hw' hx hatm hmr hnx
      by_cases hm : cmpR x r ≤ 0
      · rw [decide_eq_false (by omega)] at hatm
        rw [hatm] at hnx
        simp only [Bool.false_eq_true, if_false] at hnx
        repeat' (first
          | with_reducible refine acc_none ?_ | (conv in hold _ => simp (disch := omega) only [go_sem, hmid, hw', List.getElem?_map, hx, Option.map_some]) | refine Stp.go ?_ | (with_reducible first | refine it_pos rfl ?_ | refine it_neg (by decide) ?_ | refine st_nil rfl ?_ | refine s_op ?_ ?_ | exact True.intro) | ((with_reducible first | refine dw_reg0 ?_ | refine dw_regB ?_); (conv => arg 3; whnf)) | (refine Spl.go (fun hq he => ?_) (fun hq he => ?_) <;> first | (exfalso; clear hq; omega) | ((try (first | (conv => arg 8; simp only [hq]) | (conv => arg 4; simp only [hq]))); clear hq)) | ((with_reducible first | refine c_split (fun hq => ?_) (fun hq => ?_) | refine q_split (fun hq => ?_) (fun hq => ?_)) <;> (try (first | (conv => arg 8; simp only [hq]) | (conv => arg 4; simp only [hq])))) | (with_reducible refine fin_0 ?_ (by first | rfl | (conv => lhs; simp only [go_sem, hmid, hw', List.getElem?_map, hx, Option.map_some])) ?_)
          | (with_reducible show evC _ _ _ _ _ _ _ _ _ _ _ _
             first
             | (refine c_doesE (hc) ?_ ?_ ?_
                · ((try (conv => rhs; simp (disch := omega) only [go_sem, hmid, hw', List.getElem?_map, hx, Option.map_some])); try rfl)
                · first | rfl | (conv => lhs; simp only [go_sem, hmid, hw', List.getElem?_map, hx, Option.map_some])))
          | exact Sub.refl _ | omega)
        refine ⟨by omega, trivial, Wk.list [] rfl rfl ?_⟩
        repeat' (first | (conv in hold _ => simp (disch := omega) only [go_sem, hnx]) | exact True.intro | exact Sub.refl _ | omega)
      · rw [decide_eq_true (by omega)] at hatm
        rw [hatm] at hnx
        simp only [if_true] at hnx
        repeat' (first
          | with_reducible refine acc_none ?_ | (conv in hold _ => simp (disch := omega) only [go_sem, hmid, hw', List.getElem?_map, hx, Option.map_some]) | refine Stp.go ?_ | (with_reducible first | refine it_pos rfl ?_ | refine it_neg (by decide) ?_ | refine st_nil rfl ?_ | refine s_op ?_ ?_ | exact True.intro) | ((with_reducible first | refine dw_reg0 ?_ | refine dw_regB ?_); (conv => arg 3; whnf)) | (refine Spl.go (fun hq he => ?_) (fun hq he => ?_) <;> first | (exfalso; clear hq; omega) | ((try (first | (conv => arg 8; simp only [hq]) | (conv => arg 4; simp only [hq]))); clear hq)) | ((with_reducible first | refine c_split (fun hq => ?_) (fun hq => ?_) | refine q_split (fun hq => ?_) (fun hq => ?_)) <;> (try (first | (conv => arg 8; simp only [hq]) | (conv => arg 4; simp only [hq])))) | (with_reducible refine fin_0 ?_ (by first | rfl | (conv => lhs; simp only [go_sem, hmid, hw', List.getElem?_map, hx, Option.map_some])) ?_)
          | (with_reducible show evC _ _ _ _ _ _ _ _ _ _ _ _
             first
             | (refine c_doesE (hc) ?_ ?_ ?_
                · ((try (conv => rhs; simp (disch := omega) only [go_sem, hmid, hw', List.getElem?_map, hx, Option.map_some])); try rfl)
                · first | rfl | (conv => lhs; simp only [go_sem, hmid, hw', List.getElem?_map, hx, Option.map_some])))
          | exact Sub.refl _ | omega)
        refine ⟨by omega, trivial, Wk.list [] rfl rfl ?_⟩
        repeat' (first | (conv in hold _ => simp (disch := omega) only [go_sem, hnx]) | exact True.intro | exact Sub.refl _ | omega)
    · have he1 := hstop hlt (rs.length - i)
      rw [show i + (rs.length - i) = rs.length by omega] at he1
      rw [he1] at hres
      generalize itB p rs.length i = s at hi3 hlt hres
      obtain ⟨lo, hi'⟩ := s
      simp only at hi3 hlt hres
      rw [hres]
      have t1 : (rs.map rowD).take lo = (rs.take lo).map rowD := List.map_take.symm
      have t2 : (rs.map rowD).take rs.length = rs.map rowD := take_all rowD rs
      have t3 : (rs.map rowD).drop lo = (rs.drop lo).map rowD := List.map_drop.symm
      have t4 : (rs.take lo).length = lo := by rw [List.length_take]; omega
      have t5 : (rs.drop lo).length = rs.length - lo := List.length_drop
      have t6 : ((rs.take lo).map rowD).take lo = (rs.take lo).map rowD := List.take_of_length_le (by rw [List.length_map, t4]; exact Nat.le_refl _)
      have t7 : ((rs.take lo).map rowD).length = lo := by rw [List.length_map, t4]
      have t8 : ((rs.take lo).map rowD ++ [rowD r]).length = lo + 1 := by rw [List.length_append, t7]; rfl
      have t9 : ((rs.take lo).map rowD ++ [rowD r]).take (lo + 1) = (rs.take lo).map rowD ++ [rowD r] := List.take_of_length_le (by rw [t8]; exact Nat.le_refl _)
      have ta : lo + 1 + (rs.length - lo) = rs.length + 1 := by omega
      have tb : ((rs.map rowD).take rs.length).drop lo = (rs.drop lo).map rowD := by rw [t2, t3]
      rw [rowD] at t8 t9
      repeat' (first
        | with_reducible refine acc_none ?_ | (conv in hold _ => simp (disch := omega) only [go_sem, t1, t2, t3, t4, t5, t6, t7, List.length_map, t8, t9]) | refine Stp.go ?_ | (with_reducible first | refine it_pos rfl ?_ | refine it_neg (by decide) ?_ | refine st_nil rfl ?_ | refine s_op ?_ ?_ | exact True.intro) | ((with_reducible first | refine dw_reg0 ?_ | refine dw_regB ?_); (conv => arg 3; whnf)) | (refine Spl.go (fun hq he => ?_) (fun hq he => ?_) <;> first | (exfalso; clear hq; omega) | ((try (first | (conv => arg 8; simp only [hq]) | (conv => arg 4; simp only [hq]))); clear hq)) | ((with_reducible first | refine c_split (fun hq => ?_) (fun hq => ?_) | refine q_split (fun hq => ?_) (fun hq => ?_)) <;> (try (first | (conv => arg 8; simp only [hq]) | (conv => arg 4; simp only [hq])))) | (with_reducible refine fin_0 ?_ (by first | rfl | (conv => lhs; simp only [go_sem, t1, t2, t3, t4, t5, t6, t7, List.length_map, t8, t9])) ?_)
        | (with_reducible show evC _ _ _ _ _ _ _ _ _ _ _ _
           first
           | (refine c_doesE (hcp) ?_ ?_ ?_
              · ((try (conv => rhs; simp (disch := omega) only [go_sem, t1, t2, t3, t4, t5, t6, t7, List.length_map, t8, t9])); try rfl)
              · first | rfl | (conv => lhs; simp only [go_sem, t1, t2, t3, t4, t5, t6, t7, List.length_map, t8, t9])))
        | exact Sub.refl _ | omega)
      refine fin_L [2000042] ?_ ?_ rfl ?_
      repeat' (first | (conv in hold _ => simp (disch := omega) only [go_sem, ta, List.map_append, List.map_cons]) | exact True.intro | exact Sub.refl _ | omega)
      refine congrArg (D.row 1) ?_
      have hren : ∀ l : List (List V), D.renL [2000042] (l.map rowD) = l.map rowD := rows_ren [2000042]
      have e5 : List.map rowD (rs.take lo) ++ D.sl 2 (List.map vD r) :: List.map rowD (rs.drop lo) = (rs.take lo ++ r :: rs.drop lo).map rowD := by rw [List.map_append, List.map_cons]; rfl
      rw [e5, hren, ← e5, List.append_assoc]
      rfl
end Go.Proofs.Ytedmegmhjmabcaa
set_option linter.unusedVariables false
namespace Go.Proofs.Ytedmegmhjmabcaa
open Go.RowKit

theorem asc_of_tOk {t : Ta} (h : tOk t) : Asc t.rows := by
  refine List.pairwise_iff_getElem.2 (fun i j hi hj hij => ?_)
  have := tOk_le h (j - i) i t.rows[i] t.rows[j] (List.getElem?_eq_getElem hi) (by rw [show i + (j - i) = j by omega]; exact List.getElem?_eq_getElem hj)
  exact this
theorem rsw_of_tOk {t : Ta} (h : tOk t) : RsW t.w.toNat t.rows := fun r hr => by
  obtain ⟨i, hi⟩ := List.mem_iff_getElem?.1 hr
  have := h.2 i r hi
  exact ⟨by have := this.1.2; omega, this.1.1.2⟩
theorem tOk_of {w : Nat} {rs : List (List V)} (hw : 1 ≤ w ∧ w ≤ 6) (hl : rs.length ≤ 400) (h : RsW w rs) (ha : Asc rs) : tOk ⟨w, rs⟩ := by
  refine ⟨⟨⟨by show (1 : Int) ≤ w; omega, by show (w : Int) ≤ 6; omega⟩, hl⟩, fun i r hr => ?_⟩
  have hm := h r (List.mem_of_getElem? hr)
  refine ⟨⟨⟨⟨by omega, by omega⟩, hm.2⟩, by show (r.length : Int) = w; omega⟩, fun q h0 hq => ?_⟩
  exact asc_at ha (show i - 1 < i by omega) hq hr
end Go.Proofs.Ytedmegmhjmabcaa
