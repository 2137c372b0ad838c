/-
  Rows of dependencies and of numbers of one's own: made, marked, looked at. No condition.
-/
import Derived.Test.YtclkehekhdfnnaaDca
import Derived.Test.YtclkehekhdfnnaaVLend
import Derived.Test.YtclkehekhdfnnaaVDepZ
set_option maxHeartbeats 4000000
set_option maxRecDepth 100000
set_option linter.unusedVariables false
set_option linter.unusedSimpArgs false
namespace Go.Proofs.Ytclkehekhdfnnaa
open Go.RowKit

/-- A row of which the first are new. -/
def mixL (new : Nat → D) (old : List D) (i : Nat) : List D := (List.range i).map new ++ old.drop i
theorem mix_0 (new : Nat → D) (old : List D) : mixL new old 0 = old := rfl
theorem mix_len (new : Nat → D) (old : List D) {i : Nat} (h : i ≤ old.length) : (mixL new old i).length = old.length := by
  unfold mixL
  rw [List.length_append, List.length_map, List.length_range, List.length_drop]
  omega
theorem mix_get (new : Nat → D) {old : List D} {i : Nat} {x : D} (h : old[i]? = some x) : (mixL new old i)[i]? = some x := by
  unfold mixL
  rw [List.getElem?_append_right (by rw [List.length_map, List.length_range]; omega), List.length_map, List.length_range, Nat.sub_self, List.getElem?_drop, Nat.add_zero]
  exact h
theorem mix_set (new : Nat → D) {old : List D} {i : Nat} (h : i < old.length) : (mixL new old i).set i (new i) = mixL new old (i + 1) := by
  unfold mixL
  rw [List.set_append_right _ _ (by rw [List.length_map, List.length_range]; exact Nat.le_refl _), List.length_map, List.length_range, Nat.sub_self, List.range_succ, List.map_append, List.append_assoc]
  congr 1
  rw [List.drop_eq_getElem_cons h]
  rfl
theorem mix_end (new : Nat → D) (old : List D) : mixL new old old.length = (List.range old.length).map new := by
  unfold mixL
  rw [List.drop_length, List.append_nil]
theorem mix_ren (new : Nat → D) (old : List D) (hn : ∀ i, (new i).pur = true) (ho : D.purL old = true) (L : List Nat) (i : Nat) : D.renL L (mixL new old i) = mixL new old i := by
  refine ren_pure.renL_pure L _ (D.purL_iff.2 fun d hd => ?_)
  unfold mixL at hd
  rcases List.mem_append.1 hd with hd | hd
  · obtain ⟨j, _, rfl⟩ := List.mem_map.1 hd
    exact hn j
  · exact D.purL_iff.1 ho d (List.mem_of_mem_drop hd)
theorem news_ren (new : Nat → D) (hn : ∀ i, (new i).pur = true) (L : List Nat) (n : Nat) : D.renL L ((List.range n).map new) = (List.range n).map new := by
  refine ren_pure.renL_pure L _ (D.purL_iff.2 fun d hd => ?_)
  obtain ⟨j, _, rfl⟩ := List.mem_map.1 hd
  exact hn j
def mkI (k : Int) (i : Nat) : D := I (k + i)
def mkDe (k : Int) (i : Nat) : D := .agg [I (k + 2 * i), I (k + 2 * i + 1)]
theorem markIntS_ok (l : List Int) (hl : l.length ≤ 1048576) (k : Int) (hk : 0 ≤ k ∧ k ≤ 1048576) : Does Try.prog 15 [.row 1 (l.map I)] [.own 1000000 1 l.length, I k] (I (k + l.length)) [.row 1 ((List.range l.length).map (mkI k))] := by
  have hlm : (l.map I).length = l.length := List.length_map ..
  have hren := mix_ren (mkI k) (l.map I) (fun _ => rfl) (ints_pur l)
  have hren2 := news_ren (mkI k) (fun _ => rfl)
  refine does c_laws_markIntS mixed (Nat.le_of_ble_eq_true rfl) 1 rfl ?_
  conv => arg 3; whnf
  repeat' (first | with_reducible refine acc_none ?_ | (conv in hold _ => simp (disch := omega) only [go_sem]) | refine Stp.go ?_ | (with_reducible first | refine it_pos rfl ?_ | refine it_neg (by decide) ?_ | refine st_nil rfl ?_ | refine s_op ?_ ?_ | exact True.intro) | ((with_reducible first | refine dw_reg0 ?_ | refine dw_regB ?_); (conv => arg 3; whnf)) | (refine Spl.go (fun hq he => ?_) (fun hq he => ?_) <;> first | (exfalso; clear hq; omega) | ((try (first | (conv => arg 8; simp only [hq]) | (conv => arg 4; simp only [hq]))); clear hq)) | ((with_reducible first | refine c_split (fun hq => ?_) (fun hq => ?_) | refine q_split (fun hq => ?_) (fun hq => ?_)) <;> (try (first | (conv => arg 8; simp only [hq]) | (conv => arg 4; simp only [hq])))) | (with_reducible refine fin_0 ?_ (by first | rfl | (conv => lhs; simp only [go_sem])) ?_) | exact Sub.refl _ | omega)
  refine dw_for (c := 1) (l := fun i => [(0, .own 1000000 1 l.length), (1, I (k + i)), (5, I i), (1000000, .row 1 (mixL (mkI k) (l.map I) i))]) l.length (fun _ => True) 0 trivial (Wk.list [1000000] rfl rfl ?_) (fun i hi _ => ?_) (Nat.zero_le _)
  · repeat' (first | (conv in hold _ => simp (disch := omega) only [go_sem, hren]) | exact True.intro | exact Sub.refl _ | omega)
    exact ⟨congrArg (fun n => D.v (Value.int IntKind.i64 n)) (by omega), rfl, rfl⟩
  · have hml := mix_len (mkI k) (l.map I) (i := i) (by omega)
    by_cases hlt : i < l.length
    · obtain ⟨x, hx⟩ : ∃ x, l[i]? = some x := ⟨_, List.getElem?_eq_getElem hlt⟩
      have hxI : (l.map I)[i]? = some (I x) := by rw [List.getElem?_map, hx]; rfl
      have hg := mix_get (mkI k) hxI
      have hst := mix_set (mkI k) (old := l.map I) (i := i) (by omega)
      rw [mkI] at hst
      repeat' (first | with_reducible refine acc_none ?_ | (conv in hold _ => simp (disch := omega) only [go_sem, hml, hlm, hg]) | refine Stp.go ?_ | (with_reducible first | refine it_pos rfl ?_ | refine it_neg (by decide) ?_ | refine st_nil rfl ?_ | refine s_op ?_ ?_ | exact True.intro) | ((with_reducible first | refine dw_reg0 ?_ | refine dw_regB ?_); (conv => arg 3; whnf)) | (refine Spl.go (fun hq he => ?_) (fun hq he => ?_) <;> first | (exfalso; clear hq; omega) | ((try (first | (conv => arg 8; simp only [hq]) | (conv => arg 4; simp only [hq]))); clear hq)) | ((with_reducible first | refine c_split (fun hq => ?_) (fun hq => ?_) | refine q_split (fun hq => ?_) (fun hq => ?_)) <;> (try (first | (conv => arg 8; simp only [hq]) | (conv => arg 4; simp only [hq])))) | (with_reducible refine fin_0 ?_ (by first | rfl | (conv => lhs; simp only [go_sem, hml, hlm, hg])) ?_) | exact Sub.refl _ | omega)
      refine ⟨hlt, trivial, Wk.list [1000000] rfl rfl ?_⟩
      repeat' (first | (conv in hold _ => simp (disch := omega) only [go_sem, hst, hren]) | exact True.intro | exact Sub.refl _ | omega)
      exact congrArg (fun n => D.v (Value.int IntKind.i64 n)) (by omega)
    · obtain rfl : i = l.length := by omega
      have hend := mix_end (mkI k) (l.map I)
      rw [hlm] at hend
      repeat' (first | with_reducible refine acc_none ?_ | (conv in hold _ => simp (disch := omega) only [go_sem, hml, hlm]) | refine Stp.go ?_ | (with_reducible first | refine it_pos rfl ?_ | refine it_neg (by decide) ?_ | refine st_nil rfl ?_ | refine s_op ?_ ?_ | exact True.intro) | ((with_reducible first | refine dw_reg0 ?_ | refine dw_regB ?_); (conv => arg 3; whnf)) | (refine Spl.go (fun hq he => ?_) (fun hq he => ?_) <;> first | (exfalso; clear hq; omega) | ((try (first | (conv => arg 8; simp only [hq]) | (conv => arg 4; simp only [hq]))); clear hq)) | ((with_reducible first | refine c_split (fun hq => ?_) (fun hq => ?_) | refine q_split (fun hq => ?_) (fun hq => ?_)) <;> (try (first | (conv => arg 8; simp only [hq]) | (conv => arg 4; simp only [hq])))) | (with_reducible refine fin_0 ?_ (by first | rfl | (conv => lhs; simp only [go_sem, hml, hlm])) ?_) | exact Sub.refl _ | omega)
      refine fin_L [1000000] ?_ ?_ rfl ?_
      repeat' (first | (conv in hold _ => simp (disch := omega) only [go_sem, hend, hren2]) | exact True.intro | exact Sub.refl _ | omega)
theorem heldIntS_ok (n : Nat) (hn : n ≤ 1048576) (k : Int) (hk : 0 ≤ k ∧ k ≤ 1048576) : Does Try.prog 16 [] [.sl 1 ((List.range n).map (mkI k)), I k] (I (k + n)) [] := by
  have hlm : ((List.range n).map (mkI k)).length = n := by rw [List.length_map, List.length_range]
  refine does0 c_laws_heldIntS mixed (Nat.le_of_ble_eq_true rfl) ?_
  conv => arg 3; whnf
  repeat' (first | with_reducible refine acc_none ?_ | (conv in hold _ => simp (disch := omega) only [go_sem, hlm]) | refine Stp.go ?_ | (with_reducible first | refine it_pos rfl ?_ | refine it_neg (by decide) ?_ | refine st_nil rfl ?_ | refine s_op ?_ ?_ | exact True.intro) | ((with_reducible first | refine dw_reg0 ?_ | refine dw_regB ?_); (conv => arg 3; whnf)) | (refine Spl.go (fun hq he => ?_) (fun hq he => ?_) <;> first | (exfalso; clear hq; omega) | ((try (first | (conv => arg 8; simp only [hq]) | (conv => arg 4; simp only [hq]))); clear hq)) | ((with_reducible first | refine c_split (fun hq => ?_) (fun hq => ?_) | refine q_split (fun hq => ?_) (fun hq => ?_)) <;> (try (first | (conv => arg 8; simp only [hq]) | (conv => arg 4; simp only [hq])))) | (with_reducible refine fin_0 ?_ (by first | rfl | (conv => lhs; simp only [go_sem, hlm])) ?_) | exact Sub.refl _ | omega)
  refine dw_for (c := 0) (l := fun i => [(0, .sl 1 ((List.range n).map (mkI k))), (1, I (k + i)), (5, I i)]) n (fun _ => True) 0 trivial (Wk.list [] rfl rfl ?_) (fun i hi _ => ?_) (Nat.zero_le _)
  · repeat' (first | (conv in hold _ => simp (disch := omega) only [go_sem]) | exact True.intro | exact Sub.refl _ | omega)
    exact ⟨congrArg (fun n => D.v (Value.int IntKind.i64 n)) (by omega), rfl⟩
  · by_cases hlt : i < n
    · have hx : ((List.range n).map (mkI k))[i]? = some (I (k + i)) := by rw [List.getElem?_map, List.getElem?_range hlt]; rfl
      repeat' (first | with_reducible refine acc_none ?_ | (conv in hold _ => simp (disch := omega) only [go_sem, hlm, hx, bne_self_eq_false]) | refine Stp.go ?_ | (with_reducible first | refine it_pos rfl ?_ | refine it_neg (by decide) ?_ | refine st_nil rfl ?_ | refine s_op ?_ ?_ | exact True.intro) | ((with_reducible first | refine dw_reg0 ?_ | refine dw_regB ?_); (conv => arg 3; whnf)) | (refine Spl.go (fun hq he => ?_) (fun hq he => ?_) <;> first | (exfalso; clear hq; omega) | ((try (first | (conv => arg 8; simp only [hq]) | (conv => arg 4; simp only [hq]))); clear hq)) | ((with_reducible first | refine c_split (fun hq => ?_) (fun hq => ?_) | refine q_split (fun hq => ?_) (fun hq => ?_)) <;> (try (first | (conv => arg 8; simp only [hq]) | (conv => arg 4; simp only [hq])))) | (with_reducible refine fin_0 ?_ (by first | rfl | (conv => lhs; simp only [go_sem, hlm, hx, bne_self_eq_false])) ?_) | exact Sub.refl _ | omega)
      refine ⟨hlt, trivial, Wk.list [] rfl rfl ?_⟩
      repeat' (first | (conv in hold _ => simp (disch := omega) only [go_sem]) | exact True.intro | exact Sub.refl _ | omega)
      exact congrArg (fun n => D.v (Value.int IntKind.i64 n)) (by omega)
    · obtain rfl : i = n := by omega
      repeat' (first | with_reducible refine acc_none ?_ | (conv in hold _ => simp (disch := omega) only [go_sem, hlm]) | refine Stp.go ?_ | (with_reducible first | refine it_pos rfl ?_ | refine it_neg (by decide) ?_ | refine st_nil rfl ?_ | refine s_op ?_ ?_ | exact True.intro) | ((with_reducible first | refine dw_reg0 ?_ | refine dw_regB ?_); (conv => arg 3; whnf)) | (refine Spl.go (fun hq he => ?_) (fun hq he => ?_) <;> first | (exfalso; clear hq; omega) | ((try (first | (conv => arg 8; simp only [hq]) | (conv => arg 4; simp only [hq]))); clear hq)) | ((with_reducible first | refine c_split (fun hq => ?_) (fun hq => ?_) | refine q_split (fun hq => ?_) (fun hq => ?_)) <;> (try (first | (conv => arg 8; simp only [hq]) | (conv => arg 4; simp only [hq])))) | (with_reducible refine fin_0 ?_ (by first | rfl | (conv => lhs; simp only [go_sem, hlm])) ?_) | exact Sub.refl _ | omega)
theorem flat_des (l : List De) : flatRow (.row 2 (l.map deD)) := flatRow_map deD 2 l (fun a c hc => by
  have hc' : c ∈ [I a.f, I a.t] := hc
  simp only [List.mem_cons, List.not_mem_nil, or_false] at hc'
  rcases hc' with rfl | rfl <;> exact ⟨_, rfl⟩)
theorem flat_mkI (k : Int) (n : Nat) : flatRow (.row 1 ((List.range n).map (mkI k))) := flatRow_map (mkI k) 1 _ (fun a c hc => ⟨_, List.mem_singleton.1 hc⟩)
/-- Numbers of one's own are compared with others that stand still. -/
theorem eqIntS_own (l : List Int) (hlen : l.length ≤ 1048576) : Does Try.prog 12 [.row 1 (l.map I)] [.own 1000000 1 l.length, intsD l] (Bo true) [.row 1 (l.map I)] :=
  Does.lent (H := [.row 1 (l.map I)]) (ds := [.own 1000000 1 l.length, intsD l]) (eqIntS_ok l hlen) rfl (Lent.cons (Lent.row 0 rfl (List.length_map ..) _ rfl) (Lent.one (.same _ rfl))) (flats_1 (flat_ints l)) flats_0 rfl
theorem heldIntS_own (n : Nat) (hn : n ≤ 1048576) (k : Int) (hk : 0 ≤ k ∧ k ≤ 1048576) : Does Try.prog 16 [.row 1 ((List.range n).map (mkI k))] [.own 1000000 1 n, I k] (I (k + n)) [.row 1 ((List.range n).map (mkI k))] :=
  Does.lent (H := [.row 1 ((List.range n).map (mkI k))]) (ds := [.own 1000000 1 n, I k]) (heldIntS_ok n hn k hk) rfl (Lent.cons (Lent.row 0 rfl (by rw [List.length_map, List.length_range]) _ rfl) (Lent.one (.same _ rfl))) (flats_1 (flat_mkI k n)) flats_0 rfl
/-- No numbers: nothing to mark, nothing to look at. -/
theorem markIntS_nil (k : Int) : Does Try.prog 15 [] [.sl 1 [], I k] (I k) [] := by
  refine does0 c_laws_markIntS mixed (Nat.le_of_ble_eq_true rfl) ?_
  conv => arg 3; whnf
  repeat' (first | with_reducible refine acc_none ?_ | (conv in hold _ => simp (disch := omega) only [go_sem]) | refine Stp.go ?_ | (with_reducible first | refine it_pos rfl ?_ | refine it_neg (by decide) ?_ | refine st_nil rfl ?_ | refine s_op ?_ ?_ | exact True.intro) | ((with_reducible first | refine dw_reg0 ?_ | refine dw_regB ?_); (conv => arg 3; whnf)) | (refine Spl.go (fun hq he => ?_) (fun hq he => ?_) <;> first | (exfalso; clear hq; omega) | ((try (first | (conv => arg 8; simp only [hq]) | (conv => arg 4; simp only [hq]))); clear hq)) | ((with_reducible first | refine c_split (fun hq => ?_) (fun hq => ?_) | refine q_split (fun hq => ?_) (fun hq => ?_)) <;> (try (first | (conv => arg 8; simp only [hq]) | (conv => arg 4; simp only [hq])))) | (with_reducible refine fin_0 ?_ (by first | rfl | (conv => lhs; simp only [go_sem])) ?_) | exact Sub.refl _ | omega)
  refine dw_for (c := 0) (l := fun i => [(0, .sl 1 []), (1, I k), (5, I i)]) 0 (fun _ => True) 0 trivial (Wk.list [] rfl rfl ?_) (fun i hi _ => ?_) (Nat.zero_le _)
  · repeat' (first | (conv in hold _ => simp (disch := omega) only [go_sem]) | exact True.intro | exact Sub.refl _ | omega)
    exact rfl
  · obtain rfl : i = 0 := by omega
    repeat' (first | with_reducible refine acc_none ?_ | (conv in hold _ => simp (disch := omega) only [go_sem, List.length_nil]) | refine Stp.go ?_ | (with_reducible first | refine it_pos rfl ?_ | refine it_neg (by decide) ?_ | refine st_nil rfl ?_ | refine s_op ?_ ?_ | exact True.intro) | ((with_reducible first | refine dw_reg0 ?_ | refine dw_regB ?_); (conv => arg 3; whnf)) | (refine Spl.go (fun hq he => ?_) (fun hq he => ?_) <;> first | (exfalso; clear hq; omega) | ((try (first | (conv => arg 8; simp only [hq]) | (conv => arg 4; simp only [hq]))); clear hq)) | ((with_reducible first | refine c_split (fun hq => ?_) (fun hq => ?_) | refine q_split (fun hq => ?_) (fun hq => ?_)) <;> (try (first | (conv => arg 8; simp only [hq]) | (conv => arg 4; simp only [hq])))) | (with_reducible refine fin_0 ?_ (by first | rfl | (conv => lhs; simp only [go_sem, List.length_nil])) ?_) | exact Sub.refl _ | omega)
theorem heldIntS_nil (k : Int) : Does Try.prog 16 [] [.sl 1 [], I k] (I k) [] := by
  refine does0 c_laws_heldIntS mixed (Nat.le_of_ble_eq_true rfl) ?_
  conv => arg 3; whnf
  repeat' (first | with_reducible refine acc_none ?_ | (conv in hold _ => simp (disch := omega) only [go_sem]) | refine Stp.go ?_ | (with_reducible first | refine it_pos rfl ?_ | refine it_neg (by decide) ?_ | refine st_nil rfl ?_ | refine s_op ?_ ?_ | exact True.intro) | ((with_reducible first | refine dw_reg0 ?_ | refine dw_regB ?_); (conv => arg 3; whnf)) | (refine Spl.go (fun hq he => ?_) (fun hq he => ?_) <;> first | (exfalso; clear hq; omega) | ((try (first | (conv => arg 8; simp only [hq]) | (conv => arg 4; simp only [hq]))); clear hq)) | ((with_reducible first | refine c_split (fun hq => ?_) (fun hq => ?_) | refine q_split (fun hq => ?_) (fun hq => ?_)) <;> (try (first | (conv => arg 8; simp only [hq]) | (conv => arg 4; simp only [hq])))) | (with_reducible refine fin_0 ?_ (by first | rfl | (conv => lhs; simp only [go_sem])) ?_) | exact Sub.refl _ | omega)
  refine dw_for (c := 0) (l := fun i => [(0, .sl 1 []), (1, I k), (5, I i)]) 0 (fun _ => True) 0 trivial (Wk.list [] rfl rfl ?_) (fun i hi _ => ?_) (Nat.zero_le _)
  · repeat' (first | (conv in hold _ => simp (disch := omega) only [go_sem]) | exact True.intro | exact Sub.refl _ | omega)
    exact rfl
  · obtain rfl : i = 0 := by omega
    repeat' (first | with_reducible refine acc_none ?_ | (conv in hold _ => simp (disch := omega) only [go_sem, List.length_nil]) | refine Stp.go ?_ | (with_reducible first | refine it_pos rfl ?_ | refine it_neg (by decide) ?_ | refine st_nil rfl ?_ | refine s_op ?_ ?_ | exact True.intro) | ((with_reducible first | refine dw_reg0 ?_ | refine dw_regB ?_); (conv => arg 3; whnf)) | (refine Spl.go (fun hq he => ?_) (fun hq he => ?_) <;> first | (exfalso; clear hq; omega) | ((try (first | (conv => arg 8; simp only [hq]) | (conv => arg 4; simp only [hq]))); clear hq)) | ((with_reducible first | refine c_split (fun hq => ?_) (fun hq => ?_) | refine q_split (fun hq => ?_) (fun hq => ?_)) <;> (try (first | (conv => arg 8; simp only [hq]) | (conv => arg 4; simp only [hq])))) | (with_reducible refine fin_0 ?_ (by first | rfl | (conv => lhs; simp only [go_sem, List.length_nil])) ?_) | exact Sub.refl _ | omega)
end Go.Proofs.Ytclkehekhdfnnaa
