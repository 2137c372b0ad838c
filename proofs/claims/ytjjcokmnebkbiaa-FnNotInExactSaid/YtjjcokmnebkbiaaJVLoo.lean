/-
  Unions of tables, in both packages; two drawn tables. No condition.
-/
import Derived.Test.YtjjcokmnebkbiaaDca
import Derived.Test.YtjjcokmnebkbiaaDcc
import Derived.Test.YtjjcokmnebkbiaaJVTbS
import Derived.Test.YtjjcokmnebkbiaaKVDrawTc
import Derived.Test.YtjjcokmnebkbiaaDcb
set_option maxHeartbeats 4000000
set_option maxRecDepth 100000
set_option linter.unusedVariables false
set_option linter.unusedSimpArgs false
namespace Go.Proofs.Ytjjcokmnebkbiaa
open Go.RowKit

/-- Two valid tables of the same width. -/
def sameT (a b : Ta) : Prop := tOk a ∧ tOk b ∧ a.w = b.w
noncomputable instance sameTDec (a b : Ta) : Decidable (sameT a b) := Classical.propDecidable _
theorem sameT.symm {a b : Ta} (h : sameT a b) : sameT b a := ⟨h.2.1, h.1, h.2.2.symm⟩
theorem haveSameWidth_ok (a b : Ta) (ha : rsz a.rows ≤ 1048576) (hb : rsz b.rows ≤ 1048576) : Does Try.prog 23 [] [taD a, taD b] (Bo (decide (sameT a b))) [] := by
  have h1 := ValidTable_impl a ha
  have h2 := ValidTable_impl b hb
  by_cases h : tOk a
  · rw [decide_eq_true h] at h1
    by_cases h' : tOk b
    · rw [decide_eq_true h'] at h2
      refine does0 c_impl_haveSameWidth mixed (Nat.le_of_ble_eq_true rfl) ?_
      conv => arg 3; whnf
      repeat' (first | with_reducible refine acc_none ?_ | (conv in hold _ => simp (disch := omega) only [go_sem]) | refine Stp.go ?_ | (with_reducible first | refine it_pos rfl ?_ | refine it_neg (by decide) ?_ | refine st_nil rfl ?_ | refine s_op ?_ ?_ | exact True.intro) | ((with_reducible first | refine dw_reg0 ?_ | refine dw_regB ?_); (conv => arg 3; whnf)) | (refine Spl.go (fun hq he => ?_) (fun hq he => ?_) <;> first | (exfalso; clear hq; omega) | ((try (first | (conv => arg 8; simp only [hq]) | (conv => arg 4; simp only [hq]))); clear hq)) | ((with_reducible first | refine c_split (fun hq => ?_) (fun hq => ?_) | refine q_split (fun hq => ?_) (fun hq => ?_)) <;> (try (first | (conv => arg 8; simp only [hq]) | (conv => arg 4; simp only [hq])))) | (with_reducible refine fin_0 ?_ (by first | rfl | (conv => lhs; simp only [go_sem])) ?_) | exact Sub.refl _ | omega)
      refine c_doesE (h1) ?_ ?_ ?_
      · ((try (conv => rhs; simp (disch := omega) only [go_sem])); try rfl)
      · first | rfl | (conv => lhs; simp only [go_sem])
      repeat' (first | with_reducible refine acc_none ?_ | (conv in hold _ => simp (disch := omega) only [go_sem]) | refine Stp.go ?_ | (with_reducible first | refine it_pos rfl ?_ | refine it_neg (by decide) ?_ | refine st_nil rfl ?_ | refine s_op ?_ ?_ | exact True.intro) | ((with_reducible first | refine dw_reg0 ?_ | refine dw_regB ?_); (conv => arg 3; whnf)) | (refine Spl.go (fun hq he => ?_) (fun hq he => ?_) <;> first | (exfalso; clear hq; omega) | ((try (first | (conv => arg 8; simp only [hq]) | (conv => arg 4; simp only [hq]))); clear hq)) | ((with_reducible first | refine c_split (fun hq => ?_) (fun hq => ?_) | refine q_split (fun hq => ?_) (fun hq => ?_)) <;> (try (first | (conv => arg 8; simp only [hq]) | (conv => arg 4; simp only [hq])))) | (with_reducible refine fin_0 ?_ (by first | rfl | (conv => lhs; simp only [go_sem])) ?_) | exact Sub.refl _ | omega)
      refine c_doesE (h2) ?_ ?_ ?_
      · ((try (conv => rhs; simp (disch := omega) only [go_sem])); try rfl)
      · first | rfl | (conv => lhs; simp only [go_sem])
      repeat' (first | with_reducible refine acc_none ?_ | (conv in hold _ => simp (disch := omega) only [go_sem]) | refine Stp.go ?_ | (with_reducible first | refine it_pos rfl ?_ | refine it_neg (by decide) ?_ | refine st_nil rfl ?_ | refine s_op ?_ ?_ | exact True.intro) | ((with_reducible first | refine dw_reg0 ?_ | refine dw_regB ?_); (conv => arg 3; whnf)) | (refine Spl.go (fun hq he => ?_) (fun hq he => ?_) <;> first | (exfalso; clear hq; omega) | ((try (first | (conv => arg 8; simp only [hq]) | (conv => arg 4; simp only [hq]))); clear hq)) | ((with_reducible first | refine c_split (fun hq => ?_) (fun hq => ?_) | refine q_split (fun hq => ?_) (fun hq => ?_)) <;> (try (first | (conv => arg 8; simp only [hq]) | (conv => arg 4; simp only [hq])))) | (with_reducible refine fin_0 ?_ (by first | rfl | (conv => lhs; simp only [go_sem])) ?_) | exact Sub.refl _ | omega)
      exact sub_iff (by rw [beq_iff_eq]; exact ⟨fun x => ⟨h, h', x⟩, fun x => x.2.2⟩)
    · rw [decide_eq_false h'] at h2
      refine does0 c_impl_haveSameWidth mixed (Nat.le_of_ble_eq_true rfl) ?_
      conv => arg 3; whnf
      repeat' (first | with_reducible refine acc_none ?_ | (conv in hold _ => simp (disch := omega) only [go_sem]) | refine Stp.go ?_ | (with_reducible first | refine it_pos rfl ?_ | refine it_neg (by decide) ?_ | refine st_nil rfl ?_ | refine s_op ?_ ?_ | exact True.intro) | ((with_reducible first | refine dw_reg0 ?_ | refine dw_regB ?_); (conv => arg 3; whnf)) | (refine Spl.go (fun hq he => ?_) (fun hq he => ?_) <;> first | (exfalso; clear hq; omega) | ((try (first | (conv => arg 8; simp only [hq]) | (conv => arg 4; simp only [hq]))); clear hq)) | ((with_reducible first | refine c_split (fun hq => ?_) (fun hq => ?_) | refine q_split (fun hq => ?_) (fun hq => ?_)) <;> (try (first | (conv => arg 8; simp only [hq]) | (conv => arg 4; simp only [hq])))) | (with_reducible refine fin_0 ?_ (by first | rfl | (conv => lhs; simp only [go_sem])) ?_) | exact Sub.refl _ | omega)
      refine c_doesE (h1) ?_ ?_ ?_
      · ((try (conv => rhs; simp (disch := omega) only [go_sem])); try rfl)
      · first | rfl | (conv => lhs; simp only [go_sem])
      repeat' (first | with_reducible refine acc_none ?_ | (conv in hold _ => simp (disch := omega) only [go_sem]) | refine Stp.go ?_ | (with_reducible first | refine it_pos rfl ?_ | refine it_neg (by decide) ?_ | refine st_nil rfl ?_ | refine s_op ?_ ?_ | exact True.intro) | ((with_reducible first | refine dw_reg0 ?_ | refine dw_regB ?_); (conv => arg 3; whnf)) | (refine Spl.go (fun hq he => ?_) (fun hq he => ?_) <;> first | (exfalso; clear hq; omega) | ((try (first | (conv => arg 8; simp only [hq]) | (conv => arg 4; simp only [hq]))); clear hq)) | ((with_reducible first | refine c_split (fun hq => ?_) (fun hq => ?_) | refine q_split (fun hq => ?_) (fun hq => ?_)) <;> (try (first | (conv => arg 8; simp only [hq]) | (conv => arg 4; simp only [hq])))) | (with_reducible refine fin_0 ?_ (by first | rfl | (conv => lhs; simp only [go_sem])) ?_) | exact Sub.refl _ | omega)
      refine c_doesE (h2) ?_ ?_ ?_
      · ((try (conv => rhs; simp (disch := omega) only [go_sem])); try rfl)
      · first | rfl | (conv => lhs; simp only [go_sem])
      repeat' (first | with_reducible refine acc_none ?_ | (conv in hold _ => simp (disch := omega) only [go_sem]) | refine Stp.go ?_ | (with_reducible first | refine it_pos rfl ?_ | refine it_neg (by decide) ?_ | refine st_nil rfl ?_ | refine s_op ?_ ?_ | exact True.intro) | ((with_reducible first | refine dw_reg0 ?_ | refine dw_regB ?_); (conv => arg 3; whnf)) | (refine Spl.go (fun hq he => ?_) (fun hq he => ?_) <;> first | (exfalso; clear hq; omega) | ((try (first | (conv => arg 8; simp only [hq]) | (conv => arg 4; simp only [hq]))); clear hq)) | ((with_reducible first | refine c_split (fun hq => ?_) (fun hq => ?_) | refine q_split (fun hq => ?_) (fun hq => ?_)) <;> (try (first | (conv => arg 8; simp only [hq]) | (conv => arg 4; simp only [hq])))) | (with_reducible refine fin_0 ?_ (by first | rfl | (conv => lhs; simp only [go_sem])) ?_) | exact Sub.refl _ | omega)
      exact sub_f (fun x => h' x.2.1)
  · rw [decide_eq_false h] at h1
    refine does0 c_impl_haveSameWidth mixed (Nat.le_of_ble_eq_true rfl) ?_
    conv => arg 3; whnf
    repeat' (first | with_reducible refine acc_none ?_ | (conv in hold _ => simp (disch := omega) only [go_sem]) | refine Stp.go ?_ | (with_reducible first | refine it_pos rfl ?_ | refine it_neg (by decide) ?_ | refine st_nil rfl ?_ | refine s_op ?_ ?_ | exact True.intro) | ((with_reducible first | refine dw_reg0 ?_ | refine dw_regB ?_); (conv => arg 3; whnf)) | (refine Spl.go (fun hq he => ?_) (fun hq he => ?_) <;> first | (exfalso; clear hq; omega) | ((try (first | (conv => arg 8; simp only [hq]) | (conv => arg 4; simp only [hq]))); clear hq)) | ((with_reducible first | refine c_split (fun hq => ?_) (fun hq => ?_) | refine q_split (fun hq => ?_) (fun hq => ?_)) <;> (try (first | (conv => arg 8; simp only [hq]) | (conv => arg 4; simp only [hq])))) | (with_reducible refine fin_0 ?_ (by first | rfl | (conv => lhs; simp only [go_sem])) ?_) | exact Sub.refl _ | omega)
    refine c_doesE (h1) ?_ ?_ ?_
    · ((try (conv => rhs; simp (disch := omega) only [go_sem])); try rfl)
    · first | rfl | (conv => lhs; simp only [go_sem])
    repeat' (first | with_reducible refine acc_none ?_ | (conv in hold _ => simp (disch := omega) only [go_sem]) | refine Stp.go ?_ | (with_reducible first | refine it_pos rfl ?_ | refine it_neg (by decide) ?_ | refine st_nil rfl ?_ | refine s_op ?_ ?_ | exact True.intro) | ((with_reducible first | refine dw_reg0 ?_ | refine dw_regB ?_); (conv => arg 3; whnf)) | (refine Spl.go (fun hq he => ?_) (fun hq he => ?_) <;> first | (exfalso; clear hq; omega) | ((try (first | (conv => arg 8; simp only [hq]) | (conv => arg 4; simp only [hq]))); clear hq)) | ((with_reducible first | refine c_split (fun hq => ?_) (fun hq => ?_) | refine q_split (fun hq => ?_) (fun hq => ?_)) <;> (try (first | (conv => arg 8; simp only [hq]) | (conv => arg 4; simp only [hq])))) | (with_reducible refine fin_0 ?_ (by first | rfl | (conv => lhs; simp only [go_sem])) ?_) | exact Sub.refl _ | omega)
    exact sub_f (fun x => h x.1)
theorem tOk_nat {t : Ta} (h : tOk t) : ∃ w : Nat, t.w = (w : Int) ∧ (1 ≤ w ∧ w ≤ 6) ∧ RsW w t.rows ∧ Asc t.rows ∧ t.rows.length ≤ 400 := by
  have h1 := h.1.1
  refine ⟨t.w.toNat, by omega, by omega, rsw_of_tOk h, asc_of_tOk h, h.1.2⟩
theorem small_ok {t : Ta} (ht : tOk t) : smallT t := by
  obtain ⟨w, _, _, hr, _, hl⟩ := tOk_nat ht
  exact ⟨by omega, fun r hm => by have := (hr r hm).1; omega⟩
theorem tOk_sz {t : Ta} (ht : tOk t) : rsz t.rows ≤ 1048576 := by
  obtain ⟨w, _, _, hr, _, hl⟩ := tOk_nat ht
  have h1 := rsz_le t.rows (k := 6) (fun r hm => by have := (hr r hm).1; omega)
  omega
theorem NearT.mono {w w' m : Nat} {t : Ta} (h : NearT w m t) (hw : w ≤ w') : NearT w' m t := ⟨h.len, fun r hr => by have := h.row r hr; omega⟩
end Go.Proofs.Ytjjcokmnebkbiaa
set_option maxHeartbeats 4000000
set_option maxRecDepth 100000
set_option linter.unusedVariables false
set_option linter.unusedSimpArgs false
namespace Go.Proofs.Ytjjcokmnebkbiaa
open Go.RowKit

theorem itB_bnd (p : Nat → Bool) (n : Nat) : ∀ i, (itB p n i).1 ≤ (itB p n i).2 ∧ (itB p n i).2 ≤ n ∧ (itB p n i).2 - (itB p n i).1 + i ≤ max n i
  | 0 => ⟨Nat.zero_le _, Nat.le_refl _, by show n - 0 + 0 ≤ max n 0; omega⟩
  | i + 1 => by
    obtain ⟨h1, h2, h3⟩ := itB_bnd p n i
    rw [itB]
    generalize itB p n i = s at h1 h2 h3
    obtain ⟨lo, hi⟩ := s
    simp only at h1 h2 h3
    unfold stepB
    by_cases hlt : lo < hi
    · simp only [hlt, if_true]
      cases hm : p ((lo + hi) / 2) with
      | true =>
        simp only [if_true]
        exact ⟨by omega, by omega, by omega⟩
      | false =>
        simp only [Bool.false_eq_true, if_false]
        exact ⟨by omega, by omega, by omega⟩
    · simp only [hlt, if_false]
      exact ⟨h1, h2, by omega⟩
/-- Where halving puts a row. -/
def posA (r : List V) (rs : List (List V)) : Nat := (itB (fun j => decide (0 < cmpR (rs.getD j []) r)) rs.length rs.length).1
def insA (r : List V) (rs : List (List V)) : List (List V) := rs.take (posA r rs) ++ r :: rs.drop (posA r rs)
theorem insA_perm (r : List V) (rs : List (List V)) : (insA r rs).Perm (r :: rs) := by
  unfold insA
  exact List.perm_middle.trans (by rw [List.take_append_drop])
def srtA (rs : List (List V)) : List (List V) := rs.foldl (fun acc r => insA r acc) []
theorem srtA_next {rs : List (List V)} {i : Nat} {r : List V} (h : rs[i]? = some r) : srtA (rs.take (i + 1)) = insA r (srtA (rs.take i)) := by
  unfold srtA
  rw [take_next h, List.foldl_append]
  rfl
theorem foldA_perm : ∀ (rs acc : List (List V)), (rs.foldl (fun acc r => insA r acc) acc).Perm (acc ++ rs)
  | [], acc => by rw [List.append_nil]; exact List.Perm.refl _
  | r :: rs, acc => (foldA_perm rs (insA r acc)).trans (((insA_perm r acc).append_right rs).trans List.perm_middle.symm)
theorem srtA_perm (rs : List (List V)) : (srtA rs).Perm rs := foldA_perm rs []
theorem srtA_len (rs : List (List V)) : (srtA rs).length = rs.length := (srtA_perm rs).length_eq
theorem insertRow_any (rs : List (List V)) (r : List V) (w : Nat) (hw : w < 2000) (hl : rs.length ≤ 400) (hs : ∀ x, x ∈ r :: rs → x.length = w) : Does Try.prog 32 [] [rowsD rs, rowD r] (.own 1000000 1 (insA r rs).length) [.row 1 ((insA r rs).map rowD)] := by
  have hr := hs r (List.mem_cons_self ..)
  have hcp := copyRow_ok r (by omega)
  have hres : insA r rs = rs.take (itB (fun j => decide (0 < cmpR (rs.getD j []) r)) rs.length rs.length).1 ++ r :: rs.drop (itB (fun j => decide (0 < cmpR (rs.getD j []) r)) rs.length rs.length).1 := rfl
  have hat : ∀ (j : Nat) (x : List V), rs[j]? = some x → (fun j => decide (0 < cmpR (rs.getD j []) r)) j = decide (0 < cmpR x r) := fun j x hj => by
    show decide (0 < cmpR (rs.getD j []) r) = _
    rw [List.getD_eq_getElem?_getD, hj]
    rfl
  generalize (fun j => decide (0 < cmpR (rs.getD j []) r)) = p at hat hres
  have hinv := itB_bnd p rs.length
  have hend := hinv rs.length
  have hee : (itB p rs.length rs.length).1 = (itB p rs.length rs.length).2 := by omega
  have hil : (insA r rs).length = rs.length + 1 := (insA_perm r rs).length_eq
  rw [hil]
  refine does c_spec_insertRow mixed (Nat.le_of_ble_eq_true rfl) 0 rfl ?_
  conv => arg 3; whnf
  repeat' (first | with_reducible refine acc_none ?_ | (conv in hold _ => simp (disch := omega) only [go_sem]) | refine Stp.go ?_ | (with_reducible first | refine it_pos rfl ?_ | refine it_neg (by decide) ?_ | refine st_nil rfl ?_ | refine s_op ?_ ?_ | exact True.intro) | ((with_reducible first | refine dw_reg0 ?_ | refine dw_regB ?_); (conv => arg 3; whnf)) | (refine Spl.go (fun hq he => ?_) (fun hq he => ?_) <;> first | (exfalso; clear hq; omega) | ((try (first | (conv => arg 8; simp only [hq]) | (conv => arg 4; simp only [hq]))); clear hq)) | ((with_reducible first | refine c_split (fun hq => ?_) (fun hq => ?_) | refine q_split (fun hq => ?_) (fun hq => ?_)) <;> (try (first | (conv => arg 8; simp only [hq]) | (conv => arg 4; simp only [hq])))) | (with_reducible refine fin_0 ?_ (by first | rfl | (conv => lhs; simp only [go_sem])) ?_) | exact Sub.refl _ | omega)
  refine dw_for (c := 0) (l := fun i => [(0, rowsD rs), (1, rowD r), (5, I (itB p rs.length i).1), (6, I (itB p rs.length i).2)]) rs.length (fun _ => True) 0 trivial (Wk.list [] rfl rfl ?_) (fun i hi _ => ?_) (Nat.zero_le _)
  · repeat' (first | (conv in hold _ => simp (disch := omega) only [go_sem]) | exact True.intro | exact Sub.refl _ | omega)
    exact ⟨rfl, rfl⟩
  · have hi3 := hinv i
    have hnx : itB p rs.length (i + 1) = stepB p (itB p rs.length i) := rfl
    have hstop := itB_end (p := p) (n := rs.length) (i := i)
    by_cases hlt : (itB p rs.length i).1 < (itB p rs.length i).2
    · generalize itB p rs.length i = s at hi3 hnx hstop hlt
      obtain ⟨lo, hi'⟩ := s
      simp only at hi3 hstop hlt
      have hmid : ((lo : Int) + (hi' : Int)).tdiv 2 = (((lo + hi') / 2 : Nat) : Int) := by
        rw [Int.tdiv_eq_ediv_of_nonneg (by omega)]
        omega
      have hw' : IntKind.i64.wrap (((lo + hi') / 2 : Nat) : Int) = (((lo + hi') / 2 : Nat) : Int) := wrap64 (by omega) (by omega)
      have hx := List.getElem?_eq_getElem (l := rs) (i := (lo + hi') / 2) (by omega)
      generalize rs[(lo + hi') / 2]'(by omega) = x at hx
      have hxl := hs x (List.mem_cons_of_mem _ (List.mem_of_getElem? hx))
      have hc := compareRows_spec x r (by omega) (by omega)
      have hatm := hat _ x hx
      have hmr : (lo + hi') / 2 < rs.length := by omega
      unfold stepB at hnx
      simp only [hlt, if_true] at hnx
      generalize (lo + hi') / 2 = m at hmid hw' hx hatm hmr hnx
      by_cases hm : cmpR x r ≤ 0
      · rw [decide_eq_false (by omega)] at hatm
        rw [hatm] at hnx
        simp only [Bool.false_eq_true, if_false] at hnx
        repeat' (first | with_reducible refine acc_none ?_ | (conv in hold _ => simp (disch := omega) only [go_sem, hmid, hw', List.getElem?_map, hx, Option.map_some]) | refine Stp.go ?_ | (with_reducible first | refine it_pos rfl ?_ | refine it_neg (by decide) ?_ | refine st_nil rfl ?_ | refine s_op ?_ ?_ | exact True.intro) | ((with_reducible first | refine dw_reg0 ?_ | refine dw_regB ?_); (conv => arg 3; whnf)) | (refine Spl.go (fun hq he => ?_) (fun hq he => ?_) <;> first | (exfalso; clear hq; omega) | ((try (first | (conv => arg 8; simp only [hq]) | (conv => arg 4; simp only [hq]))); clear hq)) | ((with_reducible first | refine c_split (fun hq => ?_) (fun hq => ?_) | refine q_split (fun hq => ?_) (fun hq => ?_)) <;> (try (first | (conv => arg 8; simp only [hq]) | (conv => arg 4; simp only [hq])))) | (with_reducible refine fin_0 ?_ (by first | rfl | (conv => lhs; simp only [go_sem, hmid, hw', List.getElem?_map, hx, Option.map_some])) ?_) | exact Sub.refl _ | omega)
        refine c_doesE (hc) ?_ ?_ ?_
        · ((try (conv => rhs; simp (disch := omega) only [go_sem])); try rfl)
        · first | rfl | (conv => lhs; simp only [go_sem])
        repeat' (first | with_reducible refine acc_none ?_ | (conv in hold _ => simp (disch := omega) only [go_sem]) | refine Stp.go ?_ | (with_reducible first | refine it_pos rfl ?_ | refine it_neg (by decide) ?_ | refine st_nil rfl ?_ | refine s_op ?_ ?_ | exact True.intro) | ((with_reducible first | refine dw_reg0 ?_ | refine dw_regB ?_); (conv => arg 3; whnf)) | (refine Spl.go (fun hq he => ?_) (fun hq he => ?_) <;> first | (exfalso; clear hq; omega) | ((try (first | (conv => arg 8; simp only [hq]) | (conv => arg 4; simp only [hq]))); clear hq)) | ((with_reducible first | refine c_split (fun hq => ?_) (fun hq => ?_) | refine q_split (fun hq => ?_) (fun hq => ?_)) <;> (try (first | (conv => arg 8; simp only [hq]) | (conv => arg 4; simp only [hq])))) | (with_reducible refine fin_0 ?_ (by first | rfl | (conv => lhs; simp only [go_sem])) ?_) | exact Sub.refl _ | omega)
        refine ⟨by omega, trivial, Wk.list [] rfl rfl ?_⟩
        repeat' (first | (conv in hold _ => simp (disch := omega) only [go_sem, hnx]) | exact True.intro | exact Sub.refl _ | omega)
      · rw [decide_eq_true (by omega)] at hatm
        rw [hatm] at hnx
        simp only [if_true] at hnx
        repeat' (first | with_reducible refine acc_none ?_ | (conv in hold _ => simp (disch := omega) only [go_sem, hmid, hw', List.getElem?_map, hx, Option.map_some]) | refine Stp.go ?_ | (with_reducible first | refine it_pos rfl ?_ | refine it_neg (by decide) ?_ | refine st_nil rfl ?_ | refine s_op ?_ ?_ | exact True.intro) | ((with_reducible first | refine dw_reg0 ?_ | refine dw_regB ?_); (conv => arg 3; whnf)) | (refine Spl.go (fun hq he => ?_) (fun hq he => ?_) <;> first | (exfalso; clear hq; omega) | ((try (first | (conv => arg 8; simp only [hq]) | (conv => arg 4; simp only [hq]))); clear hq)) | ((with_reducible first | refine c_split (fun hq => ?_) (fun hq => ?_) | refine q_split (fun hq => ?_) (fun hq => ?_)) <;> (try (first | (conv => arg 8; simp only [hq]) | (conv => arg 4; simp only [hq])))) | (with_reducible refine fin_0 ?_ (by first | rfl | (conv => lhs; simp only [go_sem, hmid, hw', List.getElem?_map, hx, Option.map_some])) ?_) | exact Sub.refl _ | omega)
        refine c_doesE (hc) ?_ ?_ ?_
        · ((try (conv => rhs; simp (disch := omega) only [go_sem])); try rfl)
        · first | rfl | (conv => lhs; simp only [go_sem])
        repeat' (first | with_reducible refine acc_none ?_ | (conv in hold _ => simp (disch := omega) only [go_sem]) | refine Stp.go ?_ | (with_reducible first | refine it_pos rfl ?_ | refine it_neg (by decide) ?_ | refine st_nil rfl ?_ | refine s_op ?_ ?_ | exact True.intro) | ((with_reducible first | refine dw_reg0 ?_ | refine dw_regB ?_); (conv => arg 3; whnf)) | (refine Spl.go (fun hq he => ?_) (fun hq he => ?_) <;> first | (exfalso; clear hq; omega) | ((try (first | (conv => arg 8; simp only [hq]) | (conv => arg 4; simp only [hq]))); clear hq)) | ((with_reducible first | refine c_split (fun hq => ?_) (fun hq => ?_) | refine q_split (fun hq => ?_) (fun hq => ?_)) <;> (try (first | (conv => arg 8; simp only [hq]) | (conv => arg 4; simp only [hq])))) | (with_reducible refine fin_0 ?_ (by first | rfl | (conv => lhs; simp only [go_sem])) ?_) | exact Sub.refl _ | omega)
        refine ⟨by omega, trivial, Wk.list [] rfl rfl ?_⟩
        repeat' (first | (conv in hold _ => simp (disch := omega) only [go_sem, hnx]) | exact True.intro | exact Sub.refl _ | omega)
    · have he1 := hstop hlt (rs.length - i)
      rw [show i + (rs.length - i) = rs.length by omega] at he1
      rw [he1] at hres
      generalize itB p rs.length i = s at hi3 hlt hres
      obtain ⟨lo, hi'⟩ := s
      simp only at hi3 hlt hres
      rw [hres]
      have t1 : (rs.map rowD).take lo = (rs.take lo).map rowD := List.map_take.symm
      have t2 : (rs.map rowD).take rs.length = rs.map rowD := take_all rowD rs
      have t3 : (rs.map rowD).drop lo = (rs.drop lo).map rowD := List.map_drop.symm
      have t4 : (rs.take lo).length = lo := by rw [List.length_take]; omega
      have t5 : (rs.drop lo).length = rs.length - lo := List.length_drop
      have t6 : ((rs.take lo).map rowD).take lo = (rs.take lo).map rowD := List.take_of_length_le (by rw [List.length_map, t4]; exact Nat.le_refl _)
      have t7 : ((rs.take lo).map rowD).length = lo := by rw [List.length_map, t4]
      have t8 : ((rs.take lo).map rowD ++ [rowD r]).length = lo + 1 := by rw [List.length_append, t7]; rfl
      have t9 : ((rs.take lo).map rowD ++ [rowD r]).take (lo + 1) = (rs.take lo).map rowD ++ [rowD r] := List.take_of_length_le (by rw [t8]; exact Nat.le_refl _)
      have ta : lo + 1 + (rs.length - lo) = rs.length + 1 := by omega
      have tb : ((rs.map rowD).take rs.length).drop lo = (rs.drop lo).map rowD := by rw [t2, t3]
      rw [rowD] at t8 t9
      repeat' (first | with_reducible refine acc_none ?_ | (conv in hold _ => simp (disch := omega) only [go_sem, t1, t2, t3, t4, t5, t6, t7, List.length_map]) | refine Stp.go ?_ | (with_reducible first | refine it_pos rfl ?_ | refine it_neg (by decide) ?_ | refine st_nil rfl ?_ | refine s_op ?_ ?_ | exact True.intro) | ((with_reducible first | refine dw_reg0 ?_ | refine dw_regB ?_); (conv => arg 3; whnf)) | (refine Spl.go (fun hq he => ?_) (fun hq he => ?_) <;> first | (exfalso; clear hq; omega) | ((try (first | (conv => arg 8; simp only [hq]) | (conv => arg 4; simp only [hq]))); clear hq)) | ((with_reducible first | refine c_split (fun hq => ?_) (fun hq => ?_) | refine q_split (fun hq => ?_) (fun hq => ?_)) <;> (try (first | (conv => arg 8; simp only [hq]) | (conv => arg 4; simp only [hq])))) | (with_reducible refine fin_0 ?_ (by first | rfl | (conv => lhs; simp only [go_sem, t1, t2, t3, t4, t5, t6, t7, List.length_map])) ?_) | exact Sub.refl _ | omega)
      refine c_doesE (hcp) ?_ ?_ ?_
      · ((try (conv => rhs; simp (disch := omega) only [go_sem, t1, t2, t3, t4, t5, t6, t7, t8, t9, List.length_map])); try rfl)
      · first | rfl | (conv => lhs; simp only [go_sem, t1, t2, t3, t4, t5, t6, t7, t8, t9, List.length_map])
      repeat' (first | with_reducible refine acc_none ?_ | (conv in hold _ => simp (disch := omega) only [go_sem, t1, t2, t3, t4, t5, t6, t7, t8, t9, List.length_map]) | refine Stp.go ?_ | (with_reducible first | refine it_pos rfl ?_ | refine it_neg (by decide) ?_ | refine st_nil rfl ?_ | refine s_op ?_ ?_ | exact True.intro) | ((with_reducible first | refine dw_reg0 ?_ | refine dw_regB ?_); (conv => arg 3; whnf)) | (refine Spl.go (fun hq he => ?_) (fun hq he => ?_) <;> first | (exfalso; clear hq; omega) | ((try (first | (conv => arg 8; simp only [hq]) | (conv => arg 4; simp only [hq]))); clear hq)) | ((with_reducible first | refine c_split (fun hq => ?_) (fun hq => ?_) | refine q_split (fun hq => ?_) (fun hq => ?_)) <;> (try (first | (conv => arg 8; simp only [hq]) | (conv => arg 4; simp only [hq])))) | (with_reducible refine fin_0 ?_ (by first | rfl | (conv => lhs; simp only [go_sem, t1, t2, t3, t4, t5, t6, t7, t8, t9, List.length_map])) ?_) | exact Sub.refl _ | omega)
      refine fin_L [2000042] ?_ ?_ rfl ?_
      repeat' (first | (conv in hold _ => simp (disch := omega) only [go_sem, ta, List.map_append, List.map_cons]) | exact True.intro | exact Sub.refl _ | omega)
      refine congrArg (D.row 1) ?_
      have hren : ∀ l : List (List V), D.renL [2000042] (l.map rowD) = l.map rowD := rows_ren [2000042]
      have e5 : List.map rowD (rs.take lo) ++ D.sl 2 (List.map vD r) :: List.map rowD (rs.drop lo) = (rs.take lo ++ r :: rs.drop lo).map rowD := by rw [List.map_append, List.map_cons]; rfl
      rw [e5, hren, ← e5, List.append_assoc]
      rfl
theorem tableOf_any (w : Int) (k : Nat) (hk : k < 2000) (rs : List (List V)) (hl : rs.length ≤ 400) (hs : ∀ r, r ∈ rs → r.length = k) : Does Try.prog 15 [] [I w, rowsD rs] (.agg [I w, .own 1000000 1 rs.length]) [.row 1 ((srtA rs).map rowD)] := by
  refine does c_spec_tableOf mixed (Nat.le_of_ble_eq_true rfl) 0 rfl ?_
  conv => arg 3; whnf
  repeat' (first | with_reducible refine acc_none ?_ | (conv in hold _ => simp (disch := omega) only [go_sem]) | refine Stp.go ?_ | (with_reducible first | refine it_pos rfl ?_ | refine it_neg (by decide) ?_ | refine st_nil rfl ?_ | refine s_op ?_ ?_ | exact True.intro) | ((with_reducible first | refine dw_reg0 ?_ | refine dw_regB ?_); (conv => arg 3; whnf)) | (refine Spl.go (fun hq he => ?_) (fun hq he => ?_) <;> first | (exfalso; clear hq; omega) | ((try (first | (conv => arg 8; simp only [hq]) | (conv => arg 4; simp only [hq]))); clear hq)) | ((with_reducible first | refine c_split (fun hq => ?_) (fun hq => ?_) | refine q_split (fun hq => ?_) (fun hq => ?_)) <;> (try (first | (conv => arg 8; simp only [hq]) | (conv => arg 4; simp only [hq])))) | (with_reducible refine fin_0 ?_ (by first | rfl | (conv => lhs; simp only [go_sem])) ?_) | exact Sub.refl _ | omega)
  refine dw_for (c := 3) (l := fun i => [(0, I w), (1, rowsD rs), (4, .ref 1000000 0), (5, .ref 1000001 0), (6, I i), (1000000, .obj [I 0, .nul]), (1000001, .obj [I w, .own 1000002 1 i]), (1000002, .row 1 ((srtA (rs.take i)).map rowD))]) rs.length (fun _ => True) 0 trivial ((wk_rowO 2000005 2000090 1 1 (by decide) (by decide) (by decide) rfl rfl rfl).trans (Wk.list [2000004, 2000005, 2000090] rfl rfl ?_)) (fun i hi _ => ?_) (Nat.zero_le _)
  · repeat' (first | (conv in hold _ => simp (disch := omega) only [go_sem]) | exact True.intro | exact Sub.refl _ | omega)
    exact ⟨rfl, rfl⟩
  · have htl : (srtA (rs.take i)).length = i := by rw [srtA_len]; exact take_len hi
    have htk : ((srtA (rs.take i)).map rowD).take i = (srtA (rs.take i)).map rowD := List.take_of_length_le (by rw [List.length_map, htl]; exact Nat.le_refl _)
    rcases at_or_end hi with ⟨x, hx, hlt⟩ | rfl
    · have hnx := srtA_next hx
      have hts : ∀ r, r ∈ srtA (rs.take i) → r.length = k := fun r hr => hs r (List.mem_of_mem_take ((srtA_perm _).mem_iff.1 hr))
      have hin := insertRow_any (srtA (rs.take i)) x k hk (by omega) (fun r hr => by
        rcases List.mem_cons.1 hr with rfl | hr
        · exact hs r (List.mem_of_getElem? hx)
        · exact hts r hr)
      rw [← hnx] at hin
      have hnl : (srtA (rs.take (i + 1))).length = i + 1 := by rw [srtA_len]; exact take_len (by omega)
      rw [hnl] at hin
      repeat' ((fail_if_success (with_reducible first | refine s_call ?_ | refine s_cal ?_ | refine s_inv ?_)); first | with_reducible refine acc_none ?_ | (conv in hold _ => simp (disch := omega) only [go_sem, List.getElem?_map, hx, Option.map_some]) | refine Stp.go ?_ | (with_reducible first | refine it_pos rfl ?_ | refine it_neg (by decide) ?_ | refine st_nil rfl ?_ | refine s_op ?_ ?_ | exact True.intro) | ((with_reducible first | refine dw_reg0 ?_ | refine dw_regB ?_); (conv => arg 3; whnf)) | (refine Spl.go (fun hq he => ?_) (fun hq he => ?_) <;> first | (exfalso; clear hq; omega) | ((try (first | (conv => arg 8; simp only [hq]) | (conv => arg 4; simp only [hq]))); clear hq)) | ((with_reducible first | refine c_split (fun hq => ?_) (fun hq => ?_) | refine q_split (fun hq => ?_) (fun hq => ?_)) <;> (try (first | (conv => arg 8; simp only [hq]) | (conv => arg 4; simp only [hq])))) | (with_reducible refine fin_0 ?_ (by first | rfl | (conv => lhs; simp only [go_sem, List.getElem?_map, hx, Option.map_some])) ?_) | exact Sub.refl _ | omega)
      refine s_pre (pre_frz (t := 20) (g := 1000002) (by decide) (by decide) rfl ?_) ?_
      rotate_left
      repeat' (first | with_reducible refine acc_none ?_ | (conv in hold _ => simp (disch := omega) only [go_sem, htl, htk, List.length_map, Nat.le_refl, List.getElem?_map, hx, Option.map_some]) | refine Stp.go ?_ | (with_reducible first | refine it_pos rfl ?_ | refine it_neg (by decide) ?_ | refine st_nil rfl ?_ | refine s_op ?_ ?_ | exact True.intro) | ((with_reducible first | refine dw_reg0 ?_ | refine dw_regB ?_); (conv => arg 3; whnf)) | (refine Spl.go (fun hq he => ?_) (fun hq he => ?_) <;> first | (exfalso; clear hq; omega) | ((try (first | (conv => arg 8; simp only [hq]) | (conv => arg 4; simp only [hq]))); clear hq)) | ((with_reducible first | refine c_split (fun hq => ?_) (fun hq => ?_) | refine q_split (fun hq => ?_) (fun hq => ?_)) <;> (try (first | (conv => arg 8; simp only [hq]) | (conv => arg 4; simp only [hq])))) | (with_reducible refine fin_0 ?_ (by first | rfl | (conv => lhs; simp only [go_sem, htl, htk, List.length_map, Nat.le_refl, List.getElem?_map, hx, Option.map_some])) ?_) | exact Sub.refl _ | omega)
      refine c_doesR [3000001] (hin) (callOK_of rfl (Nat.le_of_ble_eq_true rfl) rfl ?_ ?_) ?_ ?_
      · repeat' (first | (conv in hold _ => simp (disch := omega) only [go_sem, List.getElem?_map, hx, Option.map_some]) | exact True.intro | exact Sub.refl _ | omega)
      · repeat' (first | (conv in hold _ => simp (disch := omega) only [go_sem, List.getElem?_map, hx, Option.map_some]) | exact True.intro | exact Sub.refl _ | omega)
      · ((conv => rhs; simp (disch := omega) only [go_sem, List.getElem?_map, hx, Option.map_some]); try rfl)
      repeat' (first | with_reducible refine acc_none ?_ | (conv in hold _ => simp (disch := omega) only [go_sem, List.getElem?_map, hx, Option.map_some]) | refine Stp.go ?_ | (with_reducible first | refine it_pos rfl ?_ | refine it_neg (by decide) ?_ | refine st_nil rfl ?_ | refine s_op ?_ ?_ | exact True.intro) | ((with_reducible first | refine dw_reg0 ?_ | refine dw_regB ?_); (conv => arg 3; whnf)) | (refine Spl.go (fun hq he => ?_) (fun hq he => ?_) <;> first | (exfalso; clear hq; omega) | ((try (first | (conv => arg 8; simp only [hq]) | (conv => arg 4; simp only [hq]))); clear hq)) | ((with_reducible first | refine c_split (fun hq => ?_) (fun hq => ?_) | refine q_split (fun hq => ?_) (fun hq => ?_)) <;> (try (first | (conv => arg 8; simp only [hq]) | (conv => arg 4; simp only [hq])))) | (with_reducible refine fin_0 ?_ (by first | rfl | (conv => lhs; simp only [go_sem, List.getElem?_map, hx, Option.map_some])) ?_) | exact Sub.refl _ | omega)
      · refine ⟨hlt, trivial, Wk.list [1000000, 1000001, 3000001] rfl rfl ?_⟩
        repeat' (first | (conv in hold _ => simp (disch := omega) only [go_sem]) | exact True.intro | exact Sub.refl _ | omega)
      · exact rows_pur _
    · have e1 : rs.take rs.length = rs := List.take_length
      repeat' (first | with_reducible refine acc_none ?_ | (conv in hold _ => simp (disch := omega) only [go_sem, e1]) | refine Stp.go ?_ | (with_reducible first | refine it_pos rfl ?_ | refine it_neg (by decide) ?_ | refine st_nil rfl ?_ | refine s_op ?_ ?_ | exact True.intro) | ((with_reducible first | refine dw_reg0 ?_ | refine dw_regB ?_); (conv => arg 3; whnf)) | (refine Spl.go (fun hq he => ?_) (fun hq he => ?_) <;> first | (exfalso; clear hq; omega) | ((try (first | (conv => arg 8; simp only [hq]) | (conv => arg 4; simp only [hq]))); clear hq)) | ((with_reducible first | refine c_split (fun hq => ?_) (fun hq => ?_) | refine q_split (fun hq => ?_) (fun hq => ?_)) <;> (try (first | (conv => arg 8; simp only [hq]) | (conv => arg 4; simp only [hq])))) | (with_reducible refine fin_0 ?_ (by first | rfl | (conv => lhs; simp only [go_sem, e1])) ?_) | exact Sub.refl _ | omega)
      refine fin_L [1000002] ?_ ?_ rfl ?_
      repeat' (first | (conv in hold _ => simp (disch := omega) only [go_sem, e1]) | exact True.intro | exact Sub.refl _ | omega)
end Go.Proofs.Ytjjcokmnebkbiaa
