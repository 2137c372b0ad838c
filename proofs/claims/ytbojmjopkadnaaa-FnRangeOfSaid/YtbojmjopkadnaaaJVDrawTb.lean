/-
  Rows of valid tables are sorted. Plain lemmas.
-/
import Derived.Test.YtbojmjopkadnaaaJVCntM
import Derived.Test.YtbojmjopkadnaaaDca
import Derived.Test.YtbojmjopkadnaaaDcc
import Derived.Test.YtbojmjopkadnaaaJVDrawT
import Derived.Test.YtbojmjopkadnaaaKVDrawE
import Derived.Test.YtbojmjopkadnaaaVLib
import Derived.Test.YtbojmjopkadnaaaDcb
import Derived.Test.YtbojmjopkadnaaaDcu
import Derived.Test.YtbojmjopkadnaaaVBox
set_option linter.unusedVariables false
namespace Go.Proofs.Ytbojmjopkadnaaa
open Go.RowKit

theorem asc_of_tOk {t : Ta} (h : tOk t) : Asc t.rows := by
  refine List.pairwise_iff_getElem.2 (fun i j hi hj hij => ?_)
  have := tOk_le h (j - i) i t.rows[i] t.rows[j] (List.getElem?_eq_getElem hi) (by rw [show i + (j - i) = j by omega]; exact List.getElem?_eq_getElem hj)
  exact this
theorem rsw_of_tOk {t : Ta} (h : tOk t) : RsW t.w.toNat t.rows := fun r hr => by
  obtain ⟨i, hi⟩ := List.mem_iff_getElem?.1 hr
  have := h.2 i r hi
  exact ⟨by have := this.1.2; omega, this.1.1.2⟩
theorem tOk_of {w : Nat} {rs : List (List V)} (hw : 1 ≤ w ∧ w ≤ 6) (hl : rs.length ≤ 400) (h : RsW w rs) (ha : Asc rs) : tOk ⟨w, rs⟩ := by
  refine ⟨⟨⟨by show (1 : Int) ≤ w; omega, by show (w : Int) ≤ 6; omega⟩, hl⟩, fun i r hr => ?_⟩
  have hm := h r (List.mem_of_getElem? hr)
  refine ⟨⟨⟨⟨by omega, by omega⟩, hm.2⟩, by show (r.length : Int) = w; omega⟩, fun q h0 hq => ?_⟩
  exact asc_at ha (show i - 1 < i by omega) hq hr
end Go.Proofs.Ytbojmjopkadnaaa
set_option linter.unusedVariables false
namespace Go.Proofs.Ytbojmjopkadnaaa
open Go.RowKit

theorem cntE_perm {row : List V} {l m : List (List V)} (h : l.Perm m) : cntE row l = cntE row m := by
  unfold cntE
  exact (h.filter _).length_eq
theorem cntE_pos {row : List V} {l : List (List V)} : 0 < cntE row l ↔ row ∈ l := by
  unfold cntE
  rw [List.length_pos_iff_exists_mem]
  constructor
  · rintro ⟨a, ha⟩
    have h := List.mem_filter.1 ha
    have e : a = row := cmpR_eq (by simpa using h.2)
    exact e ▸ h.1
  · intro h
    exact ⟨row, List.mem_filter.2 ⟨h, by simpa using cmpR_self row⟩⟩
theorem cntE_same (row : List V) (l : List (List V)) : cntE row (row :: l) = cntE row l + 1 := by
  unfold cntE
  rw [List.filter_cons, if_pos (by simpa using cmpR_self row), List.length_cons]
theorem cntE_ne {row x : List V} (h : x ≠ row) (l : List (List V)) : cntE row (x :: l) = cntE row l := by
  unfold cntE
  rw [List.filter_cons, if_neg (fun e => h (cmpR_eq (by simpa using e)))]
theorem cntE_two' (row x : List V) (l m : List (List V)) (h : cntE row (x :: l) = cntE row (x :: m)) : cntE row l = cntE row m := by
  by_cases e : x = row
  · subst e
    rw [cntE_same, cntE_same] at h
    omega
  · rwa [cntE_ne e, cntE_ne e] at h
theorem perm_of_cnt : ∀ {l m : List (List V)}, (∀ r, cntE r l = cntE r m) → l.Perm m
  | [], m, h => by
    cases m with
    | nil => exact List.Perm.refl _
    | cons x m =>
      have := h x
      rw [cntE_same] at this
      have h0 : cntE x [] = 0 := rfl
      omega
  | x :: l, m, h => by
    have hx : x ∈ m := by
      rw [← cntE_pos, ← h x, cntE_same]
      omega
    obtain ⟨s, t, rfl⟩ := List.append_of_mem hx
    have hp : (s ++ x :: t).Perm (x :: (s ++ t)) := List.perm_middle
    refine List.Perm.trans (List.Perm.cons x (perm_of_cnt fun r => ?_)) hp.symm
    have := h r
    rw [cntE_perm hp] at this
    exact cntE_two' r x l (s ++ t) this
/-- Sorted lists with the same counts are equal. -/
theorem asc_unique {w : Nat} {l m : List (List V)} (hm : RsW w m) (al : Asc l) (am : Asc m) (h : ∀ r, cntE r l = cntE r m) : l = m := by
  rw [srt_unique hm (perm_of_cnt h) al, srt_of_asc hm am]
theorem asc_sub {l m : List (List V)} (h : l.Sublist m) (am : Asc m) : Asc l := am.sublist h
theorem rsw_sub {w : Nat} {l m : List (List V)} (h : l.Sublist m) (hm : RsW w m) : RsW w l := fun r hr => hm r (h.subset hr)
theorem rsw_app {w : Nat} {l m : List (List V)} (hl : RsW w l) (hm : RsW w m) : RsW w (l ++ m) := fun r hr => by
  rcases List.mem_append.1 hr with h | h
  · exact hl r h
  · exact hm r h
theorem cntE_srt (row : List V) (l : List (List V)) : cntE row (srt l) = cntE row l := cntE_perm (srt_perm l)
theorem nil_of_cnt {l : List (List V)} (h : ∀ r, cntE r l = 0) : l = [] := by
  cases l with
  | nil => rfl
  | cons x l =>
    have := h x
    rw [cntE_same] at this
    omega
theorem cnt_sum_len {l m : List (List V)} (h : ∀ r, cntE r l = cntE r m) : l.length = m.length := (perm_of_cnt h).length_eq
end Go.Proofs.Ytbojmjopkadnaaa
set_option maxHeartbeats 4000000
set_option maxRecDepth 100000
namespace Go.Proofs.Ytbojmjopkadnaaa
open Go.RowKit

theorem copyExpr_ok : ∀ e : E, esz e < 1000000 → Does Try.prog 60 [] [eD e] (eD e) [] := by
  refine E.ind (fun e ih h => ?_)
  rw [esz_eq] at h
  have hlen := eszL_len e.ks
  refine does0 c_spec_copyExpr mixed (Nat.le_of_ble_eq_true rfl) ?_
  conv => arg 3; whnf
  repeat' (first | with_reducible refine acc_none ?_ | (conv in hold _ => simp (disch := omega) only [go_sem]) | refine Stp.go ?_ | (with_reducible first | refine it_pos rfl ?_ | refine it_neg (by decide) ?_ | refine st_nil rfl ?_ | refine s_op ?_ ?_ | exact True.intro) | ((with_reducible first | refine dw_reg0 ?_ | refine dw_regB ?_); (conv => arg 3; whnf)) | (refine Spl.go (fun hq he => ?_) (fun hq he => ?_) <;> first | (exfalso; clear hq; omega) | ((try (first | (conv => arg 8; simp only [hq]) | (conv => arg 4; simp only [hq]))); clear hq)) | ((with_reducible first | refine c_split (fun hq => ?_) (fun hq => ?_) | refine q_split (fun hq => ?_) (fun hq => ?_)) <;> (try (first | (conv => arg 8; simp only [hq]) | (conv => arg 4; simp only [hq])))) | (with_reducible refine fin_0 ?_ (by first | rfl | (conv => lhs; simp only [go_sem])) ?_) | exact Sub.refl _ | omega)
  refine dw_for (c := 4) (l := fun i => [(1, .ref 1000000 0), (2, .ref 1000001 0), (3, .ref 1000002 0), (4, I i), (1000000, .obj [I e.k, I e.c, Bo e.v.b, I e.v.n, .sl 5 (e.ks.map eD)]), (1000001, .obj [I 0, I 0, Bo false, I 0, .nul]), (1000002, .obj [I e.k, I e.c, Bo e.v.b, I e.v.n, .own 1000003 5 i]), (1000003, .row 5 ((e.ks.take i).map eD))]) e.ks.length (fun _ => True) 0 trivial ((wk_rowO 2000003 2000028 5 4 (by decide) (by decide) (by decide) rfl rfl rfl).trans (Wk.list [2000001, 2000002, 2000003, 2000028] rfl rfl ?_)) (fun i hi _ => ?_) (Nat.zero_le _)
  · repeat' (first | (conv in hold _ => simp (disch := omega) only [go_sem]) | exact True.intro | exact Sub.refl _ | omega)
    exact rfl
  · have hlt := take_len (vs := e.ks) (i := i) (by omega)
    have hmt := take_map eD (vs := e.ks) (i := i) (by omega)
    rcases at_or_end hi with ⟨x, hx, hlt1⟩ | rfl
    · have hix := ih x (List.mem_of_getElem? hx) (by have := eszL_mem (List.mem_of_getElem? hx); omega)
      have hnx := take_next hx
      repeat' (first | with_reducible refine acc_none ?_ | (conv in hold _ => simp (disch := omega) only [go_sem, List.getElem?_map, hx, Option.map_some]) | refine Stp.go ?_ | (with_reducible first | refine it_pos rfl ?_ | refine it_neg (by decide) ?_ | refine st_nil rfl ?_ | refine s_op ?_ ?_ | exact True.intro) | ((with_reducible first | refine dw_reg0 ?_ | refine dw_regB ?_); (conv => arg 3; whnf)) | (refine Spl.go (fun hq he => ?_) (fun hq he => ?_) <;> first | (exfalso; clear hq; omega) | ((try (first | (conv => arg 8; simp only [hq]) | (conv => arg 4; simp only [hq]))); clear hq)) | ((with_reducible first | refine c_split (fun hq => ?_) (fun hq => ?_) | refine q_split (fun hq => ?_) (fun hq => ?_)) <;> (try (first | (conv => arg 8; simp only [hq]) | (conv => arg 4; simp only [hq])))) | (with_reducible refine fin_0 ?_ (by first | rfl | (conv => lhs; simp only [go_sem, List.getElem?_map, hx, Option.map_some])) ?_) | exact Sub.refl _ | omega)
      refine c_doesE (hix) ?_ ?_ ?_
      · ((try (conv => rhs; simp (disch := omega) only [go_sem])); try rfl)
      · first | rfl | (conv => lhs; simp only [go_sem])
      repeat' (first | with_reducible refine acc_none ?_ | (conv in hold _ => simp (disch := omega) only [go_sem]) | refine Stp.go ?_ | (with_reducible first | refine it_pos rfl ?_ | refine it_neg (by decide) ?_ | refine st_nil rfl ?_ | refine s_op ?_ ?_ | exact True.intro) | ((with_reducible first | refine dw_reg0 ?_ | refine dw_regB ?_); (conv => arg 3; whnf)) | (refine Spl.go (fun hq he => ?_) (fun hq he => ?_) <;> first | (exfalso; clear hq; omega) | ((try (first | (conv => arg 8; simp only [hq]) | (conv => arg 4; simp only [hq]))); clear hq)) | ((with_reducible first | refine c_split (fun hq => ?_) (fun hq => ?_) | refine q_split (fun hq => ?_) (fun hq => ?_)) <;> (try (first | (conv => arg 8; simp only [hq]) | (conv => arg 4; simp only [hq])))) | (with_reducible refine fin_0 ?_ (by first | rfl | (conv => lhs; simp only [go_sem])) ?_) | exact Sub.refl _ | omega)
      refine ⟨hlt1, trivial, Wk.list [1000000, 1000001, 1000002, 2000028] rfl rfl ?_⟩
      repeat' (first | (conv in hold _ => simp (disch := omega) only [go_sem]) | exact True.intro | exact Sub.refl _ | omega)
      rw [hmt, hnx, List.map_append, List.map_cons, List.map_nil, eD_eq x]
    · have e1 : e.ks.take e.ks.length = e.ks := List.take_length
      have e2 : (e.ks.map eD).take e.ks.length = e.ks.map eD := List.take_of_length_le (by rw [List.length_map]; exact Nat.le_refl _)
      repeat' (first | with_reducible refine acc_none ?_ | (conv in hold _ => simp (disch := omega) only [go_sem, e1]) | refine Stp.go ?_ | (with_reducible first | refine it_pos rfl ?_ | refine it_neg (by decide) ?_ | refine st_nil rfl ?_ | refine s_op ?_ ?_ | exact True.intro) | ((with_reducible first | refine dw_reg0 ?_ | refine dw_regB ?_); (conv => arg 3; whnf)) | (refine Spl.go (fun hq he => ?_) (fun hq he => ?_) <;> first | (exfalso; clear hq; omega) | ((try (first | (conv => arg 8; simp only [hq]) | (conv => arg 4; simp only [hq]))); clear hq)) | ((with_reducible first | refine c_split (fun hq => ?_) (fun hq => ?_) | refine q_split (fun hq => ?_) (fun hq => ?_)) <;> (try (first | (conv => arg 8; simp only [hq]) | (conv => arg 4; simp only [hq])))) | exact Sub.refl _ | omega)
      refine fin_wk (wk_frzO 1000001 1000003 (by decide) (by decide) rfl (by decide) rfl ?_) ?_
      rotate_left
      (conv in hold _ => simp (disch := omega) only [go_sem, e2])
      · refine fin_L [] ?_ ?_ rfl ?_
        repeat' (first | (conv in hold _ => simp (disch := omega) only [go_sem]) | exact True.intro | exact Sub.refl _ | omega)
      · exact exprs_pur _
end Go.Proofs.Ytbojmjopkadnaaa
set_option maxHeartbeats 4000000
set_option maxRecDepth 100000
set_option linter.unusedVariables false
set_option linter.unusedSimpArgs false
namespace Go.Proofs.Ytbojmjopkadnaaa
open Go.RowKit

theorem tableOf_own (w : Int) (k : Nat) (hk : k < 1000) (rs : List (List V)) (hl : rs.length ≤ 400) (hs : RsW k rs) : Does Try.prog 77 [] [I w, rowsD rs] (.agg [I w, .own 1000000 1 rs.length]) [.row 1 ((srt rs).map rowD)] := by
  refine does c_spec_tableOf mixed (Nat.le_of_ble_eq_true rfl) 0 rfl ?_
  conv => arg 3; whnf
  repeat' (first | with_reducible refine acc_none ?_ | (conv in hold _ => simp (disch := omega) only [go_sem]) | refine Stp.go ?_ | (with_reducible first | refine it_pos rfl ?_ | refine it_neg (by decide) ?_ | refine st_nil rfl ?_ | refine s_op ?_ ?_ | exact True.intro) | ((with_reducible first | refine dw_reg0 ?_ | refine dw_regB ?_); (conv => arg 3; whnf)) | (refine Spl.go (fun hq he => ?_) (fun hq he => ?_) <;> first | (exfalso; clear hq; omega) | ((try (first | (conv => arg 8; simp only [hq]) | (conv => arg 4; simp only [hq]))); clear hq)) | ((with_reducible first | refine c_split (fun hq => ?_) (fun hq => ?_) | refine q_split (fun hq => ?_) (fun hq => ?_)) <;> (try (first | (conv => arg 8; simp only [hq]) | (conv => arg 4; simp only [hq])))) | (with_reducible refine fin_0 ?_ (by first | rfl | (conv => lhs; simp only [go_sem])) ?_) | exact Sub.refl _ | omega)
  refine dw_for (c := 3) (l := fun i => [(0, I w), (1, rowsD rs), (4, .ref 1000000 0), (5, .ref 1000001 0), (6, I i), (1000000, .obj [I 0, .nul]), (1000001, .obj [I w, .own 1000002 1 i]), (1000002, .row 1 ((srt (rs.take i)).map rowD))]) rs.length (fun _ => True) 0 trivial ((wk_rowO 2000005 2000090 1 1 (by decide) (by decide) (by decide) rfl rfl rfl).trans (Wk.list [2000004, 2000005, 2000090] rfl rfl ?_)) (fun i hi _ => ?_) (Nat.zero_le _)
  · repeat' (first | (conv in hold _ => simp (disch := omega) only [go_sem]) | exact True.intro | exact Sub.refl _ | omega)
    exact ⟨rfl, rfl⟩
  · have htl : (srt (rs.take i)).length = i := by rw [srt_len]; exact take_len hi
    have htk : ((srt (rs.take i)).map rowD).take i = (srt (rs.take i)).map rowD := List.take_of_length_le (by rw [List.length_map, htl]; exact Nat.le_refl _)
    rcases at_or_end hi with ⟨x, hx, hlt⟩ | rfl
    · have hnx := srt_next hx
      have hts : RsW k (srt (rs.take i)) := srt_rsw (hs.take i)
      have hin := insertRow_own (srt (rs.take i)) x k hk (by omega) (fun r hr => by
        rcases List.mem_cons.1 hr with rfl | hr
        · exact hs r (List.mem_of_getElem? hx)
        · exact hts r hr) (srt_asc (hs.take i))
      rw [← hnx] at hin
      have hnl : (srt (rs.take (i + 1))).length = i + 1 := by rw [srt_len]; exact take_len (by omega)
      rw [hnl] at hin
      repeat' ((fail_if_success (with_reducible first | refine s_call ?_ | refine s_cal ?_ | refine s_inv ?_)); first | with_reducible refine acc_none ?_ | (conv in hold _ => simp (disch := omega) only [go_sem, List.getElem?_map, hx, Option.map_some]) | refine Stp.go ?_ | (with_reducible first | refine it_pos rfl ?_ | refine it_neg (by decide) ?_ | refine st_nil rfl ?_ | refine s_op ?_ ?_ | exact True.intro) | ((with_reducible first | refine dw_reg0 ?_ | refine dw_regB ?_); (conv => arg 3; whnf)) | (refine Spl.go (fun hq he => ?_) (fun hq he => ?_) <;> first | (exfalso; clear hq; omega) | ((try (first | (conv => arg 8; simp only [hq]) | (conv => arg 4; simp only [hq]))); clear hq)) | ((with_reducible first | refine c_split (fun hq => ?_) (fun hq => ?_) | refine q_split (fun hq => ?_) (fun hq => ?_)) <;> (try (first | (conv => arg 8; simp only [hq]) | (conv => arg 4; simp only [hq])))) | (with_reducible refine fin_0 ?_ (by first | rfl | (conv => lhs; simp only [go_sem, List.getElem?_map, hx, Option.map_some])) ?_) | exact Sub.refl _ | omega)
      refine s_pre (pre_frz (t := 20) (g := 1000002) (by decide) (by decide) rfl ?_) ?_
      rotate_left
      repeat' (first | with_reducible refine acc_none ?_ | (conv in hold _ => simp (disch := omega) only [go_sem, htl, htk, List.length_map, Nat.le_refl, List.getElem?_map, hx, Option.map_some]) | refine Stp.go ?_ | (with_reducible first | refine it_pos rfl ?_ | refine it_neg (by decide) ?_ | refine st_nil rfl ?_ | refine s_op ?_ ?_ | exact True.intro) | ((with_reducible first | refine dw_reg0 ?_ | refine dw_regB ?_); (conv => arg 3; whnf)) | (refine Spl.go (fun hq he => ?_) (fun hq he => ?_) <;> first | (exfalso; clear hq; omega) | ((try (first | (conv => arg 8; simp only [hq]) | (conv => arg 4; simp only [hq]))); clear hq)) | ((with_reducible first | refine c_split (fun hq => ?_) (fun hq => ?_) | refine q_split (fun hq => ?_) (fun hq => ?_)) <;> (try (first | (conv => arg 8; simp only [hq]) | (conv => arg 4; simp only [hq])))) | (with_reducible refine fin_0 ?_ (by first | rfl | (conv => lhs; simp only [go_sem, htl, htk, List.length_map, Nat.le_refl, List.getElem?_map, hx, Option.map_some])) ?_) | exact Sub.refl _ | omega)
      refine c_doesR [3000001] (hin) (callOK_of rfl (Nat.le_of_ble_eq_true rfl) rfl ?_ ?_) ?_ ?_
      · repeat' (first | (conv in hold _ => simp (disch := omega) only [go_sem, List.getElem?_map, hx, Option.map_some]) | exact True.intro | exact Sub.refl _ | omega)
      · repeat' (first | (conv in hold _ => simp (disch := omega) only [go_sem, List.getElem?_map, hx, Option.map_some]) | exact True.intro | exact Sub.refl _ | omega)
      · ((conv => rhs; simp (disch := omega) only [go_sem, List.getElem?_map, hx, Option.map_some]); try rfl)
      repeat' (first | with_reducible refine acc_none ?_ | (conv in hold _ => simp (disch := omega) only [go_sem, List.getElem?_map, hx, Option.map_some]) | refine Stp.go ?_ | (with_reducible first | refine it_pos rfl ?_ | refine it_neg (by decide) ?_ | refine st_nil rfl ?_ | refine s_op ?_ ?_ | exact True.intro) | ((with_reducible first | refine dw_reg0 ?_ | refine dw_regB ?_); (conv => arg 3; whnf)) | (refine Spl.go (fun hq he => ?_) (fun hq he => ?_) <;> first | (exfalso; clear hq; omega) | ((try (first | (conv => arg 8; simp only [hq]) | (conv => arg 4; simp only [hq]))); clear hq)) | ((with_reducible first | refine c_split (fun hq => ?_) (fun hq => ?_) | refine q_split (fun hq => ?_) (fun hq => ?_)) <;> (try (first | (conv => arg 8; simp only [hq]) | (conv => arg 4; simp only [hq])))) | (with_reducible refine fin_0 ?_ (by first | rfl | (conv => lhs; simp only [go_sem, List.getElem?_map, hx, Option.map_some])) ?_) | exact Sub.refl _ | omega)
      · refine ⟨hlt, trivial, Wk.list [1000000, 1000001, 3000001] rfl rfl ?_⟩
        repeat' (first | (conv in hold _ => simp (disch := omega) only [go_sem]) | exact True.intro | exact Sub.refl _ | omega)
      · exact rows_pur _
    · have e1 : rs.take rs.length = rs := List.take_length
      repeat' (first | with_reducible refine acc_none ?_ | (conv in hold _ => simp (disch := omega) only [go_sem, e1]) | refine Stp.go ?_ | (with_reducible first | refine it_pos rfl ?_ | refine it_neg (by decide) ?_ | refine st_nil rfl ?_ | refine s_op ?_ ?_ | exact True.intro) | ((with_reducible first | refine dw_reg0 ?_ | refine dw_regB ?_); (conv => arg 3; whnf)) | (refine Spl.go (fun hq he => ?_) (fun hq he => ?_) <;> first | (exfalso; clear hq; omega) | ((try (first | (conv => arg 8; simp only [hq]) | (conv => arg 4; simp only [hq]))); clear hq)) | ((with_reducible first | refine c_split (fun hq => ?_) (fun hq => ?_) | refine q_split (fun hq => ?_) (fun hq => ?_)) <;> (try (first | (conv => arg 8; simp only [hq]) | (conv => arg 4; simp only [hq])))) | (with_reducible refine fin_0 ?_ (by first | rfl | (conv => lhs; simp only [go_sem, e1])) ?_) | exact Sub.refl _ | omega)
      refine fin_L [1000002] ?_ ?_ rfl ?_
      repeat' (first | (conv in hold _ => simp (disch := omega) only [go_sem, e1]) | exact True.intro | exact Sub.refl _ | omega)
theorem tableOf_big (w : Int) (rs : List (List V)) (hl : ¬ rs.length ≤ 400) (hl2 : rs.length < 2000000) : Does Try.prog 77 [] [I w, rowsD rs] (.agg [I w, .nul]) [] := by
  refine does0 c_spec_tableOf mixed (Nat.le_of_ble_eq_true rfl) ?_
  conv => arg 3; whnf
  repeat' (first | with_reducible refine acc_none ?_ | (conv in hold _ => simp (disch := omega) only [go_sem]) | refine Stp.go ?_ | (with_reducible first | refine it_pos rfl ?_ | refine it_neg (by decide) ?_ | refine st_nil rfl ?_ | refine s_op ?_ ?_ | exact True.intro) | ((with_reducible first | refine dw_reg0 ?_ | refine dw_regB ?_); (conv => arg 3; whnf)) | (refine Spl.go (fun hq he => ?_) (fun hq he => ?_) <;> first | (exfalso; clear hq; omega) | ((try (first | (conv => arg 8; simp only [hq]) | (conv => arg 4; simp only [hq]))); clear hq)) | ((with_reducible first | refine c_split (fun hq => ?_) (fun hq => ?_) | refine q_split (fun hq => ?_) (fun hq => ?_)) <;> (try (first | (conv => arg 8; simp only [hq]) | (conv => arg 4; simp only [hq])))) | (with_reducible refine fin_0 ?_ (by first | rfl | (conv => lhs; simp only [go_sem])) ?_) | exact Sub.refl _ | omega)
theorem randomRow_fz {bs : List Nat} (hs : Src bs) (n : Nat) (hn : n < 1000) (p : Nat) (hp : p < 800000000) : ∃ (vs : List V) (q : Nat),
    (Does Try.prog 76 [rdD bs p] [.ref 1000000 0, I n] (rowD vs) [rdD bs q] ∧ vs.length = n ∧ ∀ v, v ∈ vs → v.ok) ∧ p ≤ q ∧ q ≤ p + n * 2 := by
  obtain ⟨vs, ps, hl, h0, hd, hp0, hp1⟩ := draws (fun p v q => Does Try.prog 57 [rdD bs p] [.ref 1000000 0] (vD v) [rdD bs q] ∧ v.ok) 900000000 2 (fun p hp => randomValue_ok hs p hp) n p (by omega)
  refine ⟨vs, ps n, ⟨?_, hl, fun v hv => ?_⟩, hp0, hp1⟩
  · refine does c_spec_randomRow mixed (Nat.le_of_ble_eq_true rfl) 1 rfl ?_
    conv => arg 3; whnf
    repeat' (first | with_reducible refine acc_none ?_ | (conv in hold _ => simp (disch := omega) only [go_sem]) | refine Stp.go ?_ | (with_reducible first | refine it_pos rfl ?_ | refine it_neg (by decide) ?_ | refine st_nil rfl ?_ | refine s_op ?_ ?_ | exact True.intro) | ((with_reducible first | refine dw_reg0 ?_ | refine dw_regB ?_); (conv => arg 3; whnf)) | (refine Spl.go (fun hq he => ?_) (fun hq he => ?_) <;> first | (exfalso; clear hq; omega) | ((try (first | (conv => arg 8; simp only [hq]) | (conv => arg 4; simp only [hq]))); clear hq)) | ((with_reducible first | refine c_split (fun hq => ?_) (fun hq => ?_) | refine q_split (fun hq => ?_) (fun hq => ?_)) <;> (try (first | (conv => arg 8; simp only [hq]) | (conv => arg 4; simp only [hq])))) | (with_reducible refine fin_0 ?_ (by first | rfl | (conv => lhs; simp only [go_sem])) ?_) | exact Sub.refl _ | omega)
    refine dw_for (c := 2) (l := fun i => [(0, .ref 1000000 0), (1, I n), (5, .own 1000001 2 i), (6, I i), (1000000, rdD bs (ps i)), (1000001, .row 2 ((vs.take i).map vD))]) n (fun _ => True) 0 trivial ((wk_row 5 2000005 2 (by decide) (by decide) rfl rfl).trans (Wk.list [1000000, 2000005] rfl rfl ?_)) (fun i hi _ => ?_) (Nat.zero_le n)
    · rw [h0]
      repeat' (first | (conv in hold _ => simp (disch := omega) only [go_sem]) | exact True.intro | exact Sub.refl _ | omega)
      exact rfl
    · have hlt := take_len (vs := vs) (i := i) (by omega)
      have hmt := take_map vD (vs := vs) (i := i) (by omega)
      by_cases hin : i < n
      · obtain ⟨v, hv⟩ : ∃ v, vs[i]? = some v := ⟨vs[i], List.getElem?_eq_getElem (by omega)⟩
        have hnx := take_next hv
        repeat' (first | with_reducible refine acc_none ?_ | (conv in hold _ => simp (disch := omega) only [go_sem]) | refine Stp.go ?_ | (with_reducible first | refine it_pos rfl ?_ | refine it_neg (by decide) ?_ | refine st_nil rfl ?_ | refine s_op ?_ ?_ | exact True.intro) | ((with_reducible first | refine dw_reg0 ?_ | refine dw_regB ?_); (conv => arg 3; whnf)) | (refine Spl.go (fun hq he => ?_) (fun hq he => ?_) <;> first | (exfalso; clear hq; omega) | ((try (first | (conv => arg 8; simp only [hq]) | (conv => arg 4; simp only [hq]))); clear hq)) | ((with_reducible first | refine c_split (fun hq => ?_) (fun hq => ?_) | refine q_split (fun hq => ?_) (fun hq => ?_)) <;> (try (first | (conv => arg 8; simp only [hq]) | (conv => arg 4; simp only [hq])))) | (with_reducible refine fin_0 ?_ (by first | rfl | (conv => lhs; simp only [go_sem])) ?_) | exact Sub.refl _ | omega)
        refine c_doesR [1000000] ((hd i v hv).1) (callOK_of rfl (Nat.le_of_ble_eq_true rfl) rfl ?_ ?_) ?_ ?_
        · repeat' (first | (conv in hold _ => simp (disch := omega) only [go_sem]) | exact True.intro | exact Sub.refl _ | omega)
        · repeat' (first | (conv in hold _ => simp (disch := omega) only [go_sem]) | exact True.intro | exact Sub.refl _ | omega)
        · ((conv => rhs; simp (disch := omega) only [go_sem]); try rfl)
        repeat' (first | with_reducible refine acc_none ?_ | (conv in hold _ => simp (disch := omega) only [go_sem]) | refine Stp.go ?_ | (with_reducible first | refine it_pos rfl ?_ | refine it_neg (by decide) ?_ | refine st_nil rfl ?_ | refine s_op ?_ ?_ | exact True.intro) | ((with_reducible first | refine dw_reg0 ?_ | refine dw_regB ?_); (conv => arg 3; whnf)) | (refine Spl.go (fun hq he => ?_) (fun hq he => ?_) <;> first | (exfalso; clear hq; omega) | ((try (first | (conv => arg 8; simp only [hq]) | (conv => arg 4; simp only [hq]))); clear hq)) | ((with_reducible first | refine c_split (fun hq => ?_) (fun hq => ?_) | refine q_split (fun hq => ?_) (fun hq => ?_)) <;> (try (first | (conv => arg 8; simp only [hq]) | (conv => arg 4; simp only [hq])))) | (with_reducible refine fin_0 ?_ (by first | rfl | (conv => lhs; simp only [go_sem])) ?_) | exact Sub.refl _ | omega)
        refine ⟨by omega, trivial, Wk.list [1000000, 2000017] rfl rfl ?_⟩
        repeat' (first | (conv in hold _ => simp (disch := omega) only [go_sem]) | exact True.intro | exact Sub.refl _ | omega)
        rw [hmt, hnx, List.map_append]
        rfl
      · obtain rfl : i = n := by omega
        have e1 : vs.take i = vs := List.take_of_length_le (by omega)
        have e2 : (vs.map vD).take i = vs.map vD := by rw [← hl]; exact take_all vD vs
        repeat' (first | with_reducible refine acc_none ?_ | (conv in hold _ => simp (disch := omega) only [go_sem, e1]) | refine Stp.go ?_ | (with_reducible first | refine it_pos rfl ?_ | refine it_neg (by decide) ?_ | refine st_nil rfl ?_ | refine s_op ?_ ?_ | exact True.intro) | ((with_reducible first | refine dw_reg0 ?_ | refine dw_regB ?_); (conv => arg 3; whnf)) | (refine Spl.go (fun hq he => ?_) (fun hq he => ?_) <;> first | (exfalso; clear hq; omega) | ((try (first | (conv => arg 8; simp only [hq]) | (conv => arg 4; simp only [hq]))); clear hq)) | ((with_reducible first | refine c_split (fun hq => ?_) (fun hq => ?_) | refine q_split (fun hq => ?_) (fun hq => ?_)) <;> (try (first | (conv => arg 8; simp only [hq]) | (conv => arg 4; simp only [hq])))) | exact Sub.refl _ | omega)
        refine fin_wk (wk_frz 4 1000001 (by decide) (by decide) rfl ?_) ?_
        rotate_left
        (conv in hold _ => simp (disch := omega) only [go_sem, e1, e2, hl])
        · refine fin_L [1000000] ?_ ?_ rfl ?_
          repeat' (first | (conv in hold _ => simp (disch := omega) only [go_sem, e1, e2, hl]) | exact True.intro | exact Sub.refl _ | omega)
        · exact vals_pur _
  · obtain ⟨i, hi⟩ := List.mem_iff_getElem?.1 hv
    exact (hd i v hi).2
end Go.Proofs.Ytbojmjopkadnaaa
