/-
  Drawn tables, and the model's statistics of a table. No condition.
-/
import Derived.Test.YtpfedjaedlfdfaaKSDca
import Derived.Test.YtpfedjaedlfdfaaKSDcc
import Derived.Test.YtpfedjaedlfdfaaKSDcd
import Derived.Test.YtpfedjaedlfdfaaKSVDrawT
import Derived.Test.YtpfedjaedlfdfaaKSVTbW
import Derived.Test.YtpfedjaedlfdfaaJSVDraw
set_option maxHeartbeats 4000000
set_option maxRecDepth 100000
set_option linter.unusedVariables false
set_option linter.unusedSimpArgs false
namespace Go.Proofs.Ytpfedjaedlfdfaa
open Go.RowKit
theorem take_allL {α : Type} (f : α → D) (l : List α) {n : Nat} (h : n = l.length) : (l.map f).take n = l.map f := List.take_of_length_le (by rw [List.length_map]; omega)
theorem randomRow_z {bs : List Nat} (hs : Src bs) (n : Nat) (hn : n < 1000) (p : Nat) (hp : p < 800000000) : ∃ (vs : List V) (q : Nat),
    (Does Try.prog 90 [rdD bs p] [.ref 1000000 0, I n] (rowD vs) [rdD bs q] ∧ vs.length = n ∧ ∀ v, v ∈ vs → v.ok) ∧ p ≤ q ∧ q ≤ p + n * 2 := by
  obtain ⟨vs, ps, hl, h0, hd, hp0, hp1⟩ := draws (fun p v q => Does Try.prog 104 [rdD bs p] [.ref 1000000 0] (vD v) [rdD bs q] ∧ v.ok) 900000000 2 (fun p hp => randomValue_ok hs p hp) n p (by omega)
  refine ⟨vs, ps n, ⟨?_, hl, fun v hv => ?_⟩, hp0, hp1⟩
  · refine does c_spec_randomRow mixed (Nat.le_of_ble_eq_true rfl) 1 rfl ?_
    conv => arg 3; whnf
    repeat' (first|with_reducible refine acc_none ?_ | (conv in hold _=>simp (disch:=omega) only [go_sem])|refine Stp.go ?_|(with_reducible first|refine it_pos rfl ?_|refine it_neg (by decide) ?_|refine st_nil rfl ?_|refine s_op ?_ ?_|exact trivial)|((with_reducible first|refine dw_reg0 ?_|refine dw_regB ?_);(conv=>arg 3;whnf))|(refine Spl.go (fun hq he=>?_) (fun hq he=>?_)<;>first|(exfalso;clear hq;omega)|((try first|(conv=>arg 8;simp only [hq])|(conv=>arg 4;simp only [hq]));clear hq))|((with_reducible first|refine c_split (fun hq=>?_) (fun hq=>?_)|refine q_split (fun hq=>?_) (fun hq=>?_))<;>(try first|(conv=>arg 8;simp only [hq])|(conv=>arg 4;simp only [hq])))|(with_reducible refine fin_0 ?_ (by first|rfl|(conv=>lhs;simp only [go_sem])) ?_)|exact Sub.refl _|omega)
    refine dw_for (c := 2) (l := fun i => [(0, .ref 1000000 0), (1, I n), (5, .own 1000001 2 i), (6, I i), (1000000, rdD bs (ps i)), (1000001, .row 2 ((vs.take i).map vD))]) n (fun _ => True) 0 trivial ((wk_row 5 2000005 2 (by decide) (by decide) rfl rfl).trans (Wk.list [1000000, 2000005] rfl rfl ?_)) (fun i hi _ => ?_) (Nat.zero_le n)
    · rw [h0]
      repeat' (first|(conv in hold _=>simp (disch:=omega) only [go_sem])|exact trivial|exact Sub.refl _|omega)
      exact rfl
    · have hlt := take_len (vs := vs) (i := i) (by omega)
      have hmt := take_map vD (vs := vs) (i := i) (by omega)
      by_cases hin : i < n
      · obtain ⟨v, hv⟩ : ∃ v, vs[i]? = some v := ⟨vs[i], List.getElem?_eq_getElem (by omega)⟩
        have hnx := take_next hv
        repeat' (first
          | with_reducible refine acc_none ?_ | (conv in hold _=>simp (disch:=omega) only [go_sem])|refine Stp.go ?_|(with_reducible first|refine it_pos rfl ?_|refine it_neg (by decide) ?_|refine st_nil rfl ?_|refine s_op ?_ ?_|exact trivial)|((with_reducible first|refine dw_reg0 ?_|refine dw_regB ?_);(conv=>arg 3;whnf))|(refine Spl.go (fun hq he=>?_) (fun hq he=>?_)<;>first|(exfalso;clear hq;omega)|((try first|(conv=>arg 8;simp only [hq])|(conv=>arg 4;simp only [hq]));clear hq))|((with_reducible first|refine c_split (fun hq=>?_) (fun hq=>?_)|refine q_split (fun hq=>?_) (fun hq=>?_))<;>(try first|(conv=>arg 8;simp only [hq])|(conv=>arg 4;simp only [hq])))|(with_reducible refine fin_0 ?_ (by first|rfl|(conv=>lhs;simp only [go_sem])) ?_)
          | (with_reducible show evC _ _ _ _ _ _ _ _ _ _ _ _
             first
             | (refine c_doesR [1000000] ((hd i v hv).1) (callOK_of rfl (Nat.le_of_ble_eq_true rfl) rfl ?_ ?_) ?_ ?_
                iterate 2 · repeat' (first|(conv in hold _=>simp (disch:=omega) only [go_sem])|exact trivial|exact Sub.refl _|omega)
                · ((conv=>rhs;simp (disch:=omega) only [go_sem]); try rfl)))|exact Sub.refl _|omega)
        refine ⟨by omega, trivial, Wk.list [1000000, 2000017] rfl rfl ?_⟩
        repeat' (first|(conv in hold _=>simp (disch:=omega) only [go_sem])|exact trivial|exact Sub.refl _|omega)
        rw [hmt, hnx, List.map_append]
        rfl
      · obtain rfl : i = n := by omega
        have e1 : vs.take i = vs := List.take_of_length_le (by omega)
        have e2 := take_allL vD vs (n := i) hl.symm
        repeat' (first|with_reducible refine acc_none ?_ | (conv in hold _=>simp (disch:=omega) only [go_sem, e1])|refine Stp.go ?_|(with_reducible first|refine it_pos rfl ?_|refine it_neg (by decide) ?_|refine st_nil rfl ?_|refine s_op ?_ ?_|exact trivial)|((with_reducible first|refine dw_reg0 ?_|refine dw_regB ?_);(conv=>arg 3;whnf))|(refine Spl.go (fun hq he=>?_) (fun hq he=>?_)<;>first|(exfalso;clear hq;omega)|((try first|(conv=>arg 8;simp only [hq])|(conv=>arg 4;simp only [hq]));clear hq))|((with_reducible first|refine c_split (fun hq=>?_) (fun hq=>?_)|refine q_split (fun hq=>?_) (fun hq=>?_))<;>(try first|(conv=>arg 8;simp only [hq])|(conv=>arg 4;simp only [hq])))|exact Sub.refl _|omega)
        refine fin_wk (wk_frz 4 1000001 (by decide) (by decide) rfl ?_) ?_
        rotate_left
        (conv in hold _=>simp (disch:=omega) only [go_sem, e1, e2, hl, Nat.le_refl])
        · refine fin_L [1000000] ?_ ?_ rfl ?_
          repeat' (first|(conv in hold _=>simp (disch:=omega) only [go_sem])|exact trivial|exact Sub.refl _|omega)
        · exact vals_pur _
  · obtain ⟨i, hi⟩ := List.mem_iff_getElem?.1 hv
    exact (hd i v hi).2
theorem tableOf_ok (w : Nat) (rs : List (List V)) (hw : w < 1000) (hl : rs.length ≤ 400) (hs : RsW w rs) : Does Try.prog 91 [] [I w, rowsD rs] (taD ⟨w, srt rs⟩) [] := by
  refine does0 c_spec_tableOf mixed (Nat.le_of_ble_eq_true rfl) ?_
  conv => arg 3; whnf
  repeat' (first|with_reducible refine acc_none ?_ | (conv in hold _=>simp (disch:=omega) only [go_sem])|refine Stp.go ?_|(with_reducible first|refine it_pos rfl ?_|refine it_neg (by decide) ?_|refine st_nil rfl ?_|refine s_op ?_ ?_|exact trivial)|((with_reducible first|refine dw_reg0 ?_|refine dw_regB ?_);(conv=>arg 3;whnf))|(refine Spl.go (fun hq he=>?_) (fun hq he=>?_)<;>first|(exfalso;clear hq;omega)|((try first|(conv=>arg 8;simp only [hq])|(conv=>arg 4;simp only [hq]));clear hq))|((with_reducible first|refine c_split (fun hq=>?_) (fun hq=>?_)|refine q_split (fun hq=>?_) (fun hq=>?_))<;>(try first|(conv=>arg 8;simp only [hq])|(conv=>arg 4;simp only [hq])))|(with_reducible refine fin_0 ?_ (by first|rfl|(conv=>lhs;simp only [go_sem])) ?_)|exact Sub.refl _|omega)
  refine dw_for (c := 3) (l := fun i => [(1, rowsD rs), (4, .ref 1000000 0), (5, .ref 1000001 0), (6, I i), (1000000, .obj [I 0, .nul]), (1000001, .obj [I w, .own 1000002 1 i]), (1000002, .row 1 ((srt (rs.take i)).map rowD))]) rs.length (fun _ => True) 0 trivial ((wk_rowO 2000005 2000099 1 1 (by decide) (by decide) (by decide) rfl rfl rfl).trans (Wk.list [2000004, 2000005, 2000099] rfl rfl ?_)) (fun i hi _ => ?_) (Nat.zero_le _)
  · repeat' (first|(conv in hold _=>simp (disch:=omega) only [go_sem])|exact trivial|exact Sub.refl _|omega)
    exact ⟨rfl, rfl⟩
  · rcases at_or_end hi with ⟨r, hr, hlt⟩ | rfl
    · have hsl : (srt (rs.take i)).length = i := by rw [srt_len, List.length_take]; omega
      have hin := insertRow_own (srt (rs.take i)) r w hw (by omega) (fun x hx => by
        rcases List.mem_cons.1 hx with rfl | hx
        · exact hs _ (List.mem_of_getElem? hr)
        · exact srt_rsw (hs.take i) x hx) (srt_asc (hs.take i))
      rw [← srt_next hr] at hin
      have hsl2 : (srt (rs.take (i + 1))).length = i + 1 := by rw [srt_len, List.length_take]; omega
      have e2 := take_allL rowD (srt (rs.take i)) (n := i) hsl.symm
      repeat' ((fail_if_success (with_reducible first | refine s_call ?_ | refine s_cal ?_ | refine s_inv ?_)); first | with_reducible refine acc_none ?_ | (conv in hold _=>simp (disch:=omega) only [go_sem, List.getElem?_map, hr, Option.map_some])|refine Stp.go ?_|(with_reducible first|refine it_pos rfl ?_|refine it_neg (by decide) ?_|refine st_nil rfl ?_|refine s_op ?_ ?_|exact trivial)|((with_reducible first|refine dw_reg0 ?_|refine dw_regB ?_);(conv=>arg 3;whnf))|(refine Spl.go (fun hq he=>?_) (fun hq he=>?_)<;>first|(exfalso;clear hq;omega)|((try first|(conv=>arg 8;simp only [hq])|(conv=>arg 4;simp only [hq]));clear hq))|((with_reducible first|refine c_split (fun hq=>?_) (fun hq=>?_)|refine q_split (fun hq=>?_) (fun hq=>?_))<;>(try first|(conv=>arg 8;simp only [hq])|(conv=>arg 4;simp only [hq])))|(with_reducible refine fin_0 ?_ (by first|rfl|(conv=>lhs;simp only [go_sem, List.getElem?_map, hr, Option.map_some])) ?_)|exact Sub.refl _|omega)
      refine s_pre (pre_frz (t := 20) (g := 1000002) (by decide) (by decide) rfl ?_) ?_
      rotate_left
      repeat' (first|with_reducible refine acc_none ?_ | (conv in hold _=>simp (disch:=omega) only [go_sem, e2, hsl, Nat.le_refl])|refine Stp.go ?_|(with_reducible first|refine it_pos rfl ?_|refine it_neg (by decide) ?_|refine st_nil rfl ?_|refine s_op ?_ ?_|exact trivial)|((with_reducible first|refine dw_reg0 ?_|refine dw_regB ?_);(conv=>arg 3;whnf))|(refine Spl.go (fun hq he=>?_) (fun hq he=>?_)<;>first|(exfalso;clear hq;omega)|((try first|(conv=>arg 8;simp only [hq])|(conv=>arg 4;simp only [hq]));clear hq))|((with_reducible first|refine c_split (fun hq=>?_) (fun hq=>?_)|refine q_split (fun hq=>?_) (fun hq=>?_))<;>(try first|(conv=>arg 8;simp only [hq])|(conv=>arg 4;simp only [hq])))|(with_reducible refine fin_0 ?_ (by first|rfl|(conv=>lhs;simp only [go_sem, e2, hsl, Nat.le_refl])) ?_)|exact Sub.refl _|omega)
      refine c_doesR [3000001] (hin) (callOK_of rfl (Nat.le_of_ble_eq_true rfl) rfl ?_ ?_) ?_ ?_
      · repeat' (first|(conv in hold _=>simp (disch:=omega) only [go_sem, hsl2])|exact trivial|exact Sub.refl _|omega)
      · repeat' (first|(conv in hold _=>simp (disch:=omega) only [go_sem, hsl2])|exact trivial|exact Sub.refl _|omega)
      · ((conv=>rhs;simp (disch:=omega) only [go_sem, hsl2]); try rfl)
      repeat' (first|with_reducible refine acc_none ?_ | (conv in hold _=>simp (disch:=omega) only [go_sem, hsl2])|refine Stp.go ?_|(with_reducible first|refine it_pos rfl ?_|refine it_neg (by decide) ?_|refine st_nil rfl ?_|refine s_op ?_ ?_|exact trivial)|((with_reducible first|refine dw_reg0 ?_|refine dw_regB ?_);(conv=>arg 3;whnf))|(refine Spl.go (fun hq he=>?_) (fun hq he=>?_)<;>first|(exfalso;clear hq;omega)|((try first|(conv=>arg 8;simp only [hq])|(conv=>arg 4;simp only [hq]));clear hq))|((with_reducible first|refine c_split (fun hq=>?_) (fun hq=>?_)|refine q_split (fun hq=>?_) (fun hq=>?_))<;>(try first|(conv=>arg 8;simp only [hq])|(conv=>arg 4;simp only [hq])))|(with_reducible refine fin_0 ?_ (by first|rfl|(conv=>lhs;simp only [go_sem, hsl2])) ?_)|exact Sub.refl _|omega)
      · refine ⟨hlt, trivial, Wk.list [1000000, 1000001, 3000001] rfl rfl ?_⟩
        repeat' (first|(conv in hold _=>simp (disch:=omega) only [go_sem, hsl2])|exact trivial|exact Sub.refl _|omega)
      · exact rows_pur _
    · have hsl : (srt rs).length = rs.length := srt_len rs
      have e1 : rs.take rs.length = rs := List.take_of_length_le (Nat.le_refl _)
      have e2 := take_allL rowD (srt rs) (n := rs.length) hsl.symm
      repeat' (first|with_reducible refine acc_none ?_ | (conv in hold _=>simp (disch:=omega) only [go_sem, e1])|refine Stp.go ?_|(with_reducible first|refine it_pos rfl ?_|refine it_neg (by decide) ?_|refine st_nil rfl ?_|refine s_op ?_ ?_|exact trivial)|((with_reducible first|refine dw_reg0 ?_|refine dw_regB ?_);(conv=>arg 3;whnf))|(refine Spl.go (fun hq he=>?_) (fun hq he=>?_)<;>first|(exfalso;clear hq;omega)|((try first|(conv=>arg 8;simp only [hq])|(conv=>arg 4;simp only [hq]));clear hq))|((with_reducible first|refine c_split (fun hq=>?_) (fun hq=>?_)|refine q_split (fun hq=>?_) (fun hq=>?_))<;>(try first|(conv=>arg 8;simp only [hq])|(conv=>arg 4;simp only [hq])))|exact Sub.refl _|omega)
      refine fin_wk (wk_frzO 1000000 1000002 (by decide) (by decide) rfl (by decide) rfl ?_) ?_
      rotate_left
      (conv in hold _=>simp (disch:=omega) only [go_sem, e1, e2, hsl, Nat.le_refl])
      · refine fin_L [] ?_ ?_ rfl ?_
        repeat' (first|(conv in hold _=>simp (disch:=omega) only [go_sem])|exact trivial|exact Sub.refl _|omega)
      · exact rows_pur _
theorem randomTable_ok {bs : List Nat} (hs : Src bs) (w : Nat) (hw : w < 1000) (m : Nat) (hm : m ≤ 100) (p : Nat) (hp : p < 500000000) : ∃ (rs : List (List V)) (q : Nat),
    (Does Try.prog 66 [rdD bs p] [.ref 1000000 0, I w, I m] (taD ⟨w, rs⟩) [rdD bs q] ∧ rs.length ≤ m ∧ RsW w rs) ∧ p ≤ q ∧ q ≤ p + 200001 := by
  obtain ⟨k, hk, k0, k1, _⟩ := pick_ok hs p (by omega) ((m : Int) + 1) (by omega)
  have hk1 := k1 (by omega)
  obtain ⟨n, rfl⟩ := Int.eq_ofNat_of_zero_le k0
  obtain ⟨rs, ps, hl, h0, hd, hp0, hp1⟩ := draws (fun p (r : List V) q => Does Try.prog 90 [rdD bs p] [.ref 1000000 0, I w] (rowD r) [rdD bs q] ∧ r.length = w ∧ ∀ v, v ∈ r → v.ok) 800000000 2000 (fun p hp => by
    obtain ⟨vs, q, h1, h2, h3⟩ := randomRow_z hs w hw p (by omega)
    exact ⟨vs, q, h1, h2, by omega⟩) n (p + 1) (by omega)
  have hrw : RsW w rs := fun r hr => by
    obtain ⟨i, hi⟩ := List.mem_iff_getElem?.1 hr
    exact (hd i r hi).2
  have ht := tableOf_ok w rs hw (by omega) hrw
  refine ⟨srt rs, ps n, ⟨?_, by rw [srt_len]; omega, srt_rsw hrw⟩, by omega, by omega⟩
  refine does c_spec_randomTable mixed (Nat.le_of_ble_eq_true rfl) 1 rfl ?_
  conv => arg 3; whnf
  repeat' (first
    | with_reducible refine acc_none ?_ | (conv in hold _=>simp (disch:=omega) only [go_sem])|refine Stp.go ?_|(with_reducible first|refine it_pos rfl ?_|refine it_neg (by decide) ?_|refine st_nil rfl ?_|refine s_op ?_ ?_|exact trivial)|((with_reducible first|refine dw_reg0 ?_|refine dw_regB ?_);(conv=>arg 3;whnf))|(refine Spl.go (fun hq he=>?_) (fun hq he=>?_)<;>first|(exfalso;clear hq;omega)|((try first|(conv=>arg 8;simp only [hq])|(conv=>arg 4;simp only [hq]));clear hq))|((with_reducible first|refine c_split (fun hq=>?_) (fun hq=>?_)|refine q_split (fun hq=>?_) (fun hq=>?_))<;>(try first|(conv=>arg 8;simp only [hq])|(conv=>arg 4;simp only [hq])))|(with_reducible refine fin_0 ?_ (by first|rfl|(conv=>lhs;simp only [go_sem])) ?_)
    | (with_reducible show evC _ _ _ _ _ _ _ _ _ _ _ _
       first
       | (refine c_doesR [1000000] (hk) (callOK_of rfl (Nat.le_of_ble_eq_true rfl) rfl ?_ ?_) ?_ ?_
          iterate 2 · repeat' (first|(conv in hold _=>simp (disch:=omega) only [go_sem])|exact trivial|exact Sub.refl _|omega)
          · ((conv=>rhs;simp (disch:=omega) only [go_sem]); try rfl)))|exact Sub.refl _|omega)
  refine dw_for (c := 3) (l := fun i => [(0, .ref 1000000 0), (1, I w), (6, .ref 1000001 0), (7, .own 1000002 1 i), (8, I ((n : Int) - i)), (1000000, rdD bs (ps i)), (1000001, .obj [I 0, .nul]), (1000002, .row 1 ((rs.take i).map rowD))]) n (fun _ => True) 0 trivial ((wk_row 7 2000099 1 (by decide) (by decide) rfl rfl).trans (Wk.list [1000000, 2000006, 2000099] rfl rfl ?_)) (fun i hi _ => ?_) (Nat.zero_le n)
  · rw [h0]
    repeat' (first|(conv in hold _=>simp (disch:=omega) only [go_sem])|exact trivial|exact Sub.refl _|omega)
    exact congrArg (fun n => D.v (Value.int .i64 n)) (by omega)
  · have hlt := take_len (vs := rs) (i := i) (by omega)
    have hmt := take_map rowD (vs := rs) (i := i) (by omega)
    by_cases hin : i < n
    · obtain ⟨r, hr⟩ : ∃ r, rs[i]? = some r := ⟨rs[i], List.getElem?_eq_getElem (by omega)⟩
      have hnx := take_next hr
      repeat' (first
        | with_reducible refine acc_none ?_ | (conv in hold _=>simp (disch:=omega) only [go_sem])|refine Stp.go ?_|(with_reducible first|refine it_pos rfl ?_|refine it_neg (by decide) ?_|refine st_nil rfl ?_|refine s_op ?_ ?_|exact trivial)|((with_reducible first|refine dw_reg0 ?_|refine dw_regB ?_);(conv=>arg 3;whnf))|(refine Spl.go (fun hq he=>?_) (fun hq he=>?_)<;>first|(exfalso;clear hq;omega)|((try first|(conv=>arg 8;simp only [hq])|(conv=>arg 4;simp only [hq]));clear hq))|((with_reducible first|refine c_split (fun hq=>?_) (fun hq=>?_)|refine q_split (fun hq=>?_) (fun hq=>?_))<;>(try first|(conv=>arg 8;simp only [hq])|(conv=>arg 4;simp only [hq])))|(with_reducible refine fin_0 ?_ (by first|rfl|(conv=>lhs;simp only [go_sem])) ?_)
        | (with_reducible show evC _ _ _ _ _ _ _ _ _ _ _ _
           first
           | (refine c_doesR [1000000] ((hd i r hr).1) (callOK_of rfl (Nat.le_of_ble_eq_true rfl) rfl ?_ ?_) ?_ ?_
              iterate 2 · repeat' (first|(conv in hold _=>simp (disch:=omega) only [go_sem])|exact trivial|exact Sub.refl _|omega)
              · ((conv=>rhs;simp (disch:=omega) only [go_sem]); try rfl)))|exact Sub.refl _|omega)
      refine ⟨by omega, trivial, Wk.list [1000000, 1000001, 2000023] rfl rfl ?_⟩
      repeat' (first|(conv in hold _=>simp (disch:=omega) only [go_sem])|exact trivial|exact Sub.refl _|omega)
      refine ⟨congrArg (fun n => D.v (Value.int .i64 n)) (by omega), ?_⟩
      rw [hmt, hnx, List.map_append]
      rfl
    · obtain rfl : i = n := by omega
      have e1 : rs.take i = rs := List.take_of_length_le (by omega)
      have e2 := take_allL rowD rs (n := i) hl.symm
      repeat' ((fail_if_success (with_reducible first | refine s_call ?_ | refine s_cal ?_ | refine s_inv ?_)); first | with_reducible refine acc_none ?_ | (conv in hold _=>simp (disch:=omega) only [go_sem, e1])|refine Stp.go ?_|(with_reducible first|refine it_pos rfl ?_|refine it_neg (by decide) ?_|refine st_nil rfl ?_|refine s_op ?_ ?_|exact trivial)|((with_reducible first|refine dw_reg0 ?_|refine dw_regB ?_);(conv=>arg 3;whnf))|(refine Spl.go (fun hq he=>?_) (fun hq he=>?_)<;>first|(exfalso;clear hq;omega)|((try first|(conv=>arg 8;simp only [hq])|(conv=>arg 4;simp only [hq]));clear hq))|((with_reducible first|refine c_split (fun hq=>?_) (fun hq=>?_)|refine q_split (fun hq=>?_) (fun hq=>?_))<;>(try first|(conv=>arg 8;simp only [hq])|(conv=>arg 4;simp only [hq])))|(with_reducible refine fin_0 ?_ (by first|rfl|(conv=>lhs;simp only [go_sem, e1])) ?_)|exact Sub.refl _|omega)
      refine s_pre (pre_frz (t := 25) (g := 1000002) (by decide) (by decide) rfl ?_) ?_
      rotate_left
      repeat' (first|with_reducible refine acc_none ?_ | (conv in hold _=>simp (disch:=omega) only [go_sem, e1, e2, hl, Nat.le_refl])|refine Stp.go ?_|(with_reducible first|refine it_pos rfl ?_|refine it_neg (by decide) ?_|refine st_nil rfl ?_|refine s_op ?_ ?_|exact trivial)|((with_reducible first|refine dw_reg0 ?_|refine dw_regB ?_);(conv=>arg 3;whnf))|(refine Spl.go (fun hq he=>?_) (fun hq he=>?_)<;>first|(exfalso;clear hq;omega)|((try first|(conv=>arg 8;simp only [hq])|(conv=>arg 4;simp only [hq]));clear hq))|((with_reducible first|refine c_split (fun hq=>?_) (fun hq=>?_)|refine q_split (fun hq=>?_) (fun hq=>?_))<;>(try first|(conv=>arg 8;simp only [hq])|(conv=>arg 4;simp only [hq])))|(with_reducible refine fin_0 ?_ (by first|rfl|(conv=>lhs;simp only [go_sem, e1, e2, hl, Nat.le_refl])) ?_)|exact Sub.refl _|omega)
      refine c_doesE (ht) ?_ ?_ ?_
      · ((try (conv=>rhs;simp (disch:=omega) only [go_sem])); try rfl)
      · first|rfl|(conv=>lhs;simp only [go_sem])
      repeat' (first|with_reducible refine acc_none ?_ | (conv in hold _=>simp (disch:=omega) only [go_sem])|refine Stp.go ?_|(with_reducible first|refine it_pos rfl ?_|refine it_neg (by decide) ?_|refine st_nil rfl ?_|refine s_op ?_ ?_|exact trivial)|((with_reducible first|refine dw_reg0 ?_|refine dw_regB ?_);(conv=>arg 3;whnf))|(refine Spl.go (fun hq he=>?_) (fun hq he=>?_)<;>first|(exfalso;clear hq;omega)|((try first|(conv=>arg 8;simp only [hq])|(conv=>arg 4;simp only [hq]));clear hq))|((with_reducible first|refine c_split (fun hq=>?_) (fun hq=>?_)|refine q_split (fun hq=>?_) (fun hq=>?_))<;>(try first|(conv=>arg 8;simp only [hq])|(conv=>arg 4;simp only [hq])))|(with_reducible refine fin_0 ?_ (by first|rfl|(conv=>lhs;simp only [go_sem])) ?_)|exact Sub.refl _|omega)
      · refine fin_L [1000000] ?_ ?_ rfl ?_
        repeat' (first|(conv in hold _=>simp (disch:=omega) only [go_sem])|exact trivial|exact Sub.refl _|omega)
      · exact rows_pur _
end Go.Proofs.Ytpfedjaedlfdfaa
