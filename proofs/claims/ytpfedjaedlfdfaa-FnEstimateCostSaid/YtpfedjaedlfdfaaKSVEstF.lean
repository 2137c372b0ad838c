/-
  EstimateRows of both packages. No condition.
-/
import Derived.Test.YtpfedjaedlfdfaaKSDca
import Derived.Test.YtpfedjaedlfdfaaKSDcc
import Derived.Test.YtpfedjaedlfdfaaKSVEst
set_option maxHeartbeats 4000000
set_option maxRecDepth 100000
set_option linter.unusedVariables false
set_option linter.unusedSimpArgs false
namespace Go.Proofs.Ytpfedjaedlfdfaa
open Go.RowKit
theorem partE_ok {ss : List St} {p : Pl} {l : List Int} {n : Int} (r : Does Try.prog 71 [] [pD p, intsD l, esV ss] (I n) []) : Does Try.prog 70 [.obj [esV ss]] [pD p, intsD l, .ref 1000000 0] (I n) [.obj [esV ss]] := by
  refine does c_impl_deriveProperty_int__1 mixed (Nat.le_of_ble_eq_true rfl) 1 rfl ?_
  conv => arg 3; whnf
  repeat' (first
    | with_reducible refine acc_none ?_ | (conv in hold _=>simp (disch:=omega) only [go_sem])|refine Stp.go ?_|(with_reducible first|refine it_pos rfl ?_|refine it_neg (by decide) ?_|refine st_nil rfl ?_|refine s_op ?_ ?_|exact trivial)|((with_reducible first|refine dw_reg0 ?_|refine dw_regB ?_);(conv=>arg 3;whnf))|(refine Spl.go (fun hq he=>?_) (fun hq he=>?_)<;>first|(exfalso;clear hq;omega)|((try first|(conv=>arg 8;simp only [hq])|(conv=>arg 4;simp only [hq]));clear hq))|((with_reducible first|refine c_split (fun hq=>?_) (fun hq=>?_)|refine q_split (fun hq=>?_) (fun hq=>?_))<;>(try first|(conv=>arg 8;simp only [hq])|(conv=>arg 4;simp only [hq])))|(with_reducible refine fin_0 ?_ (by first|rfl|(conv=>lhs;simp only [go_sem])) ?_)
    | (with_reducible show evC _ _ _ _ _ _ _ _ _ _ _ _
       first
       | (refine c_doesE (r) ?_ ?_ ?_
          · ((try (conv=>rhs;simp (disch:=omega) only [go_sem])); try rfl)
          · first|rfl|(conv=>lhs;simp only [go_sem])))|exact Sub.refl _|omega)
  refine fin_L [1000000] ?_ ?_ rfl ?_
  repeat' (first|(conv in hold _=>simp (disch:=omega) only [go_sem])|exact trivial|exact Sub.refl _|omega)
theorem foldE_step (ss : List St) (p : Pl) (hs : psz p ≤ 1048576) (q : List Int) (hl : q.length = p.ks.length) (b : Int)
    (hk : ∀ (i : Nat) (x : Pl) (c : Int), p.ks[i]? = some x → q[i]? = some c → Does Try.prog 69 [.obj [esV ss]] [pD x, .fn 70 [.ref 1000000 0]] (I c) [.obj [esV ss]])
    (r : Does Try.prog 70 [.obj [esV ss]] [pD p, intsD q, .ref 1000000 0] (I b) [.obj [esV ss]]) : Does Try.prog 69 [.obj [esV ss]] [pD p, .fn 70 [.ref 1000000 0]] (I b) [.obj [esV ss]] := by
  rw [psz_eq] at hs
  have hlen := pszL_len p.ks
  refine does c_impl_foldPlan_int_ mixed (Nat.le_of_ble_eq_true rfl) 1 rfl ?_
  conv => arg 3; whnf
  repeat' (first|with_reducible refine acc_none ?_ | (conv in hold _=>simp (disch:=omega) only [go_sem])|refine Stp.go ?_|(with_reducible first|refine it_pos rfl ?_|refine it_neg (by decide) ?_|refine st_nil rfl ?_|refine s_op ?_ ?_|exact trivial)|((with_reducible first|refine dw_reg0 ?_|refine dw_regB ?_);(conv=>arg 3;whnf))|(refine Spl.go (fun hq he=>?_) (fun hq he=>?_)<;>first|(exfalso;clear hq;omega)|((try first|(conv=>arg 8;simp only [hq])|(conv=>arg 4;simp only [hq]));clear hq))|((with_reducible first|refine c_split (fun hq=>?_) (fun hq=>?_)|refine q_split (fun hq=>?_) (fun hq=>?_))<;>(try first|(conv=>arg 8;simp only [hq])|(conv=>arg 4;simp only [hq])))|(with_reducible refine fin_0 ?_ (by first|rfl|(conv=>lhs;simp only [go_sem])) ?_)|exact Sub.refl _|omega)
  refine dw_for (c := 3) (l := fun i => [(1, .fn 70 [.ref 1000000 0]), (2, .ref 1000001 0), (5, .own 1000002 1 i), (9, .sl 5 (p.ks.map pD)), (10, I p.ks.length), (11, I i), (1000000, .obj [esV ss]), (1000001, .obj [I p.k, I p.t, .sl 5 (p.es.map eD), intsD p.cs, .sl 5 (p.ks.map pD)]), (1000002, .row 1 ((q.take i).map I))]) p.ks.length (fun _ => True) 0 trivial ((wk_row 5 2000020 1 (by decide) (by decide) rfl rfl).trans (Wk.list [1000000, 2000002, 2000020] rfl rfl ?_)) (fun i hi _ => ?_) (Nat.zero_le _)
  · repeat' (first|(conv in hold _=>simp (disch:=omega) only [go_sem])|exact trivial|exact Sub.refl _|omega)
    exact rfl
  · have htl : (q.take i).length = i := by rw [List.length_take]; omega
    have hmk := take_map I (vs := q) (i := i) (by omega)
    by_cases hil : i < p.ks.length
    · obtain ⟨x, hx⟩ : ∃ x, p.ks[i]? = some x := ⟨_, List.getElem?_eq_getElem hil⟩
      obtain ⟨c, hqx, _⟩ := get_ex (ns := q) (i := i) (by omega)
      have hix := hk i x c hx hqx
      have hnx := take_next hqx
      repeat' (first
        | with_reducible refine acc_none ?_ | (conv in hold _=>simp (disch:=omega) only [go_sem, List.getElem?_map, hx, Option.map_some, List.length_map, htl])|refine Stp.go ?_|(with_reducible first|refine it_pos rfl ?_|refine it_neg (by decide) ?_|refine st_nil rfl ?_|refine s_op ?_ ?_|exact trivial)|((with_reducible first|refine dw_reg0 ?_|refine dw_regB ?_);(conv=>arg 3;whnf))|(refine Spl.go (fun hq he=>?_) (fun hq he=>?_)<;>first|(exfalso;clear hq;omega)|((try first|(conv=>arg 8;simp only [hq])|(conv=>arg 4;simp only [hq]));clear hq))|((with_reducible first|refine c_split (fun hq=>?_) (fun hq=>?_)|refine q_split (fun hq=>?_) (fun hq=>?_))<;>(try first|(conv=>arg 8;simp only [hq])|(conv=>arg 4;simp only [hq])))|(with_reducible refine fin_0 ?_ (by first|rfl|(conv=>lhs;simp only [go_sem, List.getElem?_map, hx, Option.map_some, List.length_map, htl])) ?_)
        | (with_reducible show evC _ _ _ _ _ _ _ _ _ _ _ _
           first
           | (refine c_doesR [1000000] (hix) (callOK_of rfl (Nat.le_of_ble_eq_true rfl) rfl ?_ ?_) ?_ ?_
              iterate 2 · repeat' (first|(conv in hold _=>simp (disch:=omega) only [go_sem, List.getElem?_map, hx, Option.map_some, List.length_map, htl])|exact trivial|exact Sub.refl _|omega)
              · ((conv=>rhs;simp (disch:=omega) only [go_sem, List.getElem?_map, hx, Option.map_some, List.length_map, htl]); try rfl)))|exact Sub.refl _|omega)
      refine ⟨hil, trivial, Wk.list [1000000, 1000001, 2000020] rfl rfl ?_⟩
      repeat' (first|(conv in hold _=>simp (disch:=omega) only [go_sem, List.length_map, htl])|exact trivial|exact Sub.refl _|omega)
      rw [hmk, hnx, List.map_append]
      rfl
    · obtain rfl : i = p.ks.length := by omega
      have e1 : q.take p.ks.length = q := List.take_of_length_le (by omega)
      have e2 : (q.map I).take p.ks.length = q.map I := List.take_of_length_le (by rw [List.length_map]; omega)
      repeat' ((fail_if_success (with_reducible first | refine s_call ?_ | refine s_cal ?_ | refine s_inv ?_)); first | with_reducible refine acc_none ?_ | (conv in hold _=>simp (disch:=omega) only [go_sem, e1])|refine Stp.go ?_|(with_reducible first|refine it_pos rfl ?_|refine it_neg (by decide) ?_|refine st_nil rfl ?_|refine s_op ?_ ?_|exact trivial)|((with_reducible first|refine dw_reg0 ?_|refine dw_regB ?_);(conv=>arg 3;whnf))|(refine Spl.go (fun hq he=>?_) (fun hq he=>?_)<;>first|(exfalso;clear hq;omega)|((try first|(conv=>arg 8;simp only [hq])|(conv=>arg 4;simp only [hq]));clear hq))|((with_reducible first|refine c_split (fun hq=>?_) (fun hq=>?_)|refine q_split (fun hq=>?_) (fun hq=>?_))<;>(try first|(conv=>arg 8;simp only [hq])|(conv=>arg 4;simp only [hq])))|(with_reducible refine fin_0 ?_ (by first|rfl|(conv=>lhs;simp only [go_sem, e1])) ?_)|exact Sub.refl _|omega)
      refine s_pre (pre_frz (t := 24) (g := 1000002) (by decide) (by decide) rfl ?_) ?_
      rotate_left
      repeat' (first|with_reducible refine acc_none ?_ | (conv in hold _=>simp (disch:=omega) only [go_sem, e1, e2, hl, Nat.le_refl])|refine Stp.go ?_|(with_reducible first|refine it_pos rfl ?_|refine it_neg (by decide) ?_|refine st_nil rfl ?_|refine s_op ?_ ?_|exact trivial)|((with_reducible first|refine dw_reg0 ?_|refine dw_regB ?_);(conv=>arg 3;whnf))|(refine Spl.go (fun hq he=>?_) (fun hq he=>?_)<;>first|(exfalso;clear hq;omega)|((try first|(conv=>arg 8;simp only [hq])|(conv=>arg 4;simp only [hq]));clear hq))|((with_reducible first|refine c_split (fun hq=>?_) (fun hq=>?_)|refine q_split (fun hq=>?_) (fun hq=>?_))<;>(try first|(conv=>arg 8;simp only [hq])|(conv=>arg 4;simp only [hq])))|(with_reducible refine fin_0 ?_ (by first|rfl|(conv=>lhs;simp only [go_sem, e1, e2, hl, Nat.le_refl])) ?_)|exact Sub.refl _|omega)
      refine v_fn ((by kernel_rfl)) ?_
      refine c_doesR [1000000] (r) (callOK_of rfl (Nat.le_of_ble_eq_true rfl) rfl ?_ ?_) ?_ ?_
      · repeat' (first|(conv in hold _=>simp (disch:=omega) only [go_sem])|exact trivial|exact Sub.refl _|omega)
      · repeat' (first|(conv in hold _=>simp (disch:=omega) only [go_sem])|exact trivial|exact Sub.refl _|omega)
      · ((conv=>rhs;simp (disch:=omega) only [go_sem]); try rfl)
      repeat' (first|with_reducible refine acc_none ?_ | (conv in hold _=>simp (disch:=omega) only [go_sem])|refine Stp.go ?_|(with_reducible first|refine it_pos rfl ?_|refine it_neg (by decide) ?_|refine st_nil rfl ?_|refine s_op ?_ ?_|exact trivial)|((with_reducible first|refine dw_reg0 ?_|refine dw_regB ?_);(conv=>arg 3;whnf))|(refine Spl.go (fun hq he=>?_) (fun hq he=>?_)<;>first|(exfalso;clear hq;omega)|((try first|(conv=>arg 8;simp only [hq])|(conv=>arg 4;simp only [hq]));clear hq))|((with_reducible first|refine c_split (fun hq=>?_) (fun hq=>?_)|refine q_split (fun hq=>?_) (fun hq=>?_))<;>(try first|(conv=>arg 8;simp only [hq])|(conv=>arg 4;simp only [hq])))|(with_reducible refine fin_0 ?_ (by first|rfl|(conv=>lhs;simp only [go_sem])) ?_)|exact Sub.refl _|omega)
      refine fin_L [1000000] ?_ ?_ rfl ?_
      repeat' (first|(conv in hold _=>simp (disch:=omega) only [go_sem])|exact trivial|exact Sub.refl _|omega)
      exact ints_pur _
/-- A plan's estimate, in both packages. -/
def EstN (ss : List St) (p : Pl) (n : Int) : Prop :=
  ((0 ≤ n ∧ n ≤ M) ∧ n ≤ rb (cntS ss) p) ∧ Does Try.prog 46 [] [pD p, stsD ss] (I n) [] ∧ Does Try.prog 69 [.obj [esV ss]] [pD p, .fn 70 [.ref 1000000 0]] (I n) [.obj [esV ss]]
theorem FineE_nil : ∀ p : Pl, ¬ FineE [] p := by
  refine Pl.indA (fun p ih hp => ?_)
  have hf := hp.fields
  unfold fields at hf
  by_cases h1 : p.k = 1
  · have := hp.scan h1
    rw [List.length_nil] at this
    omega
  · obtain ⟨x, hx⟩ : ∃ x, p.ks[0]? = some x := ⟨_, List.getElem?_eq_getElem (by omega)⟩
    have hm := List.mem_of_getElem? hx
    exact ih x hm (hp.kid hm)
noncomputable instance ssDec (ss : List St) : Decidable (ssOk ss) := Classical.propDecidable _
def sOkW (s : St) : Prop := (1 ≤ (s.ds.length : Int) ∧ (s.ds.length : Int) ≤ 6) ∧ stIn s s.ds.length
noncomputable instance sDecW (s : St) : Decidable (sOkW s) := Classical.propDecidable _
theorem statsWidths_ok {ss : List St} (hss : ssOk ss) (hl : ss.length ≤ 1048576) : Does Try.prog 42 [] [stsD ss] (intsD (wsS ss)) [] := by
  have hlq : (wsS ss).length = ss.length := List.length_map ..
  have hg : ∀ (i : Nat) (s : St), ss[i]? = some s → (wsS ss)[i]? = some (s.ds.length : Int) := fun i s h => by rw [wsS, List.getElem?_map, h]; rfl
  generalize wsS ss = q at *
  refine does0 c_impl_statsWidths mixed (Nat.le_of_ble_eq_true rfl) ?_
  conv => arg 3; whnf
  repeat' (first|with_reducible refine acc_none ?_ | (conv in hold _=>simp (disch:=omega) only [go_sem])|refine Stp.go ?_|(with_reducible first|refine it_pos rfl ?_|refine it_neg (by decide) ?_|refine st_nil rfl ?_|refine s_op ?_ ?_|exact trivial)|((with_reducible first|refine dw_reg0 ?_|refine dw_regB ?_);(conv=>arg 3;whnf))|(refine Spl.go (fun hq he=>?_) (fun hq he=>?_)<;>first|(exfalso;clear hq;omega)|((try first|(conv=>arg 8;simp only [hq])|(conv=>arg 4;simp only [hq]));clear hq))|((with_reducible first|refine c_split (fun hq=>?_) (fun hq=>?_)|refine q_split (fun hq=>?_) (fun hq=>?_))<;>(try first|(conv=>arg 8;simp only [hq])|(conv=>arg 4;simp only [hq])))|(with_reducible refine fin_0 ?_ (by first|rfl|(conv=>lhs;simp only [go_sem])) ?_)|exact Sub.refl _|omega)
  refine dw_for (c := 1) (l := fun i => [(3, .own 1000000 1 i), (7, stsD ss), (8, I ss.length), (9, I i), (1000000, .row 1 ((q.take i).map I))]) ss.length (fun _ => True) 0 trivial ((wk_row 3 2000023 1 (by decide) (by decide) rfl rfl).trans (Wk.list [2000023] rfl rfl ?_)) (fun i hi _ => ?_) (Nat.zero_le _)
  · repeat' (first|(conv in hold _=>simp (disch:=omega) only [go_sem])|exact trivial|exact Sub.refl _|omega)
    exact rfl
  · have htl : (q.take i).length = i := by rw [List.length_take]; omega
    have hmk := take_map I (vs := q) (i := i) (by omega)
    rcases at_or_end hi with ⟨s, hs, hil⟩ | rfl
    · have hv := ValidStats_impl s s.ds.length
      rw [decide_eq_true (hss i s hs)] at hv
      have hnx := take_next (hg i s hs)
      repeat' (first
        | with_reducible refine acc_none ?_ | (conv in hold _=>simp (disch:=omega) only [go_sem, List.getElem?_map, hs, Option.map_some, List.length_map, htl])|refine Stp.go ?_|(with_reducible first|refine it_pos rfl ?_|refine it_neg (by decide) ?_|refine st_nil rfl ?_|refine s_op ?_ ?_|exact trivial)|((with_reducible first|refine dw_reg0 ?_|refine dw_regB ?_);(conv=>arg 3;whnf))|(refine Spl.go (fun hq he=>?_) (fun hq he=>?_)<;>first|(exfalso;clear hq;omega)|((try first|(conv=>arg 8;simp only [hq])|(conv=>arg 4;simp only [hq]));clear hq))|((with_reducible first|refine c_split (fun hq=>?_) (fun hq=>?_)|refine q_split (fun hq=>?_) (fun hq=>?_))<;>(try first|(conv=>arg 8;simp only [hq])|(conv=>arg 4;simp only [hq])))|(with_reducible refine fin_0 ?_ (by first|rfl|(conv=>lhs;simp only [go_sem, List.getElem?_map, hs, Option.map_some, List.length_map, htl])) ?_)
        | (with_reducible show evC _ _ _ _ _ _ _ _ _ _ _ _
           first
           | (refine c_doesE (hv) ?_ ?_ ?_
              · ((try (conv=>rhs;simp (disch:=omega) only [go_sem, List.getElem?_map, hs, Option.map_some, List.length_map, htl])); try rfl)
              · first|rfl|(conv=>lhs;simp only [go_sem, List.getElem?_map, hs, Option.map_some, List.length_map, htl])))|exact Sub.refl _|omega)
      refine ⟨hil, trivial, Wk.list [2000023] rfl rfl ?_⟩
      repeat' (first|(conv in hold _=>simp (disch:=omega) only [go_sem, List.length_map, htl])|exact trivial|exact Sub.refl _|omega)
      rw [hmk, hnx, List.map_append]
      rfl
    · have e1 : q.take ss.length = q := List.take_of_length_le (by omega)
      have e2 : (q.map I).take ss.length = q.map I := List.take_of_length_le (by rw [List.length_map]; omega)
      repeat' (first|with_reducible refine acc_none ?_ | (conv in hold _=>simp (disch:=omega) only [go_sem, e1])|refine Stp.go ?_|(with_reducible first|refine it_pos rfl ?_|refine it_neg (by decide) ?_|refine st_nil rfl ?_|refine s_op ?_ ?_|exact trivial)|((with_reducible first|refine dw_reg0 ?_|refine dw_regB ?_);(conv=>arg 3;whnf))|(refine Spl.go (fun hq he=>?_) (fun hq he=>?_)<;>first|(exfalso;clear hq;omega)|((try first|(conv=>arg 8;simp only [hq])|(conv=>arg 4;simp only [hq]));clear hq))|((with_reducible first|refine c_split (fun hq=>?_) (fun hq=>?_)|refine q_split (fun hq=>?_) (fun hq=>?_))<;>(try first|(conv=>arg 8;simp only [hq])|(conv=>arg 4;simp only [hq])))|exact Sub.refl _|omega)
      refine fin_wk (wk_frz 2 1000000 (by decide) (by decide) rfl ?_) ?_
      rotate_left
      (conv in hold _=>simp (disch:=omega) only [go_sem, e1, e2, hlq, Nat.le_refl])
      · refine fin_L [] ?_ ?_ rfl ?_
        repeat' (first|(conv in hold _=>simp (disch:=omega) only [go_sem])|exact trivial|exact Sub.refl _|omega)
      · exact ints_pur _
theorem statsWidths_no {ss : List St} (hss : ¬ ssOk ss) (hl : ss.length ≤ 1048576) : Does Try.prog 42 [] [stsD ss] (intsD []) [] := by
  have hlq : (wsS ss).length = ss.length := List.length_map ..
  have hg : ∀ (i : Nat) (s : St), ss[i]? = some s → (wsS ss)[i]? = some (s.ds.length : Int) := fun i s h => by rw [wsS, List.getElem?_map, h]; rfl
  generalize wsS ss = q at *
  refine does0 c_impl_statsWidths mixed (Nat.le_of_ble_eq_true rfl) ?_
  conv => arg 3; whnf
  repeat' (first|with_reducible refine acc_none ?_ | (conv in hold _=>simp (disch:=omega) only [go_sem])|refine Stp.go ?_|(with_reducible first|refine it_pos rfl ?_|refine it_neg (by decide) ?_|refine st_nil rfl ?_|refine s_op ?_ ?_|exact trivial)|((with_reducible first|refine dw_reg0 ?_|refine dw_regB ?_);(conv=>arg 3;whnf))|(refine Spl.go (fun hq he=>?_) (fun hq he=>?_)<;>first|(exfalso;clear hq;omega)|((try first|(conv=>arg 8;simp only [hq])|(conv=>arg 4;simp only [hq]));clear hq))|((with_reducible first|refine c_split (fun hq=>?_) (fun hq=>?_)|refine q_split (fun hq=>?_) (fun hq=>?_))<;>(try first|(conv=>arg 8;simp only [hq])|(conv=>arg 4;simp only [hq])))|(with_reducible refine fin_0 ?_ (by first|rfl|(conv=>lhs;simp only [go_sem])) ?_)|exact Sub.refl _|omega)
  refine dw_for (c := 1) (l := fun i => [(3, .own 1000000 1 i), (7, stsD ss), (8, I ss.length), (9, I i), (1000000, .row 1 ((q.take i).map I))]) ss.length (fun i => ∀ (j : Nat) (s : St), j < i → ss[j]? = some s → sOkW s) 0 (by omega) ((wk_row 3 2000023 1 (by decide) (by decide) rfl rfl).trans (Wk.list [2000023] rfl rfl ?_)) (fun i hi hJ => ?_) (Nat.zero_le _)
  · repeat' (first|(conv in hold _=>simp (disch:=omega) only [go_sem])|exact trivial|exact Sub.refl _|omega)
    exact rfl
  · have htl : (q.take i).length = i := by rw [List.length_take]; omega
    have hmk := take_map I (vs := q) (i := i) (by omega)
    rcases at_or_end hi with ⟨s, hs, hil⟩ | rfl
    · have hv := ValidStats_impl s s.ds.length
      by_cases hso : sOkW s
      · have hso' := hso
        unfold sOkW at hso'
        rw [decide_eq_true hso'] at hv
        have hnx := take_next (hg i s hs)
        repeat' (first
          | with_reducible refine acc_none ?_ | (conv in hold _=>simp (disch:=omega) only [go_sem, List.getElem?_map, hs, Option.map_some, List.length_map, htl])|refine Stp.go ?_|(with_reducible first|refine it_pos rfl ?_|refine it_neg (by decide) ?_|refine st_nil rfl ?_|refine s_op ?_ ?_|exact trivial)|((with_reducible first|refine dw_reg0 ?_|refine dw_regB ?_);(conv=>arg 3;whnf))|(refine Spl.go (fun hq he=>?_) (fun hq he=>?_)<;>first|(exfalso;clear hq;omega)|((try first|(conv=>arg 8;simp only [hq])|(conv=>arg 4;simp only [hq]));clear hq))|((with_reducible first|refine c_split (fun hq=>?_) (fun hq=>?_)|refine q_split (fun hq=>?_) (fun hq=>?_))<;>(try first|(conv=>arg 8;simp only [hq])|(conv=>arg 4;simp only [hq])))|(with_reducible refine fin_0 ?_ (by first|rfl|(conv=>lhs;simp only [go_sem, List.getElem?_map, hs, Option.map_some, List.length_map, htl])) ?_)
          | (with_reducible show evC _ _ _ _ _ _ _ _ _ _ _ _
             first
             | (refine c_doesE (hv) ?_ ?_ ?_
                · ((try (conv=>rhs;simp (disch:=omega) only [go_sem, List.getElem?_map, hs, Option.map_some, List.length_map, htl])); try rfl)
                · first|rfl|(conv=>lhs;simp only [go_sem, List.getElem?_map, hs, Option.map_some, List.length_map, htl])))|exact Sub.refl _|omega)
        refine ⟨hil, upto1 (P := fun _ s => sOkW s) hs hso hJ, Wk.list [2000023] rfl rfl ?_⟩
        repeat' (first|(conv in hold _=>simp (disch:=omega) only [go_sem, List.length_map, htl])|exact trivial|exact Sub.refl _|omega)
        rw [hmk, hnx, List.map_append]
        rfl
      · have hso' := hso
        unfold sOkW at hso'
        rw [decide_eq_false hso'] at hv
        repeat' (first
          | with_reducible refine acc_none ?_ | (conv in hold _=>simp (disch:=omega) only [go_sem, List.getElem?_map, hs, Option.map_some, List.length_map, htl])|refine Stp.go ?_|(with_reducible first|refine it_pos rfl ?_|refine it_neg (by decide) ?_|refine st_nil rfl ?_|refine s_op ?_ ?_|exact trivial)|((with_reducible first|refine dw_reg0 ?_|refine dw_regB ?_);(conv=>arg 3;whnf))|(refine Spl.go (fun hq he=>?_) (fun hq he=>?_)<;>first|(exfalso;clear hq;omega)|((try first|(conv=>arg 8;simp only [hq])|(conv=>arg 4;simp only [hq]));clear hq))|((with_reducible first|refine c_split (fun hq=>?_) (fun hq=>?_)|refine q_split (fun hq=>?_) (fun hq=>?_))<;>(try first|(conv=>arg 8;simp only [hq])|(conv=>arg 4;simp only [hq])))|(with_reducible refine fin_0 ?_ (by first|rfl|(conv=>lhs;simp only [go_sem, List.getElem?_map, hs, Option.map_some, List.length_map, htl])) ?_)
          | (with_reducible show evC _ _ _ _ _ _ _ _ _ _ _ _
             first
             | (refine c_doesE (hv) ?_ ?_ ?_
                · ((try (conv=>rhs;simp (disch:=omega) only [go_sem, List.getElem?_map, hs, Option.map_some, List.length_map, htl])); try rfl)
                · first|rfl|(conv=>lhs;simp only [go_sem, List.getElem?_map, hs, Option.map_some, List.length_map, htl])))|exact Sub.refl _|omega)
        exact Sub.nul _
    · exact (hss (upto0 (P := fun _ s => sOkW s) hJ)).elim
theorem validDatabase_ok {ss : List St} (hss : ssOk ss) (hl : ss.length ≤ 1048576) (p : Pl) {n : Int} (hn : 0 ≤ n ∧ n ≤ 6) (h1 : Does Try.prog 33 [] [pD p, intsD (wsS ss)] (I n) []) : Does Try.prog 45 [] [pD p, stsD ss] (Bo (decide (0 < n))) [] := by
  have hlq : (wsS ss).length = ss.length := List.length_map ..
  have hg : ∀ (i : Nat) (s : St), ss[i]? = some s → (wsS ss)[i]? = some (s.ds.length : Int) := fun i s h => by rw [wsS, List.getElem?_map, h]; rfl
  generalize wsS ss = q at *
  refine does0 c_spec_validDatabase mixed (Nat.le_of_ble_eq_true rfl) ?_
  conv => arg 3; whnf
  repeat' (first|with_reducible refine acc_none ?_ | (conv in hold _=>simp (disch:=omega) only [go_sem])|refine Stp.go ?_|(with_reducible first|refine it_pos rfl ?_|refine it_neg (by decide) ?_|refine st_nil rfl ?_|refine s_op ?_ ?_|exact trivial)|((with_reducible first|refine dw_reg0 ?_|refine dw_regB ?_);(conv=>arg 3;whnf))|(refine Spl.go (fun hq he=>?_) (fun hq he=>?_)<;>first|(exfalso;clear hq;omega)|((try first|(conv=>arg 8;simp only [hq])|(conv=>arg 4;simp only [hq]));clear hq))|((with_reducible first|refine c_split (fun hq=>?_) (fun hq=>?_)|refine q_split (fun hq=>?_) (fun hq=>?_))<;>(try first|(conv=>arg 8;simp only [hq])|(conv=>arg 4;simp only [hq])))|(with_reducible refine fin_0 ?_ (by first|rfl|(conv=>lhs;simp only [go_sem])) ?_)|exact Sub.refl _|omega)
  refine dw_for (c := 2) (l := fun i => [(1, stsD ss), (2, .ref 1000000 0), (5, .own 1000001 1 i), (6, I i), (1000000, .obj [I p.k, I p.t, .sl 5 (p.es.map eD), intsD p.cs, .sl 5 (p.ks.map pD)]), (1000001, .row 1 ((q.take i).map I))]) ss.length (fun _ => True) 0 trivial ((wk_row 5 2000034 1 (by decide) (by decide) rfl rfl).trans (Wk.list [2000002, 2000034] rfl rfl ?_)) (fun i hi _ => ?_) (Nat.zero_le _)
  · repeat' (first|(conv in hold _=>simp (disch:=omega) only [go_sem])|exact trivial|exact Sub.refl _|omega)
    exact rfl
  · have htl : (q.take i).length = i := by rw [List.length_take]; omega
    have hmk := take_map I (vs := q) (i := i) (by omega)
    rcases at_or_end hi with ⟨s, hs, hil⟩ | rfl
    · have hv := ValidStats_spec s s.ds.length
      rw [decide_eq_true (hss i s hs)] at hv
      have hnx := take_next (hg i s hs)
      repeat' (first
        | with_reducible refine acc_none ?_ | (conv in hold _=>simp (disch:=omega) only [go_sem, List.getElem?_map, hs, Option.map_some, List.length_map, htl])|refine Stp.go ?_|(with_reducible first|refine it_pos rfl ?_|refine it_neg (by decide) ?_|refine st_nil rfl ?_|refine s_op ?_ ?_|exact trivial)|((with_reducible first|refine dw_reg0 ?_|refine dw_regB ?_);(conv=>arg 3;whnf))|(refine Spl.go (fun hq he=>?_) (fun hq he=>?_)<;>first|(exfalso;clear hq;omega)|((try first|(conv=>arg 8;simp only [hq])|(conv=>arg 4;simp only [hq]));clear hq))|((with_reducible first|refine c_split (fun hq=>?_) (fun hq=>?_)|refine q_split (fun hq=>?_) (fun hq=>?_))<;>(try first|(conv=>arg 8;simp only [hq])|(conv=>arg 4;simp only [hq])))|(with_reducible refine fin_0 ?_ (by first|rfl|(conv=>lhs;simp only [go_sem, List.getElem?_map, hs, Option.map_some, List.length_map, htl])) ?_)
        | (with_reducible show evC _ _ _ _ _ _ _ _ _ _ _ _
           first
           | (refine c_doesE (hv) ?_ ?_ ?_
              · ((try (conv=>rhs;simp (disch:=omega) only [go_sem, List.getElem?_map, hs, Option.map_some, List.length_map, htl])); try rfl)
              · first|rfl|(conv=>lhs;simp only [go_sem, List.getElem?_map, hs, Option.map_some, List.length_map, htl])))|exact Sub.refl _|omega)
      refine ⟨hil, trivial, Wk.list [1000000, 2000034] rfl rfl ?_⟩
      repeat' (first|(conv in hold _=>simp (disch:=omega) only [go_sem, List.length_map, htl])|exact trivial|exact Sub.refl _|omega)
      rw [hmk, hnx, List.map_append]
      rfl
    · have e1 : q.take ss.length = q := List.take_of_length_le (by omega)
      have e2 : (q.map I).take ss.length = q.map I := List.take_of_length_le (by rw [List.length_map]; omega)
      repeat' ((fail_if_success (with_reducible first | refine s_call ?_ | refine s_cal ?_ | refine s_inv ?_)); first | with_reducible refine acc_none ?_ | (conv in hold _=>simp (disch:=omega) only [go_sem, e1])|refine Stp.go ?_|(with_reducible first|refine it_pos rfl ?_|refine it_neg (by decide) ?_|refine st_nil rfl ?_|refine s_op ?_ ?_|exact trivial)|((with_reducible first|refine dw_reg0 ?_|refine dw_regB ?_);(conv=>arg 3;whnf))|(refine Spl.go (fun hq he=>?_) (fun hq he=>?_)<;>first|(exfalso;clear hq;omega)|((try first|(conv=>arg 8;simp only [hq])|(conv=>arg 4;simp only [hq]));clear hq))|((with_reducible first|refine c_split (fun hq=>?_) (fun hq=>?_)|refine q_split (fun hq=>?_) (fun hq=>?_))<;>(try first|(conv=>arg 8;simp only [hq])|(conv=>arg 4;simp only [hq])))|(with_reducible refine fin_0 ?_ (by first|rfl|(conv=>lhs;simp only [go_sem, e1])) ?_)|exact Sub.refl _|omega)
      refine s_pre (pre_frz (t := 36) (g := 1000001) (by decide) (by decide) rfl ?_) ?_
      rotate_left
      repeat' (first|with_reducible refine acc_none ?_ | (conv in hold _=>simp (disch:=omega) only [go_sem, e1, e2, hlq, Nat.le_refl])|refine Stp.go ?_|(with_reducible first|refine it_pos rfl ?_|refine it_neg (by decide) ?_|refine st_nil rfl ?_|refine s_op ?_ ?_|exact trivial)|((with_reducible first|refine dw_reg0 ?_|refine dw_regB ?_);(conv=>arg 3;whnf))|(refine Spl.go (fun hq he=>?_) (fun hq he=>?_)<;>first|(exfalso;clear hq;omega)|((try first|(conv=>arg 8;simp only [hq])|(conv=>arg 4;simp only [hq]));clear hq))|((with_reducible first|refine c_split (fun hq=>?_) (fun hq=>?_)|refine q_split (fun hq=>?_) (fun hq=>?_))<;>(try first|(conv=>arg 8;simp only [hq])|(conv=>arg 4;simp only [hq])))|(with_reducible refine fin_0 ?_ (by first|rfl|(conv=>lhs;simp only [go_sem, e1, e2, hlq, Nat.le_refl])) ?_)|exact Sub.refl _|omega)
      refine c_doesE (h1) ?_ ?_ ?_
      · ((try (conv=>rhs;simp (disch:=omega) only [go_sem])); try rfl)
      · first|rfl|(conv=>lhs;simp only [go_sem])
      repeat' (first|with_reducible refine acc_none ?_ | (conv in hold _=>simp (disch:=omega) only [go_sem])|refine Stp.go ?_|(with_reducible first|refine it_pos rfl ?_|refine it_neg (by decide) ?_|refine st_nil rfl ?_|refine s_op ?_ ?_|exact trivial)|((with_reducible first|refine dw_reg0 ?_|refine dw_regB ?_);(conv=>arg 3;whnf))|(refine Spl.go (fun hq he=>?_) (fun hq he=>?_)<;>first|(exfalso;clear hq;omega)|((try first|(conv=>arg 8;simp only [hq])|(conv=>arg 4;simp only [hq]));clear hq))|((with_reducible first|refine c_split (fun hq=>?_) (fun hq=>?_)|refine q_split (fun hq=>?_) (fun hq=>?_))<;>(try first|(conv=>arg 8;simp only [hq])|(conv=>arg 4;simp only [hq])))|(with_reducible refine fin_0 ?_ (by first|rfl|(conv=>lhs;simp only [go_sem])) ?_)|exact Sub.refl _|omega)
      exact ints_pur _
theorem validDatabase_no {ss : List St} (hss : ¬ ssOk ss) (hl : ss.length ≤ 1048576) (p : Pl) : Does Try.prog 45 [] [pD p, stsD ss] (Bo false) [] := by
  have hlq : (wsS ss).length = ss.length := List.length_map ..
  have hg : ∀ (i : Nat) (s : St), ss[i]? = some s → (wsS ss)[i]? = some (s.ds.length : Int) := fun i s h => by rw [wsS, List.getElem?_map, h]; rfl
  generalize wsS ss = q at *
  refine does0 c_spec_validDatabase mixed (Nat.le_of_ble_eq_true rfl) ?_
  conv => arg 3; whnf
  repeat' (first|with_reducible refine acc_none ?_ | (conv in hold _=>simp (disch:=omega) only [go_sem])|refine Stp.go ?_|(with_reducible first|refine it_pos rfl ?_|refine it_neg (by decide) ?_|refine st_nil rfl ?_|refine s_op ?_ ?_|exact trivial)|((with_reducible first|refine dw_reg0 ?_|refine dw_regB ?_);(conv=>arg 3;whnf))|(refine Spl.go (fun hq he=>?_) (fun hq he=>?_)<;>first|(exfalso;clear hq;omega)|((try first|(conv=>arg 8;simp only [hq])|(conv=>arg 4;simp only [hq]));clear hq))|((with_reducible first|refine c_split (fun hq=>?_) (fun hq=>?_)|refine q_split (fun hq=>?_) (fun hq=>?_))<;>(try first|(conv=>arg 8;simp only [hq])|(conv=>arg 4;simp only [hq])))|(with_reducible refine fin_0 ?_ (by first|rfl|(conv=>lhs;simp only [go_sem])) ?_)|exact Sub.refl _|omega)
  refine dw_for (c := 2) (l := fun i => [(1, stsD ss), (2, .ref 1000000 0), (5, .own 1000001 1 i), (6, I i), (1000000, .obj [I p.k, I p.t, .sl 5 (p.es.map eD), intsD p.cs, .sl 5 (p.ks.map pD)]), (1000001, .row 1 ((q.take i).map I))]) ss.length (fun i => ∀ (j : Nat) (s : St), j < i → ss[j]? = some s → sOkW s) 0 (by omega) ((wk_row 5 2000034 1 (by decide) (by decide) rfl rfl).trans (Wk.list [2000002, 2000034] rfl rfl ?_)) (fun i hi hJ => ?_) (Nat.zero_le _)
  · repeat' (first|(conv in hold _=>simp (disch:=omega) only [go_sem])|exact trivial|exact Sub.refl _|omega)
    exact rfl
  · have htl : (q.take i).length = i := by rw [List.length_take]; omega
    have hmk := take_map I (vs := q) (i := i) (by omega)
    rcases at_or_end hi with ⟨s, hs, hil⟩ | rfl
    · have hv := ValidStats_spec s s.ds.length
      by_cases hso : sOkW s
      · have hso' := hso
        unfold sOkW at hso'
        rw [decide_eq_true hso'] at hv
        have hnx := take_next (hg i s hs)
        repeat' (first
          | with_reducible refine acc_none ?_ | (conv in hold _=>simp (disch:=omega) only [go_sem, List.getElem?_map, hs, Option.map_some, List.length_map, htl])|refine Stp.go ?_|(with_reducible first|refine it_pos rfl ?_|refine it_neg (by decide) ?_|refine st_nil rfl ?_|refine s_op ?_ ?_|exact trivial)|((with_reducible first|refine dw_reg0 ?_|refine dw_regB ?_);(conv=>arg 3;whnf))|(refine Spl.go (fun hq he=>?_) (fun hq he=>?_)<;>first|(exfalso;clear hq;omega)|((try first|(conv=>arg 8;simp only [hq])|(conv=>arg 4;simp only [hq]));clear hq))|((with_reducible first|refine c_split (fun hq=>?_) (fun hq=>?_)|refine q_split (fun hq=>?_) (fun hq=>?_))<;>(try first|(conv=>arg 8;simp only [hq])|(conv=>arg 4;simp only [hq])))|(with_reducible refine fin_0 ?_ (by first|rfl|(conv=>lhs;simp only [go_sem, List.getElem?_map, hs, Option.map_some, List.length_map, htl])) ?_)
          | (with_reducible show evC _ _ _ _ _ _ _ _ _ _ _ _
             first
             | (refine c_doesE (hv) ?_ ?_ ?_
                · ((try (conv=>rhs;simp (disch:=omega) only [go_sem, List.getElem?_map, hs, Option.map_some, List.length_map, htl])); try rfl)
                · first|rfl|(conv=>lhs;simp only [go_sem, List.getElem?_map, hs, Option.map_some, List.length_map, htl])))|exact Sub.refl _|omega)
        refine ⟨hil, upto1 (P := fun _ s => sOkW s) hs hso hJ, Wk.list [1000000, 2000034] rfl rfl ?_⟩
        repeat' (first|(conv in hold _=>simp (disch:=omega) only [go_sem, List.length_map, htl])|exact trivial|exact Sub.refl _|omega)
        rw [hmk, hnx, List.map_append]
        rfl
      · have hso' := hso
        unfold sOkW at hso'
        rw [decide_eq_false hso'] at hv
        repeat' (first
          | with_reducible refine acc_none ?_ | (conv in hold _=>simp (disch:=omega) only [go_sem, List.getElem?_map, hs, Option.map_some])|refine Stp.go ?_|(with_reducible first|refine it_pos rfl ?_|refine it_neg (by decide) ?_|refine st_nil rfl ?_|refine s_op ?_ ?_|exact trivial)|((with_reducible first|refine dw_reg0 ?_|refine dw_regB ?_);(conv=>arg 3;whnf))|(refine Spl.go (fun hq he=>?_) (fun hq he=>?_)<;>first|(exfalso;clear hq;omega)|((try first|(conv=>arg 8;simp only [hq])|(conv=>arg 4;simp only [hq]));clear hq))|((with_reducible first|refine c_split (fun hq=>?_) (fun hq=>?_)|refine q_split (fun hq=>?_) (fun hq=>?_))<;>(try first|(conv=>arg 8;simp only [hq])|(conv=>arg 4;simp only [hq])))|(with_reducible refine fin_0 ?_ (by first|rfl|(conv=>lhs;simp only [go_sem, List.getElem?_map, hs, Option.map_some])) ?_)
          | (with_reducible show evC _ _ _ _ _ _ _ _ _ _ _ _
             first
             | (refine c_doesE (hv) ?_ ?_ ?_
                · ((try (conv=>rhs;simp (disch:=omega) only [go_sem, List.getElem?_map, hs, Option.map_some])); try rfl)
                · first|rfl|(conv=>lhs;simp only [go_sem, List.getElem?_map, hs, Option.map_some])))|exact Sub.refl _|omega)
    · exact (hss (upto0 (P := fun _ s => sOkW s) hJ)).elim
theorem rowEstimatesFor_ok (ss : List St) (hl : ss.length ≤ 1048576) : Does Try.prog 44 [] [stsD ss] (.agg [intsD (cntS ss), stsD ss]) [] := by
  have hlq : (cntS ss).length = ss.length := List.length_map ..
  have hg : ∀ (i : Nat) (s : St), ss[i]? = some s → (cntS ss)[i]? = some s.n := fun i s h => by rw [cntS, List.getElem?_map, h]; rfl
  generalize cntS ss = q at *
  refine does0 c_impl_rowEstimatesFor mixed (Nat.le_of_ble_eq_true rfl) ?_
  conv => arg 3; whnf
  repeat' (first|with_reducible refine acc_none ?_ | (conv in hold _=>simp (disch:=omega) only [go_sem])|refine Stp.go ?_|(with_reducible first|refine it_pos rfl ?_|refine it_neg (by decide) ?_|refine st_nil rfl ?_|refine s_op ?_ ?_|exact trivial)|((with_reducible first|refine dw_reg0 ?_|refine dw_regB ?_);(conv=>arg 3;whnf))|(refine Spl.go (fun hq he=>?_) (fun hq he=>?_)<;>first|(exfalso;clear hq;omega)|((try first|(conv=>arg 8;simp only [hq])|(conv=>arg 4;simp only [hq]));clear hq))|((with_reducible first|refine c_split (fun hq=>?_) (fun hq=>?_)|refine q_split (fun hq=>?_) (fun hq=>?_))<;>(try first|(conv=>arg 8;simp only [hq])|(conv=>arg 4;simp only [hq])))|(with_reducible refine fin_0 ?_ (by first|rfl|(conv=>lhs;simp only [go_sem])) ?_)|exact Sub.refl _|omega)
  refine dw_for (c := 2) (l := fun i => [(0, stsD ss), (2, .ref 1000000 0), (3, .own 1000001 1 i), (6, stsD ss), (7, I ss.length), (8, I i), (1000000, .obj [.nul, .nul]), (1000001, .row 1 ((q.take i).map I))]) ss.length (fun _ => True) 0 trivial ((wk_row 3 2000016 1 (by decide) (by decide) rfl rfl).trans (Wk.list [2000002, 2000016] rfl rfl ?_)) (fun i hi _ => ?_) (Nat.zero_le _)
  · repeat' (first|(conv in hold _=>simp (disch:=omega) only [go_sem])|exact trivial|exact Sub.refl _|omega)
    exact rfl
  · have htl : (q.take i).length = i := by rw [List.length_take]; omega
    have hmk := take_map I (vs := q) (i := i) (by omega)
    rcases at_or_end hi with ⟨s, hs, hil⟩ | rfl
    · have hnx := take_next (hg i s hs)
      repeat' (first|with_reducible refine acc_none ?_ | (conv in hold _=>simp (disch:=omega) only [go_sem, List.getElem?_map, hs, Option.map_some, List.length_map, htl])|refine Stp.go ?_|(with_reducible first|refine it_pos rfl ?_|refine it_neg (by decide) ?_|refine st_nil rfl ?_|refine s_op ?_ ?_|exact trivial)|((with_reducible first|refine dw_reg0 ?_|refine dw_regB ?_);(conv=>arg 3;whnf))|(refine Spl.go (fun hq he=>?_) (fun hq he=>?_)<;>first|(exfalso;clear hq;omega)|((try first|(conv=>arg 8;simp only [hq])|(conv=>arg 4;simp only [hq]));clear hq))|((with_reducible first|refine c_split (fun hq=>?_) (fun hq=>?_)|refine q_split (fun hq=>?_) (fun hq=>?_))<;>(try first|(conv=>arg 8;simp only [hq])|(conv=>arg 4;simp only [hq])))|(with_reducible refine fin_0 ?_ (by first|rfl|(conv=>lhs;simp only [go_sem, List.getElem?_map, hs, Option.map_some, List.length_map, htl])) ?_)|exact Sub.refl _|omega)
      refine ⟨hil, trivial, Wk.list [1000000, 2000016] rfl rfl ?_⟩
      repeat' (first|(conv in hold _=>simp (disch:=omega) only [go_sem, List.length_map, htl])|exact trivial|exact Sub.refl _|omega)
      rw [hmk, hnx, List.map_append]
      rfl
    · have e1 : q.take ss.length = q := List.take_of_length_le (by omega)
      have e2 : (q.map I).take ss.length = q.map I := List.take_of_length_le (by rw [List.length_map]; omega)
      repeat' (first|with_reducible refine acc_none ?_ | (conv in hold _=>simp (disch:=omega) only [go_sem, e1])|refine Stp.go ?_|(with_reducible first|refine it_pos rfl ?_|refine it_neg (by decide) ?_|refine st_nil rfl ?_|refine s_op ?_ ?_|exact trivial)|((with_reducible first|refine dw_reg0 ?_|refine dw_regB ?_);(conv=>arg 3;whnf))|(refine Spl.go (fun hq he=>?_) (fun hq he=>?_)<;>first|(exfalso;clear hq;omega)|((try first|(conv=>arg 8;simp only [hq])|(conv=>arg 4;simp only [hq]));clear hq))|((with_reducible first|refine c_split (fun hq=>?_) (fun hq=>?_)|refine q_split (fun hq=>?_) (fun hq=>?_))<;>(try first|(conv=>arg 8;simp only [hq])|(conv=>arg 4;simp only [hq])))|exact Sub.refl _|omega)
      refine fin_wk (wk_frzO 1000000 1000001 (by decide) (by decide) rfl (by decide) rfl ?_) ?_
      rotate_left
      (conv in hold _=>simp (disch:=omega) only [go_sem, e1, e2, hlq, Nat.le_refl])
      · refine fin_L [] ?_ ?_ rfl ?_
        repeat' (first|(conv in hold _=>simp (disch:=omega) only [go_sem])|exact trivial|exact Sub.refl _|omega)
      · exact ints_pur _
/-- A plan with a width has its estimate. -/
theorem Rows_of {ss : List St} (hss : ssOk ss) (hl : ss.length ≤ 1048576) {p : Pl} {w : Int} (hw : 0 < w ∧ w ≤ 6) (h1 : Does Try.prog 33 [] [pD p, intsD (wsS ss)] (I w) []) (h2 : Does Try.prog 13 [] [pD p, intsD (wsS ss)] (I w) []) {n : Int} (hn : EstN ss p n) : Does Try.prog 20 [] [pD p, stsD ss] (I n) [] ∧ Does Try.prog 19 [] [pD p, stsD ss] (I n) [] := by
  have hv := validDatabase_ok hss hl p (by omega) h1
  have hsw := statsWidths_ok hss hl
  have e0 : (w == 0) = false := beq_eq_false_iff_ne.2 (by omega)
  rw [decide_eq_true hw.1] at hv
  obtain ⟨_, r1, r2⟩ := hn
  have hre := rowEstimatesFor_ok ss hl
  have r3 : Does Try.prog 43 [] [pD p, esV ss] (I n) [] := by
    refine does0 c_impl_deriveProperty_int_ mixed (Nat.le_of_ble_eq_true rfl) ?_
    conv => arg 3; whnf
    repeat' (first
      | with_reducible refine acc_none ?_ | (conv in hold _=>simp (disch:=omega) only [go_sem])|refine Stp.go ?_|(with_reducible first|refine it_pos rfl ?_|refine it_neg (by decide) ?_|refine st_nil rfl ?_|refine s_op ?_ ?_|exact trivial)|((with_reducible first|refine dw_reg0 ?_|refine dw_regB ?_);(conv=>arg 3;whnf))|(refine Spl.go (fun hq he=>?_) (fun hq he=>?_)<;>first|(exfalso;clear hq;omega)|((try first|(conv=>arg 8;simp only [hq])|(conv=>arg 4;simp only [hq]));clear hq))|((with_reducible first|refine c_split (fun hq=>?_) (fun hq=>?_)|refine q_split (fun hq=>?_) (fun hq=>?_))<;>(try first|(conv=>arg 8;simp only [hq])|(conv=>arg 4;simp only [hq])))|(with_reducible refine fin_0 ?_ (by first|rfl|(conv=>lhs;simp only [go_sem])) ?_)
      | (with_reducible show evC _ _ _ _ _ _ _ _ _ _ _ _
         first
         | (refine c_doesR [2000003] (r2) (callOK_of rfl (Nat.le_of_ble_eq_true rfl) rfl ?_ ?_) ?_ ?_
            iterate 2 · repeat' (first|(conv in hold _=>simp (disch:=omega) only [go_sem])|exact trivial|exact Sub.refl _|omega)
            · ((conv=>rhs;simp (disch:=omega) only [go_sem]); try rfl)))|exact Sub.refl _|omega)
  refine ⟨?_, ?_⟩
  · refine does0 c_spec_EstimateRows mixed (Nat.le_of_ble_eq_true rfl) ?_
    conv => arg 3; whnf
    repeat' (first
      | with_reducible refine acc_none ?_ | (conv in hold _=>simp (disch:=omega) only [go_sem])|refine Stp.go ?_|(with_reducible first|refine it_pos rfl ?_|refine it_neg (by decide) ?_|refine st_nil rfl ?_|refine s_op ?_ ?_|exact trivial)|((with_reducible first|refine dw_reg0 ?_|refine dw_regB ?_);(conv=>arg 3;whnf))|(refine Spl.go (fun hq he=>?_) (fun hq he=>?_)<;>first|(exfalso;clear hq;omega)|((try first|(conv=>arg 8;simp only [hq])|(conv=>arg 4;simp only [hq]));clear hq))|((with_reducible first|refine c_split (fun hq=>?_) (fun hq=>?_)|refine q_split (fun hq=>?_) (fun hq=>?_))<;>(try first|(conv=>arg 8;simp only [hq])|(conv=>arg 4;simp only [hq])))|(with_reducible refine fin_0 ?_ (by first|rfl|(conv=>lhs;simp only [go_sem])) ?_)
      | (with_reducible show evC _ _ _ _ _ _ _ _ _ _ _ _
         first
         | (refine c_doesE (hv) ?_ ?_ ?_
            · ((try (conv=>rhs;simp (disch:=omega) only [go_sem])); try rfl)
            · first|rfl|(conv=>lhs;simp only [go_sem]))
         | (refine c_doesE (r1) ?_ ?_ ?_
            · ((try (conv=>rhs;simp (disch:=omega) only [go_sem])); try rfl)
            · first|rfl|(conv=>lhs;simp only [go_sem])))|exact Sub.refl _|omega)
  · refine does0 c_impl_EstimateRows mixed (Nat.le_of_ble_eq_true rfl) ?_
    conv => arg 3; whnf
    repeat' (first
      | with_reducible refine acc_none ?_ | (conv in hold _=>simp (disch:=omega) only [go_sem, e0])|refine Stp.go ?_|(with_reducible first|refine it_pos rfl ?_|refine it_neg (by decide) ?_|refine st_nil rfl ?_|refine s_op ?_ ?_|exact trivial)|((with_reducible first|refine dw_reg0 ?_|refine dw_regB ?_);(conv=>arg 3;whnf))|(refine Spl.go (fun hq he=>?_) (fun hq he=>?_)<;>first|(exfalso;clear hq;omega)|((try first|(conv=>arg 8;simp only [hq])|(conv=>arg 4;simp only [hq]));clear hq))|((with_reducible first|refine c_split (fun hq=>?_) (fun hq=>?_)|refine q_split (fun hq=>?_) (fun hq=>?_))<;>(try first|(conv=>arg 8;simp only [hq])|(conv=>arg 4;simp only [hq])))|(with_reducible refine fin_0 ?_ (by first|rfl|(conv=>lhs;simp only [go_sem, e0])) ?_)
      | (with_reducible show evC _ _ _ _ _ _ _ _ _ _ _ _
         first
         | (refine c_doesE (hsw) ?_ ?_ ?_
            · ((try (conv=>rhs;simp (disch:=omega) only [go_sem, e0])); try rfl)
            · first|rfl|(conv=>lhs;simp only [go_sem, e0]))
         | (refine c_doesE (h2) ?_ ?_ ?_
            · ((try (conv=>rhs;simp (disch:=omega) only [go_sem, e0])); try rfl)
            · first|rfl|(conv=>lhs;simp only [go_sem, e0]))
         | (refine c_doesE (hre) ?_ ?_ ?_
            · ((try (conv=>rhs;simp (disch:=omega) only [go_sem, e0])); try rfl)
            · first|rfl|(conv=>lhs;simp only [go_sem, e0]))
         | (refine c_doesE (r3) ?_ ?_ ?_
            · ((try (conv=>rhs;simp (disch:=omega) only [go_sem, e0])); try rfl)
            · first|rfl|(conv=>lhs;simp only [go_sem, e0])))|exact Sub.refl _|omega)
end Go.Proofs.Ytpfedjaedlfdfaa
