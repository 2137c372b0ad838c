/-
  Estimated costs, in both packages. No condition.
-/
import Derived.Test.YtpfedjaedlfdfaaKSDca
import Derived.Test.YtpfedjaedlfdfaaKSDcc
import Derived.Test.YtpfedjaedlfdfaaKSDcf
import Derived.Test.YtpfedjaedlfdfaaKSVEstF
import Derived.Test.YtpfedjaedlfdfaaJSVRbK
set_option maxHeartbeats 4000000
set_option maxRecDepth 100000
set_option linter.unusedVariables false
set_option linter.unusedSimpArgs false
namespace Go.Proofs.Ytpfedjaedlfdfaa
open Go.RowKit
/-- The blocks of a cost under way: the model, the total, what the model knows. -/
def cstH (ss : List St) (t : Int) : List D := [.obj [.fn 76 [.ref 1000002 0]], .obj [I t], .obj [intsD (cntS ss), stsD ss]]
def cstV : D := .fn 75 [.ref 1000000 0, .ref 1000001 0]
attribute [go_sem] cstH cstV
def B60 : Int := 1152921504606846976
theorem model_ok {ss : List St} {p : Pl} {l : List Int} {n : Int} (r : Does Try.prog 71 [] [pD p, intsD l, esV ss] (I n) []) : Does Try.prog 76 [.obj [intsD (cntS ss), stsD ss]] [pD p, intsD l, .ref 1000000 0] (.tup [I n, I n]) [.obj [intsD (cntS ss), stsD ss]] := by
  refine does c_impl_estimatedCost_1 mixed (Nat.le_of_ble_eq_true rfl) 1 rfl ?_
  conv => arg 3; whnf
  repeat' (first|with_reducible refine acc_none ?_ | (conv in hold _=>simp (disch:=omega) only [go_sem])|refine Stp.go ?_|(with_reducible first|refine it_pos rfl ?_|refine it_neg (by decide) ?_|refine st_nil rfl ?_|refine s_op ?_ ?_|exact trivial)|((with_reducible first|refine dw_reg0 ?_|refine dw_regB ?_);(conv=>arg 3;whnf))|(refine Spl.go (fun hq he=>?_) (fun hq he=>?_)<;>first|(exfalso;clear hq;omega)|((try first|(conv=>arg 8;simp only [hq])|(conv=>arg 4;simp only [hq]));clear hq))|((with_reducible first|refine c_split (fun hq=>?_) (fun hq=>?_)|refine q_split (fun hq=>?_) (fun hq=>?_))<;>(try first|(conv=>arg 8;simp only [hq])|(conv=>arg 4;simp only [hq])))|(with_reducible refine fin_0 ?_ (by first|rfl|(conv=>lhs;simp only [go_sem])) ?_)|exact Sub.refl _|omega)
  refine c_doesE (r) ?_ ?_ ?_
  · ((try (conv=>rhs;simp (disch:=omega) only [go_sem])); try rfl)
  · first|rfl|(conv=>lhs;simp only [go_sem])
  repeat' (first|with_reducible refine acc_none ?_ | (conv in hold _=>simp (disch:=omega) only [go_sem])|refine Stp.go ?_|(with_reducible first|refine it_pos rfl ?_|refine it_neg (by decide) ?_|refine st_nil rfl ?_|refine s_op ?_ ?_|exact trivial)|((with_reducible first|refine dw_reg0 ?_|refine dw_regB ?_);(conv=>arg 3;whnf))|(refine Spl.go (fun hq he=>?_) (fun hq he=>?_)<;>first|(exfalso;clear hq;omega)|((try first|(conv=>arg 8;simp only [hq])|(conv=>arg 4;simp only [hq]));clear hq))|((with_reducible first|refine c_split (fun hq=>?_) (fun hq=>?_)|refine q_split (fun hq=>?_) (fun hq=>?_))<;>(try first|(conv=>arg 8;simp only [hq])|(conv=>arg 4;simp only [hq])))|(with_reducible refine fin_0 ?_ (by first|rfl|(conv=>lhs;simp only [go_sem])) ?_)|exact Sub.refl _|omega)
  refine fin_L [1000000] ?_ ?_ rfl ?_
  repeat' (first|(conv in hold _=>simp (disch:=omega) only [go_sem])|exact trivial|exact Sub.refl _|omega)
theorem visitC_ok {ss : List St} {p : Pl} {l : List Int} {n t : Int} (ht : 0 ≤ t ∧ t ≤ B60) (hn : 0 ≤ n ∧ n ≤ M) (r : Does Try.prog 71 [] [pD p, intsD l, esV ss] (I n) []) :
    Does Try.prog 75 (cstH ss t) [pD p, intsD l, .ref 1000000 0, .ref 1000001 0] (I n) (cstH ss (t + n)) := by
  have hm := model_ok r
  unfold B60 M at *
  refine does c_impl_totalCost_int__1 mixed (Nat.le_of_ble_eq_true rfl) 3 rfl ?_
  conv => arg 3; whnf
  repeat' (first|with_reducible refine acc_none ?_ | (conv in hold _=>simp (disch:=omega) only [go_sem])|refine Stp.go ?_|(with_reducible first|refine it_pos rfl ?_|refine it_neg (by decide) ?_|refine st_nil rfl ?_|refine s_op ?_ ?_|exact trivial)|((with_reducible first|refine dw_reg0 ?_|refine dw_regB ?_);(conv=>arg 3;whnf))|(refine Spl.go (fun hq he=>?_) (fun hq he=>?_)<;>first|(exfalso;clear hq;omega)|((try first|(conv=>arg 8;simp only [hq])|(conv=>arg 4;simp only [hq]));clear hq))|((with_reducible first|refine c_split (fun hq=>?_) (fun hq=>?_)|refine q_split (fun hq=>?_) (fun hq=>?_))<;>(try first|(conv=>arg 8;simp only [hq])|(conv=>arg 4;simp only [hq])))|(with_reducible refine fin_0 ?_ (by first|rfl|(conv=>lhs;simp only [go_sem])) ?_)|exact Sub.refl _|omega)
  refine v_fn ((by kernel_rfl)) ?_
  refine c_doesR [1000002] (hm) (callOK_of rfl (Nat.le_of_ble_eq_true rfl) rfl ?_ ?_) ?_ ?_
  · repeat' (first|(conv in hold _=>simp (disch:=omega) only [go_sem])|exact trivial|exact Sub.refl _|omega)
  · repeat' (first|(conv in hold _=>simp (disch:=omega) only [go_sem])|exact trivial|exact Sub.refl _|omega)
  · ((conv=>rhs;simp (disch:=omega) only [go_sem]); try rfl)
  repeat' (first|with_reducible refine acc_none ?_ | (conv in hold _=>simp (disch:=omega) only [go_sem])|refine Stp.go ?_|(with_reducible first|refine it_pos rfl ?_|refine it_neg (by decide) ?_|refine st_nil rfl ?_|refine s_op ?_ ?_|exact trivial)|((with_reducible first|refine dw_reg0 ?_|refine dw_regB ?_);(conv=>arg 3;whnf))|(refine Spl.go (fun hq he=>?_) (fun hq he=>?_)<;>first|(exfalso;clear hq;omega)|((try first|(conv=>arg 8;simp only [hq])|(conv=>arg 4;simp only [hq]));clear hq))|((with_reducible first|refine c_split (fun hq=>?_) (fun hq=>?_)|refine q_split (fun hq=>?_) (fun hq=>?_))<;>(try first|(conv=>arg 8;simp only [hq])|(conv=>arg 4;simp only [hq])))|(with_reducible refine fin_0 ?_ (by first|rfl|(conv=>lhs;simp only [go_sem])) ?_)|exact Sub.refl _|omega)
  refine fin_L [1000000, 1000001, 1000002] ?_ ?_ rfl ?_
  repeat' (first|(conv in hold _=>simp (disch:=omega) only [go_sem])|exact trivial|exact Sub.refl _|omega)
theorem sumT_le : ∀ (cs : List Int), (∀ c, c ∈ cs → 0 ≤ c) → ∀ i, 0 ≤ (cs.take i).sum ∧ (cs.take i).sum ≤ cs.sum
  | [], _, i => by rw [List.take_nil]; exact ⟨Int.le_refl _, Int.le_refl _⟩
  | c :: cs, h, i => by
    have h0 := h c (List.mem_cons_self ..)
    have ih := sumT_le cs (fun x hx => h x (List.mem_cons_of_mem _ hx))
    cases i with
    | zero =>
      have := ih cs.length
      rw [List.take_length] at this
      rw [List.take_zero, List.sum_cons]
      exact ⟨Int.le_refl _, by simp only [List.sum_nil]; omega⟩
    | succ i =>
      have := ih i
      rw [List.take_succ_cons, List.sum_cons, List.sum_cons]
      omega
theorem foldC_step (ss : List St) (p : Pl) (hs : psz p ≤ 1048576) (q cs : List Int) (hl : q.length = p.ks.length) (hlc : cs.length = p.ks.length) (hc0 : ∀ c, c ∈ cs → 0 ≤ c) (n t : Int) (ht : 0 ≤ t) (hb : t + cs.sum ≤ B60)
    (hk : ∀ (i : Nat) (x : Pl) (a c : Int), p.ks[i]? = some x → q[i]? = some a → cs[i]? = some c → ∀ u : Int, 0 ≤ u → u + c ≤ B60 → Does Try.prog 69 (cstH ss u) [pD x, cstV] (I a) (cstH ss (u + c)))
    (r : Does Try.prog 75 (cstH ss (t + cs.sum)) [pD p, intsD q, .ref 1000000 0, .ref 1000001 0] (I n) (cstH ss (t + cs.sum + n))) : Does Try.prog 69 (cstH ss t) [pD p, cstV] (I n) (cstH ss (t + (cs.sum + n))) := by
  rw [psz_eq] at hs
  have hlen := pszL_len p.ks
  rw [Int.add_assoc] at r
  refine does c_impl_foldPlan_int_ mixed (Nat.le_of_ble_eq_true rfl) 3 rfl ?_
  conv => arg 3; whnf
  repeat' (first|with_reducible refine acc_none ?_ | (conv in hold _=>simp (disch:=omega) only [go_sem])|refine Stp.go ?_|(with_reducible first|refine it_pos rfl ?_|refine it_neg (by decide) ?_|refine st_nil rfl ?_|refine s_op ?_ ?_|exact trivial)|((with_reducible first|refine dw_reg0 ?_|refine dw_regB ?_);(conv=>arg 3;whnf))|(refine Spl.go (fun hq he=>?_) (fun hq he=>?_)<;>first|(exfalso;clear hq;omega)|((try first|(conv=>arg 8;simp only [hq])|(conv=>arg 4;simp only [hq]));clear hq))|((with_reducible first|refine c_split (fun hq=>?_) (fun hq=>?_)|refine q_split (fun hq=>?_) (fun hq=>?_))<;>(try first|(conv=>arg 8;simp only [hq])|(conv=>arg 4;simp only [hq])))|(with_reducible refine fin_0 ?_ (by first|rfl|(conv=>lhs;simp only [go_sem])) ?_)|exact Sub.refl _|omega)
  refine dw_for (c := 5) (l := fun i => [(1, cstV), (2, .ref 1000003 0), (5, .own 1000004 1 i), (9, .sl 5 (p.ks.map pD)), (10, I p.ks.length), (11, I i), (1000000, .obj [.fn 76 [.ref 1000002 0]]), (1000001, .obj [I (t + (cs.take i).sum)]), (1000002, .obj [intsD (cntS ss), stsD ss]), (1000003, .obj [I p.k, I p.t, .sl 5 (p.es.map eD), intsD p.cs, .sl 5 (p.ks.map pD)]), (1000004, .row 1 ((q.take i).map I))]) p.ks.length (fun _ => True) 0 trivial ((wk_row 5 2000020 1 (by decide) (by decide) rfl rfl).trans (Wk.list [1000000, 1000001, 1000002, 2000002, 2000020] rfl rfl ?_)) (fun i hi _ => ?_) (Nat.zero_le _)
  · repeat' (first|(conv in hold _=>simp (disch:=omega) only [go_sem])|exact trivial|exact Sub.refl _|omega)
    exact ⟨rfl, by rw [List.sum_nil, Int.add_zero]⟩
  · have htl : (q.take i).length = i := by rw [List.length_take]; omega
    have hmk := take_map I (vs := q) (i := i) (by omega)
    have hsl := sumT_le cs hc0 i
    by_cases hil : i < p.ks.length
    · obtain ⟨x, hx⟩ : ∃ x, p.ks[i]? = some x := ⟨_, List.getElem?_eq_getElem hil⟩
      obtain ⟨a, hqx, _⟩ := get_ex (ns := q) (i := i) (by omega)
      obtain ⟨c, hcx, _⟩ := get_ex (ns := cs) (i := i) (by omega)
      have hsn := sum_next hcx
      have hsl2 := sumT_le cs hc0 (i + 1)
      have hix := hk i x a c hx hqx hcx (t + (cs.take i).sum) (by omega) (by omega)
      have hnx := take_next hqx
      repeat' (first|with_reducible refine acc_none ?_ | (conv in hold _=>simp (disch:=omega) only [go_sem, List.getElem?_map, hx, Option.map_some])|refine Stp.go ?_|(with_reducible first|refine it_pos rfl ?_|refine it_neg (by decide) ?_|refine st_nil rfl ?_|refine s_op ?_ ?_|exact trivial)|((with_reducible first|refine dw_reg0 ?_|refine dw_regB ?_);(conv=>arg 3;whnf))|(refine Spl.go (fun hq he=>?_) (fun hq he=>?_)<;>first|(exfalso;clear hq;omega)|((try first|(conv=>arg 8;simp only [hq])|(conv=>arg 4;simp only [hq]));clear hq))|((with_reducible first|refine c_split (fun hq=>?_) (fun hq=>?_)|refine q_split (fun hq=>?_) (fun hq=>?_))<;>(try first|(conv=>arg 8;simp only [hq])|(conv=>arg 4;simp only [hq])))|(with_reducible refine fin_0 ?_ (by first|rfl|(conv=>lhs;simp only [go_sem, List.getElem?_map, hx, Option.map_some])) ?_)|exact Sub.refl _|omega)
      refine c_doesR [1000000, 1000001, 1000002] (hix) (callOK_of rfl (Nat.le_of_ble_eq_true rfl) rfl ?_ ?_) ?_ ?_
      · repeat' (first|(conv in hold _=>simp (disch:=omega) only [go_sem, List.length_map, htl])|exact trivial|exact Sub.refl _|omega)
      · repeat' (first|(conv in hold _=>simp (disch:=omega) only [go_sem, List.length_map, htl])|exact trivial|exact Sub.refl _|omega)
      · ((conv=>rhs;simp (disch:=omega) only [go_sem, List.length_map, htl]); try rfl)
      repeat' (first|with_reducible refine acc_none ?_ | (conv in hold _=>simp (disch:=omega) only [go_sem, List.length_map, htl])|refine Stp.go ?_|(with_reducible first|refine it_pos rfl ?_|refine it_neg (by decide) ?_|refine st_nil rfl ?_|refine s_op ?_ ?_|exact trivial)|((with_reducible first|refine dw_reg0 ?_|refine dw_regB ?_);(conv=>arg 3;whnf))|(refine Spl.go (fun hq he=>?_) (fun hq he=>?_)<;>first|(exfalso;clear hq;omega)|((try first|(conv=>arg 8;simp only [hq])|(conv=>arg 4;simp only [hq]));clear hq))|((with_reducible first|refine c_split (fun hq=>?_) (fun hq=>?_)|refine q_split (fun hq=>?_) (fun hq=>?_))<;>(try first|(conv=>arg 8;simp only [hq])|(conv=>arg 4;simp only [hq])))|(with_reducible refine fin_0 ?_ (by first|rfl|(conv=>lhs;simp only [go_sem, List.length_map, htl])) ?_)|exact Sub.refl _|omega)
      refine ⟨hil, trivial, Wk.list [1000000, 1000001, 1000002, 1000003, 2000020] rfl rfl ?_⟩
      repeat' (first|(conv in hold _=>simp (disch:=omega) only [go_sem, List.length_map, htl])|exact trivial|exact Sub.refl _|omega)
      rw [hmk, hnx, List.map_append, hsn, Int.add_assoc]
      exact ⟨rfl, rfl⟩
    · obtain rfl : i = p.ks.length := by omega
      have e1 : q.take p.ks.length = q := List.take_of_length_le (by omega)
      have e2 : (q.map I).take p.ks.length = q.map I := List.take_of_length_le (by rw [List.length_map]; omega)
      have e3 : cs.take p.ks.length = cs := List.take_of_length_le (by omega)
      repeat' ((fail_if_success (with_reducible first | refine s_call ?_ | refine s_cal ?_ | refine s_inv ?_)); first | with_reducible refine acc_none ?_ | (conv in hold _=>simp (disch:=omega) only [go_sem, e1, e3])|refine Stp.go ?_|(with_reducible first|refine it_pos rfl ?_|refine it_neg (by decide) ?_|refine st_nil rfl ?_|refine s_op ?_ ?_|exact trivial)|((with_reducible first|refine dw_reg0 ?_|refine dw_regB ?_);(conv=>arg 3;whnf))|(refine Spl.go (fun hq he=>?_) (fun hq he=>?_)<;>first|(exfalso;clear hq;omega)|((try first|(conv=>arg 8;simp only [hq])|(conv=>arg 4;simp only [hq]));clear hq))|((with_reducible first|refine c_split (fun hq=>?_) (fun hq=>?_)|refine q_split (fun hq=>?_) (fun hq=>?_))<;>(try first|(conv=>arg 8;simp only [hq])|(conv=>arg 4;simp only [hq])))|(with_reducible refine fin_0 ?_ (by first|rfl|(conv=>lhs;simp only [go_sem, e1, e3])) ?_)|exact Sub.refl _|omega)
      refine s_pre (pre_frz (t := 24) (g := 1000004) (by decide) (by decide) rfl ?_) ?_
      rotate_left
      repeat' (first|with_reducible refine acc_none ?_ | (conv in hold _=>simp (disch:=omega) only [go_sem, e1, e2, e3, hl, Nat.le_refl])|refine Stp.go ?_|(with_reducible first|refine it_pos rfl ?_|refine it_neg (by decide) ?_|refine st_nil rfl ?_|refine s_op ?_ ?_|exact trivial)|((with_reducible first|refine dw_reg0 ?_|refine dw_regB ?_);(conv=>arg 3;whnf))|(refine Spl.go (fun hq he=>?_) (fun hq he=>?_)<;>first|(exfalso;clear hq;omega)|((try first|(conv=>arg 8;simp only [hq])|(conv=>arg 4;simp only [hq]));clear hq))|((with_reducible first|refine c_split (fun hq=>?_) (fun hq=>?_)|refine q_split (fun hq=>?_) (fun hq=>?_))<;>(try first|(conv=>arg 8;simp only [hq])|(conv=>arg 4;simp only [hq])))|(with_reducible refine fin_0 ?_ (by first|rfl|(conv=>lhs;simp only [go_sem, e1, e2, e3, hl, Nat.le_refl])) ?_)|exact Sub.refl _|omega)
      refine v_fn ((by kernel_rfl)) ?_
      refine c_doesR [1000000, 1000001, 1000002] (r) (callOK_of rfl (Nat.le_of_ble_eq_true rfl) rfl ?_ ?_) ?_ ?_
      · repeat' (first|(conv in hold _=>simp (disch:=omega) only [go_sem])|exact trivial|exact Sub.refl _|omega)
      · repeat' (first|(conv in hold _=>simp (disch:=omega) only [go_sem])|exact trivial|exact Sub.refl _|omega)
      · ((conv=>rhs;simp (disch:=omega) only [go_sem]); try rfl)
      repeat' (first|with_reducible refine acc_none ?_ | (conv in hold _=>simp (disch:=omega) only [go_sem])|refine Stp.go ?_|(with_reducible first|refine it_pos rfl ?_|refine it_neg (by decide) ?_|refine st_nil rfl ?_|refine s_op ?_ ?_|exact trivial)|((with_reducible first|refine dw_reg0 ?_|refine dw_regB ?_);(conv=>arg 3;whnf))|(refine Spl.go (fun hq he=>?_) (fun hq he=>?_)<;>first|(exfalso;clear hq;omega)|((try first|(conv=>arg 8;simp only [hq])|(conv=>arg 4;simp only [hq]));clear hq))|((with_reducible first|refine c_split (fun hq=>?_) (fun hq=>?_)|refine q_split (fun hq=>?_) (fun hq=>?_))<;>(try first|(conv=>arg 8;simp only [hq])|(conv=>arg 4;simp only [hq])))|(with_reducible refine fin_0 ?_ (by first|rfl|(conv=>lhs;simp only [go_sem])) ?_)|exact Sub.refl _|omega)
      refine fin_L [1000000, 1000001, 1000002] ?_ ?_ rfl ?_
      repeat' (first|(conv in hold _=>simp (disch:=omega) only [go_sem])|exact trivial|exact Sub.refl _|omega)
      exact ints_pur _
end Go.Proofs.Ytpfedjaedlfdfaa
