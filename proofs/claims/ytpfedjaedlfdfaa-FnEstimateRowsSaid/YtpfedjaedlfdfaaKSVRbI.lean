/-
  Bounds for the number of rows, in the program: a visitor. No condition.
-/
import Derived.Test.YtpfedjaedlfdfaaKSDca
import Derived.Test.YtpfedjaedlfdfaaKSDcb
import Derived.Test.YtpfedjaedlfdfaaKSDcf
import Derived.Test.YtpfedjaedlfdfaaJSVRbK
set_option maxHeartbeats 4000000
set_option maxRecDepth 100000
set_option linter.unusedVariables false
set_option linter.unusedSimpArgs false
namespace Go.Proofs.Ytpfedjaedlfdfaa
open Go.RowKit
def rbV (cnt : List Int) : D := .ifc 68 (.agg [intsD cnt])
theorem rbV_ren (L : List Nat) (cnt : List Int) : (rbV cnt).ren L = rbV cnt := rfl
attribute [go_sem] rbV rbV_ren
theorem hm_scan : methOf Try.prog 68 name_impl_scan = some 151 := by kernel_rfl
theorem hm_filter : methOf Try.prog 68 name_impl_filter = some 146 := by kernel_rfl
theorem hm_project : methOf Try.prog 68 name_impl_project = some 150 := by kernel_rfl
theorem hm_join : methOf Try.prog 68 name_impl_join = some 148 := by kernel_rfl
theorem hm_leftJoin : methOf Try.prog 68 name_impl_leftJoin = some 149 := by kernel_rfl
theorem hm_union : methOf Try.prog 68 name_impl_union = some 152 := by kernel_rfl
theorem hm_distinct : methOf Try.prog 68 name_impl_distinct = some 145 := by kernel_rfl
theorem hm_group : methOf Try.prog 68 name_impl_group = some 147 := by kernel_rfl
theorem hn_filter : NilFree Try.prog 68 name_impl_filter := fun v w => by kernel_rfl
theorem hn_project : NilFree Try.prog 68 name_impl_project := fun v w => by kernel_rfl
theorem hn_join : NilFree Try.prog 68 name_impl_join := fun v w => by kernel_rfl
theorem hn_leftJoin : NilFree Try.prog 68 name_impl_leftJoin := fun v w => by kernel_rfl
theorem hn_union : NilFree Try.prog 68 name_impl_union := fun v w => by kernel_rfl
theorem hn_distinct : NilFree Try.prog 68 name_impl_distinct := fun v w => by kernel_rfl
theorem hn_group : NilFree Try.prog 68 name_impl_group := fun v w => by kernel_rfl
theorem v_filter (cnt : List Int) (p : Pl) (a : Int) : Does Try.prog 146 [] [.agg [intsD cnt], pD p, I a] (I a) [] := by
  refine does0 c_impl_rowBounds_filter mixed (Nat.le_of_ble_eq_true rfl) ?_
  conv => arg 3; whnf
  repeat' (first|with_reducible refine acc_none ?_ | (conv in hold _=>simp (disch:=omega) only [go_sem])|refine Stp.go ?_|(with_reducible first|refine it_pos rfl ?_|refine it_neg (by decide) ?_|refine st_nil rfl ?_|refine s_op ?_ ?_|exact trivial)|((with_reducible first|refine dw_reg0 ?_|refine dw_regB ?_);(conv=>arg 3;whnf))|(refine Spl.go (fun hq he=>?_) (fun hq he=>?_)<;>first|(exfalso;clear hq;omega)|((try first|(conv=>arg 8;simp only [hq])|(conv=>arg 4;simp only [hq]));clear hq))|((with_reducible first|refine c_split (fun hq=>?_) (fun hq=>?_)|refine q_split (fun hq=>?_) (fun hq=>?_))<;>(try first|(conv=>arg 8;simp only [hq])|(conv=>arg 4;simp only [hq])))|(with_reducible refine fin_0 ?_ (by first|rfl|(conv=>lhs;simp only [go_sem])) ?_)|exact Sub.refl _|omega)
theorem v_leftJoin (cnt : List Int) (p : Pl) (a b : Int) (ha : 0 ≤ a ∧ a ≤ M) (hb : 0 ≤ b ∧ b ≤ M) : Does Try.prog 149 [] [.agg [intsD cnt], pD p, I a, I b] (I (min (a * max b 1) M)) [] := by
  have hm := mul_small ha (b := max b 1) (by unfold M at *; omega)
  have hM : M = 1000000000 := rfl
  rw [hM]
  refine does0 c_impl_rowBounds_leftJoin mixed (Nat.le_of_ble_eq_true rfl) ?_
  conv => arg 3; whnf
  repeat' (first|with_reducible refine acc_none ?_ | (conv in hold _=>simp (disch:=omega) only [go_sem])|refine Stp.go ?_|(with_reducible first|refine it_pos rfl ?_|refine it_neg (by decide) ?_|refine st_nil rfl ?_|refine s_op ?_ ?_|exact trivial)|((with_reducible first|refine dw_reg0 ?_|refine dw_regB ?_);(conv=>arg 3;whnf))|(refine Spl.go (fun hq he=>?_) (fun hq he=>?_)<;>first|(exfalso;clear hq;omega)|((try first|(conv=>arg 8;simp only [hq])|(conv=>arg 4;simp only [hq]));clear hq))|((with_reducible first|refine c_split (fun hq=>?_) (fun hq=>?_)|refine q_split (fun hq=>?_) (fun hq=>?_))<;>(try first|(conv=>arg 8;simp only [hq])|(conv=>arg 4;simp only [hq])))|(with_reducible refine fin_0 ?_ (by first|rfl|(conv=>lhs;simp only [go_sem])) ?_)|exact Sub.refl _|omega)
theorem propertyOf_ok {cnt : List Int} {p : Pl} (hp : Fine cnt.length p) (hcl : p.cs.length ≤ 1048576) {l : List Int} (hl : l.length = p.ks.length) (hr : ∀ (j : Nat) (x : Int), l[j]? = some x → 0 ≤ x ∧ x ≤ M) : Does Try.prog 71 [] [pD p, intsD l, rbV cnt] (I (rbK cnt p.k p.t p.cs.length l)) [] := by
  have hf := hp.fields
  unfold fields at hf
  by_cases h1 : p.k = 1
  · have r := v_scan (hp.scan h1)
    rw [show rbK cnt p.k p.t p.cs.length l = cnt.getD p.t.toNat 0 by unfold rbK; rw [if_pos h1]]
    refine does0 c_impl_propertyOf_int_ mixed (Nat.le_of_ble_eq_true rfl) ?_
    conv => arg 3; whnf
    repeat' (first
      | with_reducible refine acc_none ?_ | (conv in hold _=>simp (disch:=omega) only [go_sem])|refine Stp.go ?_|(with_reducible first|refine it_pos rfl ?_|refine it_neg (by decide) ?_|refine st_nil rfl ?_|refine s_op ?_ ?_|exact trivial)|((with_reducible first|refine dw_reg0 ?_|refine dw_regB ?_);(conv=>arg 3;whnf))|(refine Spl.go (fun hq he=>?_) (fun hq he=>?_)<;>first|(exfalso;clear hq;omega)|((try first|(conv=>arg 8;simp only [hq])|(conv=>arg 4;simp only [hq]));clear hq))|((with_reducible first|refine c_split (fun hq=>?_) (fun hq=>?_)|refine q_split (fun hq=>?_) (fun hq=>?_))<;>(try first|(conv=>arg 8;simp only [hq])|(conv=>arg 4;simp only [hq])))|(with_reducible refine fin_0 ?_ (by first|rfl|(conv=>lhs;simp only [go_sem])) ?_)
      | (refine i_meth (hm_scan) ?_
         refine c_doesE (r) ?_ ?_ ?_
         · ((try (conv=>rhs;simp (disch:=omega) only [go_sem])); try rfl)
         · first|rfl|(conv=>lhs;simp only [go_sem]))|exact Sub.refl _|omega)
  · obtain ⟨a, ha, ga⟩ := get_ex (ns := l) (i := 0) (by omega)
    have ra := hr 0 a ha
    by_cases h456 : p.k = 4 ∨ p.k = 5 ∨ p.k = 6
    · obtain ⟨b, hb, gb⟩ := get_ex (ns := l) (i := 1) (by omega)
      have rb := hr 1 b hb
      unfold rbK
      rw [ga, gb, if_neg h1]
      by_cases h4 : p.k = 4
      · rw [if_pos h4]
        have r := v_join cnt p a b ra rb
        refine does0 c_impl_propertyOf_int_ mixed (Nat.le_of_ble_eq_true rfl) ?_
        conv => arg 3; whnf
        repeat' (first
          | (refine s_nilb ?_
             (conv in hold _=>simp (disch:=omega) only [go_sem, List.getElem?_map, ha, hb, Option.map_some])
             refine v_nil (hn_join) ?_)
          | with_reducible refine acc_none ?_ | (conv in hold _=>simp (disch:=omega) only [go_sem, List.getElem?_map, ha, hb, Option.map_some])|refine Stp.go ?_|(with_reducible first|refine it_pos rfl ?_|refine it_neg (by decide) ?_|refine st_nil rfl ?_|refine s_op ?_ ?_|exact trivial)|((with_reducible first|refine dw_reg0 ?_|refine dw_regB ?_);(conv=>arg 3;whnf))|(refine Spl.go (fun hq he=>?_) (fun hq he=>?_)<;>first|(exfalso;clear hq;omega)|((try first|(conv=>arg 8;simp only [hq])|(conv=>arg 4;simp only [hq]));clear hq))|((with_reducible first|refine c_split (fun hq=>?_) (fun hq=>?_)|refine q_split (fun hq=>?_) (fun hq=>?_))<;>(try first|(conv=>arg 8;simp only [hq])|(conv=>arg 4;simp only [hq])))|(with_reducible refine fin_0 ?_ (by first|rfl|(conv=>lhs;simp only [go_sem, List.getElem?_map, ha, hb, Option.map_some])) ?_)
          | (refine i_meth (hm_join) ?_
             refine c_doesE (r) ?_ ?_ ?_
             · ((try (conv=>rhs;simp (disch:=omega) only [go_sem, List.getElem?_map, ha, hb, Option.map_some])); try rfl)
             · first|rfl|(conv=>lhs;simp only [go_sem, List.getElem?_map, ha, hb, Option.map_some]))|exact Sub.refl _|omega)
      · rw [if_neg h4]
        by_cases h5 : p.k = 5
        · rw [if_pos h5]
          have r := v_leftJoin cnt p a b ra rb
          refine does0 c_impl_propertyOf_int_ mixed (Nat.le_of_ble_eq_true rfl) ?_
          conv => arg 3; whnf
          repeat' (first
            | (refine s_nilb ?_
               (conv in hold _=>simp (disch:=omega) only [go_sem, List.getElem?_map, ha, hb, Option.map_some])
               refine v_nil (hn_leftJoin) ?_)
            | with_reducible refine acc_none ?_ | (conv in hold _=>simp (disch:=omega) only [go_sem, List.getElem?_map, ha, hb, Option.map_some])|refine Stp.go ?_|(with_reducible first|refine it_pos rfl ?_|refine it_neg (by decide) ?_|refine st_nil rfl ?_|refine s_op ?_ ?_|exact trivial)|((with_reducible first|refine dw_reg0 ?_|refine dw_regB ?_);(conv=>arg 3;whnf))|(refine Spl.go (fun hq he=>?_) (fun hq he=>?_)<;>first|(exfalso;clear hq;omega)|((try first|(conv=>arg 8;simp only [hq])|(conv=>arg 4;simp only [hq]));clear hq))|((with_reducible first|refine c_split (fun hq=>?_) (fun hq=>?_)|refine q_split (fun hq=>?_) (fun hq=>?_))<;>(try first|(conv=>arg 8;simp only [hq])|(conv=>arg 4;simp only [hq])))|(with_reducible refine fin_0 ?_ (by first|rfl|(conv=>lhs;simp only [go_sem, List.getElem?_map, ha, hb, Option.map_some])) ?_)
            | (refine i_meth (hm_leftJoin) ?_
               refine c_doesE (r) ?_ ?_ ?_
               · ((try (conv=>rhs;simp (disch:=omega) only [go_sem, List.getElem?_map, ha, hb, Option.map_some])); try rfl)
               · first|rfl|(conv=>lhs;simp only [go_sem, List.getElem?_map, ha, hb, Option.map_some]))|exact Sub.refl _|omega)
        · rw [if_neg h5, if_pos (by omega)]
          have r := v_union cnt p a b ra rb
          refine does0 c_impl_propertyOf_int_ mixed (Nat.le_of_ble_eq_true rfl) ?_
          conv => arg 3; whnf
          repeat' (first
            | (refine s_nilb ?_
               (conv in hold _=>simp (disch:=omega) only [go_sem, List.getElem?_map, ha, hb, Option.map_some])
               refine v_nil (hn_union) ?_)
            | with_reducible refine acc_none ?_ | (conv in hold _=>simp (disch:=omega) only [go_sem, List.getElem?_map, ha, hb, Option.map_some])|refine Stp.go ?_|(with_reducible first|refine it_pos rfl ?_|refine it_neg (by decide) ?_|refine st_nil rfl ?_|refine s_op ?_ ?_|exact trivial)|((with_reducible first|refine dw_reg0 ?_|refine dw_regB ?_);(conv=>arg 3;whnf))|(refine Spl.go (fun hq he=>?_) (fun hq he=>?_)<;>first|(exfalso;clear hq;omega)|((try first|(conv=>arg 8;simp only [hq])|(conv=>arg 4;simp only [hq]));clear hq))|((with_reducible first|refine c_split (fun hq=>?_) (fun hq=>?_)|refine q_split (fun hq=>?_) (fun hq=>?_))<;>(try first|(conv=>arg 8;simp only [hq])|(conv=>arg 4;simp only [hq])))|(with_reducible refine fin_0 ?_ (by first|rfl|(conv=>lhs;simp only [go_sem, List.getElem?_map, ha, hb, Option.map_some])) ?_)
            | (refine i_meth (hm_union) ?_
               refine c_doesE (r) ?_ ?_ ?_
               · ((try (conv=>rhs;simp (disch:=omega) only [go_sem, List.getElem?_map, ha, hb, Option.map_some])); try rfl)
               · first|rfl|(conv=>lhs;simp only [go_sem, List.getElem?_map, ha, hb, Option.map_some]))|exact Sub.refl _|omega)
    · unfold rbK
      rw [ga, if_neg h1, if_neg (by omega), if_neg (by omega), if_neg (by omega)]
      by_cases h8 : p.k = 8
      · have r := v_group cnt p a hcl
        rw [show (if p.k = 8 ∧ p.cs.length = 0 then min a 1 else a) = (if p.cs.length = 0 then min a 1 else a) by simp [h8]]
        refine does0 c_impl_propertyOf_int_ mixed (Nat.le_of_ble_eq_true rfl) ?_
        conv => arg 3; whnf
        repeat' (first
          | (refine s_nilb ?_
             (conv in hold _=>simp (disch:=omega) only [go_sem, List.getElem?_map, ha, Option.map_some])
             refine v_nil (hn_group) ?_)
          | with_reducible refine acc_none ?_ | (conv in hold _=>simp (disch:=omega) only [go_sem, List.getElem?_map, ha, Option.map_some])|refine Stp.go ?_|(with_reducible first|refine it_pos rfl ?_|refine it_neg (by decide) ?_|refine st_nil rfl ?_|refine s_op ?_ ?_|exact trivial)|((with_reducible first|refine dw_reg0 ?_|refine dw_regB ?_);(conv=>arg 3;whnf))|(refine Spl.go (fun hq he=>?_) (fun hq he=>?_)<;>first|(exfalso;clear hq;omega)|((try first|(conv=>arg 8;simp only [hq])|(conv=>arg 4;simp only [hq]));clear hq))|((with_reducible first|refine c_split (fun hq=>?_) (fun hq=>?_)|refine q_split (fun hq=>?_) (fun hq=>?_))<;>(try first|(conv=>arg 8;simp only [hq])|(conv=>arg 4;simp only [hq])))|(with_reducible refine fin_0 ?_ (by first|rfl|(conv=>lhs;simp only [go_sem, List.getElem?_map, ha, Option.map_some])) ?_)
          | (refine i_meth (hm_group) ?_
             refine c_doesE (r) ?_ ?_ ?_
             · ((try (conv=>rhs;simp (disch:=omega) only [go_sem, List.getElem?_map, ha, Option.map_some])); try rfl)
             · first|rfl|(conv=>lhs;simp only [go_sem, List.getElem?_map, ha, Option.map_some]))|exact Sub.refl _|omega)
      · rw [if_neg (fun h => h8 h.1)]
        by_cases h2 : p.k = 2
        · have r := v_filter cnt p a
          refine does0 c_impl_propertyOf_int_ mixed (Nat.le_of_ble_eq_true rfl) ?_
          conv => arg 3; whnf
          repeat' (first
            | (refine s_nilb ?_
               (conv in hold _=>simp (disch:=omega) only [go_sem, List.getElem?_map, ha, Option.map_some])
               refine v_nil (hn_filter) ?_)
            | with_reducible refine acc_none ?_ | (conv in hold _=>simp (disch:=omega) only [go_sem, List.getElem?_map, ha, Option.map_some])|refine Stp.go ?_|(with_reducible first|refine it_pos rfl ?_|refine it_neg (by decide) ?_|refine st_nil rfl ?_|refine s_op ?_ ?_|exact trivial)|((with_reducible first|refine dw_reg0 ?_|refine dw_regB ?_);(conv=>arg 3;whnf))|(refine Spl.go (fun hq he=>?_) (fun hq he=>?_)<;>first|(exfalso;clear hq;omega)|((try first|(conv=>arg 8;simp only [hq])|(conv=>arg 4;simp only [hq]));clear hq))|((with_reducible first|refine c_split (fun hq=>?_) (fun hq=>?_)|refine q_split (fun hq=>?_) (fun hq=>?_))<;>(try first|(conv=>arg 8;simp only [hq])|(conv=>arg 4;simp only [hq])))|(with_reducible refine fin_0 ?_ (by first|rfl|(conv=>lhs;simp only [go_sem, List.getElem?_map, ha, Option.map_some])) ?_)
            | (refine i_meth (hm_filter) ?_
               refine c_doesE (r) ?_ ?_ ?_
               · ((try (conv=>rhs;simp (disch:=omega) only [go_sem, List.getElem?_map, ha, Option.map_some])); try rfl)
               · first|rfl|(conv=>lhs;simp only [go_sem, List.getElem?_map, ha, Option.map_some]))|exact Sub.refl _|omega)
        · by_cases h3 : p.k = 3
          · have r := v_project cnt p a
            refine does0 c_impl_propertyOf_int_ mixed (Nat.le_of_ble_eq_true rfl) ?_
            conv => arg 3; whnf
            repeat' (first
              | (refine s_nilb ?_
                 (conv in hold _=>simp (disch:=omega) only [go_sem, List.getElem?_map, ha, Option.map_some])
                 refine v_nil (hn_project) ?_)
              | with_reducible refine acc_none ?_ | (conv in hold _=>simp (disch:=omega) only [go_sem, List.getElem?_map, ha, Option.map_some])|refine Stp.go ?_|(with_reducible first|refine it_pos rfl ?_|refine it_neg (by decide) ?_|refine st_nil rfl ?_|refine s_op ?_ ?_|exact trivial)|((with_reducible first|refine dw_reg0 ?_|refine dw_regB ?_);(conv=>arg 3;whnf))|(refine Spl.go (fun hq he=>?_) (fun hq he=>?_)<;>first|(exfalso;clear hq;omega)|((try first|(conv=>arg 8;simp only [hq])|(conv=>arg 4;simp only [hq]));clear hq))|((with_reducible first|refine c_split (fun hq=>?_) (fun hq=>?_)|refine q_split (fun hq=>?_) (fun hq=>?_))<;>(try first|(conv=>arg 8;simp only [hq])|(conv=>arg 4;simp only [hq])))|(with_reducible refine fin_0 ?_ (by first|rfl|(conv=>lhs;simp only [go_sem, List.getElem?_map, ha, Option.map_some])) ?_)
              | (refine i_meth (hm_project) ?_
                 refine c_doesE (r) ?_ ?_ ?_
                 · ((try (conv=>rhs;simp (disch:=omega) only [go_sem, List.getElem?_map, ha, Option.map_some])); try rfl)
                 · first|rfl|(conv=>lhs;simp only [go_sem, List.getElem?_map, ha, Option.map_some]))|exact Sub.refl _|omega)
          · have r := v_distinct cnt p a
            refine does0 c_impl_propertyOf_int_ mixed (Nat.le_of_ble_eq_true rfl) ?_
            conv => arg 3; whnf
            repeat' (first
              | (refine s_nilb ?_
                 (conv in hold _=>simp (disch:=omega) only [go_sem, List.getElem?_map, ha, Option.map_some])
                 refine v_nil (hn_distinct) ?_)
              | with_reducible refine acc_none ?_ | (conv in hold _=>simp (disch:=omega) only [go_sem, List.getElem?_map, ha, Option.map_some])|refine Stp.go ?_|(with_reducible first|refine it_pos rfl ?_|refine it_neg (by decide) ?_|refine st_nil rfl ?_|refine s_op ?_ ?_|exact trivial)|((with_reducible first|refine dw_reg0 ?_|refine dw_regB ?_);(conv=>arg 3;whnf))|(refine Spl.go (fun hq he=>?_) (fun hq he=>?_)<;>first|(exfalso;clear hq;omega)|((try first|(conv=>arg 8;simp only [hq])|(conv=>arg 4;simp only [hq]));clear hq))|((with_reducible first|refine c_split (fun hq=>?_) (fun hq=>?_)|refine q_split (fun hq=>?_) (fun hq=>?_))<;>(try first|(conv=>arg 8;simp only [hq])|(conv=>arg 4;simp only [hq])))|(with_reducible refine fin_0 ?_ (by first|rfl|(conv=>lhs;simp only [go_sem, List.getElem?_map, ha, Option.map_some])) ?_)
              | (refine i_meth (hm_distinct) ?_
                 refine c_doesE (r) ?_ ?_ ?_
                 · ((try (conv=>rhs;simp (disch:=omega) only [go_sem, List.getElem?_map, ha, Option.map_some])); try rfl)
                 · first|rfl|(conv=>lhs;simp only [go_sem, List.getElem?_map, ha, Option.map_some]))|exact Sub.refl _|omega)
end Go.Proofs.Ytpfedjaedlfdfaa
