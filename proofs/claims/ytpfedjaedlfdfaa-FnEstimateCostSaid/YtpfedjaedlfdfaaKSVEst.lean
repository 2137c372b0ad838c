/-
  Estimated numbers of rows, in both packages: a visitor with promoted methods. No condition.
-/
import Derived.Test.YtpfedjaedlfdfaaKSDca
import Derived.Test.YtpfedjaedlfdfaaKSDcb
import Derived.Test.YtpfedjaedlfdfaaKSDcc
import Derived.Test.YtpfedjaedlfdfaaJSVRbK
import Derived.Test.YtpfedjaedlfdfaaKSVSelB
set_option maxHeartbeats 4000000
set_option maxRecDepth 100000
set_option linter.unusedVariables false
set_option linter.unusedSimpArgs false
namespace Go.Proofs.Ytpfedjaedlfdfaa
open Go.RowKit
def stsD (l : List St) : D := .sl 3 (l.map stD)
theorem sts_pur : ∀ l : List St, D.purL (l.map stD) = true
  | [] => rfl
  | p :: l => by rw [List.map_cons, D.purL, sts_pur l]; rfl
theorem sts_ren (L : List Nat) (l : List St) : D.renL L (l.map stD) = l.map stD := ren_pure.renL_pure L _ (sts_pur l)
attribute [go_sem] sts_pur sts_ren stsD stD
def cntS (ss : List St) : List Int := ss.map St.n
def wsS (ss : List St) : List Int := ss.map (fun s => (s.ds.length : Int))
def esV (ss : List St) : D := .ifc 70 (.agg [intsD (cntS ss), stsD ss])
theorem esV_ren (L : List Nat) (ss : List St) : (esV ss).ren L = esV ss := rfl
attribute [go_sem] esV esV_ren
/-- Statistics that are valid for their numbers of columns. -/
def ssOk (ss : List St) : Prop := ∀ (j : Nat) (s : St), ss[j]? = some s → (1 ≤ (s.ds.length : Int) ∧ (s.ds.length : Int) ≤ 6) ∧ stIn s s.ds.length
theorem em_filter : methOf Try.prog 70 name_impl_filter = some 153 := by kernel_rfl
theorem em_join : methOf Try.prog 70 name_impl_join = some 154 := by kernel_rfl
theorem em_leftJoin : methOf Try.prog 70 name_impl_leftJoin = some 155 := by kernel_rfl
theorem en_filter : NilFree Try.prog 70 name_impl_filter := fun v w => by kernel_rfl
theorem en_join : NilFree Try.prog 70 name_impl_join := fun v w => by kernel_rfl
theorem en_leftJoin : NilFree Try.prog 70 name_impl_leftJoin := fun v w => by kernel_rfl
theorem ep_scan : methOf1 Try.prog 70 name_impl_scan = some (151, 0, some 1) := by kernel_rfl
theorem ep_project : methOf1 Try.prog 70 name_impl_project = some (150, 0, some 1) := by kernel_rfl
theorem ep_union : methOf1 Try.prog 70 name_impl_union = some (152, 0, some 1) := by kernel_rfl
theorem ep_distinct : methOf1 Try.prog 70 name_impl_distinct = some (145, 0, some 1) := by kernel_rfl
theorem ep_group : methOf1 Try.prog 70 name_impl_group = some (147, 0, some 1) := by kernel_rfl
theorem es_cok (ss : List St) : D.getCok [intsD (cntS ss), stsD ss] 0 (some 1) := by
  show 0 + 1 ≤ 2
  decide
theorem es_at {f : FuncId} {name : String} (ss : List St) (h : methOf1 Try.prog 70 name = some (f, 0, some 1)) : MethAt Try.prog 70 name (.agg [intsD (cntS ss), stsD ss]) f (.agg [intsD (cntS ss)]) := methAt_1 h (es_cok ss)
theorem es_nil {f : FuncId} {name : String} (ss : List St) (h : methOf1 Try.prog 70 name = some (f, 0, some 1)) : NilAt Try.prog 70 name (.agg [intsD (cntS ss), stsD ss]) := nilAt_1 h (es_cok ss)
theorem redM_range {a b : Int} (ha : 0 ≤ a ∧ a ≤ M) (hb : 0 ≤ b ∧ b ≤ 1000) : (0 ≤ a * b ∧ a * b ≤ 1000000000000) ∧ 0 ≤ (a * b).tdiv 1000 ∧ (a * b).tdiv 1000 ≤ M := by
  have h1 := Int.mul_nonneg ha.1 hb.1
  have h2 := Int.mul_le_mul_of_nonneg_left hb.2 ha.1
  unfold M at *
  rw [Int.tdiv_eq_ediv_of_nonneg h1]
  omega
theorem redM_le {a b : Int} (ha : 0 ≤ a ∧ a ≤ M) (hb : 0 ≤ b ∧ b ≤ 1000) : (a * b).tdiv 1000 ≤ a := by
  have h1 := Int.mul_nonneg ha.1 hb.1
  have h2 := Int.mul_le_mul_of_nonneg_left hb.2 ha.1
  rw [Int.tdiv_eq_ediv_of_nonneg h1]
  omega
theorem redM_ok {a b : Int} (ha : 0 ≤ a ∧ a ≤ M) (hb : 0 ≤ b ∧ b ≤ 1000) : Does Try.prog 156 [] [I a, I b] (I ((a * b).tdiv 1000)) [] := by
  have h := redM_range ha hb
  unfold M at h
  refine does0 c_impl_reduced mixed (Nat.le_of_ble_eq_true rfl) ?_
  conv => arg 3; whnf
  repeat' (first|with_reducible refine acc_none ?_ | (conv in hold _=>simp (disch:=omega) only [go_sem])|refine Stp.go ?_|(with_reducible first|refine it_pos rfl ?_|refine it_neg (by decide) ?_|refine st_nil rfl ?_|refine s_op ?_ ?_|exact trivial)|((with_reducible first|refine dw_reg0 ?_|refine dw_regB ?_);(conv=>arg 3;whnf))|(refine Spl.go (fun hq he=>?_) (fun hq he=>?_)<;>first|(exfalso;clear hq;omega)|((try first|(conv=>arg 8;simp only [hq])|(conv=>arg 4;simp only [hq]));clear hq))|((with_reducible first|refine c_split (fun hq=>?_) (fun hq=>?_)|refine q_split (fun hq=>?_) (fun hq=>?_))<;>(try first|(conv=>arg 8;simp only [hq])|(conv=>arg 4;simp only [hq])))|(with_reducible refine fin_0 ?_ (by first|rfl|(conv=>lhs;simp only [go_sem])) ?_)|exact Sub.refl _|omega)
theorem fix_ok : ∀ (e : E) (w : Int) (d : Nat), eOk e w d → ∃ n : Int, (0 ≤ n ∧ n ≤ 1000) ∧ Does Try.prog 74 [] [eD e] (I n) [] ∧ Does Try.prog 158 [] [eD e] (I n) [] := by
  refine E.ind (fun e ih w d he => ?_)
  rcases eOk_kids he with ⟨h1, _⟩ | ⟨h1, a, hks, hao⟩ | ⟨h1, a, b, hks, hao, hbo⟩
  · rcases h1 with h1 | h1
    · refine ⟨333, by decide, ?_, ?_⟩
      · refine does0 c_spec_fixedPermille mixed (Nat.le_of_ble_eq_true rfl) ?_
        conv => arg 3; whnf
        repeat' (first|with_reducible refine acc_none ?_ | (conv in hold _=>simp (disch:=omega) only [go_sem])|refine Stp.go ?_|(with_reducible first|refine it_pos rfl ?_|refine it_neg (by decide) ?_|refine st_nil rfl ?_|refine s_op ?_ ?_|exact trivial)|((with_reducible first|refine dw_reg0 ?_|refine dw_regB ?_);(conv=>arg 3;whnf))|(refine Spl.go (fun hq he=>?_) (fun hq he=>?_)<;>first|(exfalso;clear hq;omega)|((try first|(conv=>arg 8;simp only [hq])|(conv=>arg 4;simp only [hq]));clear hq))|((with_reducible first|refine c_split (fun hq=>?_) (fun hq=>?_)|refine q_split (fun hq=>?_) (fun hq=>?_))<;>(try first|(conv=>arg 8;simp only [hq])|(conv=>arg 4;simp only [hq])))|(with_reducible refine fin_0 ?_ (by first|rfl|(conv=>lhs;simp only [go_sem])) ?_)|exact Sub.refl _|omega)
      · refine does0 c_impl_fixedPermille mixed (Nat.le_of_ble_eq_true rfl) ?_
        conv => arg 3; whnf
        repeat' (first|with_reducible refine acc_none ?_ | (conv in hold _=>simp (disch:=omega) only [go_sem])|refine Stp.go ?_|(with_reducible first|refine it_pos rfl ?_|refine it_neg (by decide) ?_|refine st_nil rfl ?_|refine s_op ?_ ?_|exact trivial)|((with_reducible first|refine dw_reg0 ?_|refine dw_regB ?_);(conv=>arg 3;whnf))|(refine Spl.go (fun hq he=>?_) (fun hq he=>?_)<;>first|(exfalso;clear hq;omega)|((try first|(conv=>arg 8;simp only [hq])|(conv=>arg 4;simp only [hq]));clear hq))|((with_reducible first|refine c_split (fun hq=>?_) (fun hq=>?_)|refine q_split (fun hq=>?_) (fun hq=>?_))<;>(try first|(conv=>arg 8;simp only [hq])|(conv=>arg 4;simp only [hq])))|(with_reducible refine fin_0 ?_ (by first|rfl|(conv=>lhs;simp only [go_sem])) ?_)|exact Sub.refl _|omega)
    · have hc := constantPermille_ok e.v
      by_cases ht : tr e.v = 1
      · have htb : (tr e.v == 1) = true := beq_iff_eq.2 ht
        rw [if_pos ((itr_tr _).2 ht)] at hc
        refine ⟨1000, by decide, ?_, ?_⟩
        · refine does0 c_spec_fixedPermille mixed (Nat.le_of_ble_eq_true rfl) ?_
          conv => arg 3; whnf
          repeat' (first
            | with_reducible refine acc_none ?_ | (conv in hold _=>simp (disch:=omega) only [go_sem, htb, b2i])|refine Stp.go ?_|(with_reducible first|refine it_pos rfl ?_|refine it_neg (by decide) ?_|refine st_nil rfl ?_|refine s_op ?_ ?_|exact trivial)|((with_reducible first|refine dw_reg0 ?_|refine dw_regB ?_);(conv=>arg 3;whnf))|(refine Spl.go (fun hq he=>?_) (fun hq he=>?_)<;>first|(exfalso;clear hq;omega)|((try first|(conv=>arg 8;simp only [hq])|(conv=>arg 4;simp only [hq]));clear hq))|((with_reducible first|refine c_split (fun hq=>?_) (fun hq=>?_)|refine q_split (fun hq=>?_) (fun hq=>?_))<;>(try first|(conv=>arg 8;simp only [hq])|(conv=>arg 4;simp only [hq])))|(with_reducible refine fin_0 ?_ (by first|rfl|(conv=>lhs;simp only [go_sem, htb, b2i])) ?_)
            | (with_reducible show evC _ _ _ _ _ _ _ _ _ _ _ _
               first
               | (refine c_doesE (truth_ok e.v) ?_ ?_ ?_
                  · ((try (conv=>rhs;simp (disch:=omega) only [go_sem, htb, b2i])); try rfl)
                  · first|rfl|(conv=>lhs;simp only [go_sem, htb, b2i]))
               | (refine c_doesE (toInt_ok true) ?_ ?_ ?_
                  · ((try (conv=>rhs;simp (disch:=omega) only [go_sem, htb, b2i])); try rfl)
                  · first|rfl|(conv=>lhs;simp only [go_sem, htb, b2i])))|exact Sub.refl _|omega)
        · refine does0 c_impl_fixedPermille mixed (Nat.le_of_ble_eq_true rfl) ?_
          conv => arg 3; whnf
          repeat' (first
            | with_reducible refine acc_none ?_ | (conv in hold _=>simp (disch:=omega) only [go_sem])|refine Stp.go ?_|(with_reducible first|refine it_pos rfl ?_|refine it_neg (by decide) ?_|refine st_nil rfl ?_|refine s_op ?_ ?_|exact trivial)|((with_reducible first|refine dw_reg0 ?_|refine dw_regB ?_);(conv=>arg 3;whnf))|(refine Spl.go (fun hq he=>?_) (fun hq he=>?_)<;>first|(exfalso;clear hq;omega)|((try first|(conv=>arg 8;simp only [hq])|(conv=>arg 4;simp only [hq]));clear hq))|((with_reducible first|refine c_split (fun hq=>?_) (fun hq=>?_)|refine q_split (fun hq=>?_) (fun hq=>?_))<;>(try first|(conv=>arg 8;simp only [hq])|(conv=>arg 4;simp only [hq])))|(with_reducible refine fin_0 ?_ (by first|rfl|(conv=>lhs;simp only [go_sem])) ?_)
            | (with_reducible show evC _ _ _ _ _ _ _ _ _ _ _ _
               first
               | (refine c_doesE (hc) ?_ ?_ ?_
                  · ((try (conv=>rhs;simp (disch:=omega) only [go_sem])); try rfl)
                  · first|rfl|(conv=>lhs;simp only [go_sem])))|exact Sub.refl _|omega)
      · have htb : (tr e.v == 1) = false := beq_eq_false_iff_ne.2 ht
        rw [if_neg (fun h' => ht ((itr_tr _).1 h'))] at hc
        refine ⟨0, by decide, ?_, ?_⟩
        · refine does0 c_spec_fixedPermille mixed (Nat.le_of_ble_eq_true rfl) ?_
          conv => arg 3; whnf
          repeat' (first
            | with_reducible refine acc_none ?_ | (conv in hold _=>simp (disch:=omega) only [go_sem, htb, b2i])|refine Stp.go ?_|(with_reducible first|refine it_pos rfl ?_|refine it_neg (by decide) ?_|refine st_nil rfl ?_|refine s_op ?_ ?_|exact trivial)|((with_reducible first|refine dw_reg0 ?_|refine dw_regB ?_);(conv=>arg 3;whnf))|(refine Spl.go (fun hq he=>?_) (fun hq he=>?_)<;>first|(exfalso;clear hq;omega)|((try first|(conv=>arg 8;simp only [hq])|(conv=>arg 4;simp only [hq]));clear hq))|((with_reducible first|refine c_split (fun hq=>?_) (fun hq=>?_)|refine q_split (fun hq=>?_) (fun hq=>?_))<;>(try first|(conv=>arg 8;simp only [hq])|(conv=>arg 4;simp only [hq])))|(with_reducible refine fin_0 ?_ (by first|rfl|(conv=>lhs;simp only [go_sem, htb, b2i])) ?_)
            | (with_reducible show evC _ _ _ _ _ _ _ _ _ _ _ _
               first
               | (refine c_doesE (truth_ok e.v) ?_ ?_ ?_
                  · ((try (conv=>rhs;simp (disch:=omega) only [go_sem, htb, b2i])); try rfl)
                  · first|rfl|(conv=>lhs;simp only [go_sem, htb, b2i]))
               | (refine c_doesE (toInt_ok false) ?_ ?_ ?_
                  · ((try (conv=>rhs;simp (disch:=omega) only [go_sem, htb, b2i])); try rfl)
                  · first|rfl|(conv=>lhs;simp only [go_sem, htb, b2i])))|exact Sub.refl _|omega)
        · refine does0 c_impl_fixedPermille mixed (Nat.le_of_ble_eq_true rfl) ?_
          conv => arg 3; whnf
          repeat' (first
            | with_reducible refine acc_none ?_ | (conv in hold _=>simp (disch:=omega) only [go_sem])|refine Stp.go ?_|(with_reducible first|refine it_pos rfl ?_|refine it_neg (by decide) ?_|refine st_nil rfl ?_|refine s_op ?_ ?_|exact trivial)|((with_reducible first|refine dw_reg0 ?_|refine dw_regB ?_);(conv=>arg 3;whnf))|(refine Spl.go (fun hq he=>?_) (fun hq he=>?_)<;>first|(exfalso;clear hq;omega)|((try first|(conv=>arg 8;simp only [hq])|(conv=>arg 4;simp only [hq]));clear hq))|((with_reducible first|refine c_split (fun hq=>?_) (fun hq=>?_)|refine q_split (fun hq=>?_) (fun hq=>?_))<;>(try first|(conv=>arg 8;simp only [hq])|(conv=>arg 4;simp only [hq])))|(with_reducible refine fin_0 ?_ (by first|rfl|(conv=>lhs;simp only [go_sem])) ?_)
            | (with_reducible show evC _ _ _ _ _ _ _ _ _ _ _ _
               first
               | (refine c_doesE (hc) ?_ ?_ ?_
                  · ((try (conv=>rhs;simp (disch:=omega) only [go_sem])); try rfl)
                  · first|rfl|(conv=>lhs;simp only [go_sem])))|exact Sub.refl _|omega)
  · refine ⟨333, by decide, ?_, ?_⟩
    · refine does0 c_spec_fixedPermille mixed (Nat.le_of_ble_eq_true rfl) ?_
      conv => arg 3; whnf
      repeat' (first|with_reducible refine acc_none ?_ | (conv in hold _=>simp (disch:=omega) only [go_sem])|refine Stp.go ?_|(with_reducible first|refine it_pos rfl ?_|refine it_neg (by decide) ?_|refine st_nil rfl ?_|refine s_op ?_ ?_|exact trivial)|((with_reducible first|refine dw_reg0 ?_|refine dw_regB ?_);(conv=>arg 3;whnf))|(refine Spl.go (fun hq he=>?_) (fun hq he=>?_)<;>first|(exfalso;clear hq;omega)|((try first|(conv=>arg 8;simp only [hq])|(conv=>arg 4;simp only [hq]));clear hq))|((with_reducible first|refine c_split (fun hq=>?_) (fun hq=>?_)|refine q_split (fun hq=>?_) (fun hq=>?_))<;>(try first|(conv=>arg 8;simp only [hq])|(conv=>arg 4;simp only [hq])))|(with_reducible refine fin_0 ?_ (by first|rfl|(conv=>lhs;simp only [go_sem])) ?_)|exact Sub.refl _|omega)
    · refine does0 c_impl_fixedPermille mixed (Nat.le_of_ble_eq_true rfl) ?_
      conv => arg 3; whnf
      repeat' (first|with_reducible refine acc_none ?_ | (conv in hold _=>simp (disch:=omega) only [go_sem])|refine Stp.go ?_|(with_reducible first|refine it_pos rfl ?_|refine it_neg (by decide) ?_|refine st_nil rfl ?_|refine s_op ?_ ?_|exact trivial)|((with_reducible first|refine dw_reg0 ?_|refine dw_regB ?_);(conv=>arg 3;whnf))|(refine Spl.go (fun hq he=>?_) (fun hq he=>?_)<;>first|(exfalso;clear hq;omega)|((try first|(conv=>arg 8;simp only [hq])|(conv=>arg 4;simp only [hq]));clear hq))|((with_reducible first|refine c_split (fun hq=>?_) (fun hq=>?_)|refine q_split (fun hq=>?_) (fun hq=>?_))<;>(try first|(conv=>arg 8;simp only [hq])|(conv=>arg 4;simp only [hq])))|(with_reducible refine fin_0 ?_ (by first|rfl|(conv=>lhs;simp only [go_sem])) ?_)|exact Sub.refl _|omega)
  · have hlen : e.ks.length = 2 := by rw [hks]; rfl
    by_cases h6 : e.k = 6
    · refine ⟨100, by decide, ?_, ?_⟩
      · refine does0 c_spec_fixedPermille mixed (Nat.le_of_ble_eq_true rfl) ?_
        conv => arg 3; whnf
        repeat' (first|with_reducible refine acc_none ?_ | (conv in hold _=>simp (disch:=omega) only [go_sem])|refine Stp.go ?_|(with_reducible first|refine it_pos rfl ?_|refine it_neg (by decide) ?_|refine st_nil rfl ?_|refine s_op ?_ ?_|exact trivial)|((with_reducible first|refine dw_reg0 ?_|refine dw_regB ?_);(conv=>arg 3;whnf))|(refine Spl.go (fun hq he=>?_) (fun hq he=>?_)<;>first|(exfalso;clear hq;omega)|((try first|(conv=>arg 8;simp only [hq])|(conv=>arg 4;simp only [hq]));clear hq))|((with_reducible first|refine c_split (fun hq=>?_) (fun hq=>?_)|refine q_split (fun hq=>?_) (fun hq=>?_))<;>(try first|(conv=>arg 8;simp only [hq])|(conv=>arg 4;simp only [hq])))|(with_reducible refine fin_0 ?_ (by first|rfl|(conv=>lhs;simp only [go_sem])) ?_)|exact Sub.refl _|omega)
      · refine does0 c_impl_fixedPermille mixed (Nat.le_of_ble_eq_true rfl) ?_
        conv => arg 3; whnf
        repeat' (first|with_reducible refine acc_none ?_ | (conv in hold _=>simp (disch:=omega) only [go_sem])|refine Stp.go ?_|(with_reducible first|refine it_pos rfl ?_|refine it_neg (by decide) ?_|refine st_nil rfl ?_|refine s_op ?_ ?_|exact trivial)|((with_reducible first|refine dw_reg0 ?_|refine dw_regB ?_);(conv=>arg 3;whnf))|(refine Spl.go (fun hq he=>?_) (fun hq he=>?_)<;>first|(exfalso;clear hq;omega)|((try first|(conv=>arg 8;simp only [hq])|(conv=>arg 4;simp only [hq]));clear hq))|((with_reducible first|refine c_split (fun hq=>?_) (fun hq=>?_)|refine q_split (fun hq=>?_) (fun hq=>?_))<;>(try first|(conv=>arg 8;simp only [hq])|(conv=>arg 4;simp only [hq])))|(with_reducible refine fin_0 ?_ (by first|rfl|(conv=>lhs;simp only [go_sem])) ?_)|exact Sub.refl _|omega)
    · by_cases h8 : e.k = 8
      · obtain ⟨x, hx, hA, hB⟩ := ih a (by rw [hks]; exact List.mem_cons_self ..) w (d - 1) hao
        obtain ⟨y, hy, hC, hD⟩ := ih b (by rw [hks]; exact List.mem_cons_of_mem _ (List.mem_cons_self ..)) w (d - 1) hbo
        have hm := mul_range hx hy
        have hr := red_range hx hy
        have hred := reduced_ok hx hy
        refine ⟨(x * y).tdiv 1000, by omega, ?_, ?_⟩
        · refine does0 c_spec_fixedPermille mixed (Nat.le_of_ble_eq_true rfl) ?_
          conv => arg 3; whnf
          repeat' (first
            | with_reducible refine acc_none ?_ | (conv in hold _=>simp (disch:=omega) only [go_sem, hks])|refine Stp.go ?_|(with_reducible first|refine it_pos rfl ?_|refine it_neg (by decide) ?_|refine st_nil rfl ?_|refine s_op ?_ ?_|exact trivial)|((with_reducible first|refine dw_reg0 ?_|refine dw_regB ?_);(conv=>arg 3;whnf))|(refine Spl.go (fun hq he=>?_) (fun hq he=>?_)<;>first|(exfalso;clear hq;omega)|((try first|(conv=>arg 8;simp only [hq])|(conv=>arg 4;simp only [hq]));clear hq))|((with_reducible first|refine c_split (fun hq=>?_) (fun hq=>?_)|refine q_split (fun hq=>?_) (fun hq=>?_))<;>(try first|(conv=>arg 8;simp only [hq])|(conv=>arg 4;simp only [hq])))|(with_reducible refine fin_0 ?_ (by first|rfl|(conv=>lhs;simp only [go_sem, hks])) ?_)
            | (with_reducible show evC _ _ _ _ _ _ _ _ _ _ _ _
               first
               | (refine c_doesE (hA) ?_ ?_ ?_
                  · ((try (conv=>rhs;simp (disch:=omega) only [go_sem, hks])); try rfl)
                  · first|rfl|(conv=>lhs;simp only [go_sem, hks]))
               | (refine c_doesE (hC) ?_ ?_ ?_
                  · ((try (conv=>rhs;simp (disch:=omega) only [go_sem, hks])); try rfl)
                  · first|rfl|(conv=>lhs;simp only [go_sem, hks])))|exact Sub.refl _|omega)
        · refine does0 c_impl_fixedPermille mixed (Nat.le_of_ble_eq_true rfl) ?_
          conv => arg 3; whnf
          repeat' (first
            | with_reducible refine acc_none ?_ | (conv in hold _=>simp (disch:=omega) only [go_sem, hks])|refine Stp.go ?_|(with_reducible first|refine it_pos rfl ?_|refine it_neg (by decide) ?_|refine st_nil rfl ?_|refine s_op ?_ ?_|exact trivial)|((with_reducible first|refine dw_reg0 ?_|refine dw_regB ?_);(conv=>arg 3;whnf))|(refine Spl.go (fun hq he=>?_) (fun hq he=>?_)<;>first|(exfalso;clear hq;omega)|((try first|(conv=>arg 8;simp only [hq])|(conv=>arg 4;simp only [hq]));clear hq))|((with_reducible first|refine c_split (fun hq=>?_) (fun hq=>?_)|refine q_split (fun hq=>?_) (fun hq=>?_))<;>(try first|(conv=>arg 8;simp only [hq])|(conv=>arg 4;simp only [hq])))|(with_reducible refine fin_0 ?_ (by first|rfl|(conv=>lhs;simp only [go_sem, hks])) ?_)
            | (with_reducible show evC _ _ _ _ _ _ _ _ _ _ _ _
               first
               | (refine c_doesE (hB) ?_ ?_ ?_
                  · ((try (conv=>rhs;simp (disch:=omega) only [go_sem, hks])); try rfl)
                  · first|rfl|(conv=>lhs;simp only [go_sem, hks]))
               | (refine c_doesE (hD) ?_ ?_ ?_
                  · ((try (conv=>rhs;simp (disch:=omega) only [go_sem, hks])); try rfl)
                  · first|rfl|(conv=>lhs;simp only [go_sem, hks]))
               | (refine c_doesE (hred) ?_ ?_ ?_
                  · ((try (conv=>rhs;simp (disch:=omega) only [go_sem, hks])); try rfl)
                  · first|rfl|(conv=>lhs;simp only [go_sem, hks])))|exact Sub.refl _|omega)
      · refine ⟨333, by decide, ?_, ?_⟩
        · refine does0 c_spec_fixedPermille mixed (Nat.le_of_ble_eq_true rfl) ?_
          conv => arg 3; whnf
          repeat' (first|with_reducible refine acc_none ?_ | (conv in hold _=>simp (disch:=omega) only [go_sem])|refine Stp.go ?_|(with_reducible first|refine it_pos rfl ?_|refine it_neg (by decide) ?_|refine st_nil rfl ?_|refine s_op ?_ ?_|exact trivial)|((with_reducible first|refine dw_reg0 ?_|refine dw_regB ?_);(conv=>arg 3;whnf))|(refine Spl.go (fun hq he=>?_) (fun hq he=>?_)<;>first|(exfalso;clear hq;omega)|((try first|(conv=>arg 8;simp only [hq])|(conv=>arg 4;simp only [hq]));clear hq))|((with_reducible first|refine c_split (fun hq=>?_) (fun hq=>?_)|refine q_split (fun hq=>?_) (fun hq=>?_))<;>(try first|(conv=>arg 8;simp only [hq])|(conv=>arg 4;simp only [hq])))|(with_reducible refine fin_0 ?_ (by first|rfl|(conv=>lhs;simp only [go_sem])) ?_)|exact Sub.refl _|omega)
        · refine does0 c_impl_fixedPermille mixed (Nat.le_of_ble_eq_true rfl) ?_
          conv => arg 3; whnf
          repeat' (first|with_reducible refine acc_none ?_ | (conv in hold _=>simp (disch:=omega) only [go_sem])|refine Stp.go ?_|(with_reducible first|refine it_pos rfl ?_|refine it_neg (by decide) ?_|refine st_nil rfl ?_|refine s_op ?_ ?_|exact trivial)|((with_reducible first|refine dw_reg0 ?_|refine dw_regB ?_);(conv=>arg 3;whnf))|(refine Spl.go (fun hq he=>?_) (fun hq he=>?_)<;>first|(exfalso;clear hq;omega)|((try first|(conv=>arg 8;simp only [hq])|(conv=>arg 4;simp only [hq]));clear hq))|((with_reducible first|refine c_split (fun hq=>?_) (fun hq=>?_)|refine q_split (fun hq=>?_) (fun hq=>?_))<;>(try first|(conv=>arg 8;simp only [hq])|(conv=>arg 4;simp only [hq])))|(with_reducible refine fin_0 ?_ (by first|rfl|(conv=>lhs;simp only [go_sem])) ?_)|exact Sub.refl _|omega)
/-! Parts of a plan out of their kids. -/

theorem ef_scan {ss : List St} {p x : Pl} {e : E} {s : St} {a n : Int} (hx : p.ks[0]? = some x) (hes : p.es[0]? = some e) (hk : x.k = 1) (ht : 0 ≤ x.t ∧ x.t ≤ (ss.length : Int) - 1) (hs : ss[x.t.toNat]? = some s) (ha : 0 ≤ a ∧ a ≤ M) (hn : 0 ≤ n ∧ n ≤ 1000) (hsel : Does Try.prog 157 [] [stD s, eD e] (I n) []) : Does Try.prog 153 [] [.agg [intsD (cntS ss), stsD ss], pD p, I a] (I ((a * n).tdiv 1000)) [] := by
  have hlk := (List.getElem?_eq_some_iff.1 hx).1
  have hle := (List.getElem?_eq_some_iff.1 hes).1
  have r := redM_ok ha hn
  refine does0 c_impl_rowEstimates_filter mixed (Nat.le_of_ble_eq_true rfl) ?_
  conv => arg 3; whnf
  repeat' (first
    | with_reducible refine acc_none ?_ | (conv in hold _=>simp (disch:=omega) only [go_sem, List.getElem?_map, hx, hes, hs, hk, Option.map_some])|refine Stp.go ?_|(with_reducible first|refine it_pos rfl ?_|refine it_neg (by decide) ?_|refine st_nil rfl ?_|refine s_op ?_ ?_|exact trivial)|((with_reducible first|refine dw_reg0 ?_|refine dw_regB ?_);(conv=>arg 3;whnf))|(refine Spl.go (fun hq he=>?_) (fun hq he=>?_)<;>first|(exfalso;clear hq;omega)|((try first|(conv=>arg 8;simp only [hq])|(conv=>arg 4;simp only [hq]));clear hq))|((with_reducible first|refine c_split (fun hq=>?_) (fun hq=>?_)|refine q_split (fun hq=>?_) (fun hq=>?_))<;>(try first|(conv=>arg 8;simp only [hq])|(conv=>arg 4;simp only [hq])))|(with_reducible refine fin_0 ?_ (by first|rfl|(conv=>lhs;simp only [go_sem, List.getElem?_map, hx, hes, hs, hk, Option.map_some])) ?_)
    | (with_reducible show evC _ _ _ _ _ _ _ _ _ _ _ _
       first
       | (refine c_doesE (hsel) ?_ ?_ ?_
          · ((try (conv=>rhs;simp (disch:=omega) only [go_sem, List.getElem?_map, hx, hes, hs, hk, Option.map_some])); try rfl)
          · first|rfl|(conv=>lhs;simp only [go_sem, List.getElem?_map, hx, hes, hs, hk, Option.map_some]))
       | (refine c_doesE (r) ?_ ?_ ?_
          · ((try (conv=>rhs;simp (disch:=omega) only [go_sem, List.getElem?_map, hx, hes, hs, hk, Option.map_some])); try rfl)
          · first|rfl|(conv=>lhs;simp only [go_sem, List.getElem?_map, hx, hes, hs, hk, Option.map_some])))|exact Sub.refl _|omega)
theorem ef_fix {ss : List St} {p x : Pl} {e : E} {a n : Int} (hx : p.ks[0]? = some x) (hes : p.es[0]? = some e) (hk : x.k ≠ 1) (ha : 0 ≤ a ∧ a ≤ M) (hn : 0 ≤ n ∧ n ≤ 1000) (hfx : Does Try.prog 158 [] [eD e] (I n) []) : Does Try.prog 153 [] [.agg [intsD (cntS ss), stsD ss], pD p, I a] (I ((a * n).tdiv 1000)) [] := by
  have hlk := (List.getElem?_eq_some_iff.1 hx).1
  have hle := (List.getElem?_eq_some_iff.1 hes).1
  have r := redM_ok ha hn
  refine does0 c_impl_rowEstimates_filter mixed (Nat.le_of_ble_eq_true rfl) ?_
  conv => arg 3; whnf
  repeat' (first
    | with_reducible refine acc_none ?_ | (conv in hold _=>simp (disch:=omega) only [go_sem, List.getElem?_map, hx, hes, Option.map_some])|refine Stp.go ?_|(with_reducible first|refine it_pos rfl ?_|refine it_neg (by decide) ?_|refine st_nil rfl ?_|refine s_op ?_ ?_|exact trivial)|((with_reducible first|refine dw_reg0 ?_|refine dw_regB ?_);(conv=>arg 3;whnf))|(refine Spl.go (fun hq he=>?_) (fun hq he=>?_)<;>first|(exfalso;clear hq;omega)|((try first|(conv=>arg 8;simp only [hq])|(conv=>arg 4;simp only [hq]));clear hq))|((with_reducible first|refine c_split (fun hq=>?_) (fun hq=>?_)|refine q_split (fun hq=>?_) (fun hq=>?_))<;>(try first|(conv=>arg 8;simp only [hq])|(conv=>arg 4;simp only [hq])))|(with_reducible refine fin_0 ?_ (by first|rfl|(conv=>lhs;simp only [go_sem, List.getElem?_map, hx, hes, Option.map_some])) ?_)
    | (with_reducible show evC _ _ _ _ _ _ _ _ _ _ _ _
       first
       | (refine c_doesE (hfx) ?_ ?_ ?_
          · ((try (conv=>rhs;simp (disch:=omega) only [go_sem, List.getElem?_map, hx, hes, Option.map_some])); try rfl)
          · first|rfl|(conv=>lhs;simp only [go_sem, List.getElem?_map, hx, hes, Option.map_some]))
       | (refine c_doesE (r) ?_ ?_ ?_
          · ((try (conv=>rhs;simp (disch:=omega) only [go_sem, List.getElem?_map, hx, hes, Option.map_some])); try rfl)
          · first|rfl|(conv=>lhs;simp only [go_sem, List.getElem?_map, hx, hes, Option.map_some])))|exact Sub.refl _|omega)
theorem minM_range {a b : Int} (ha : 0 ≤ a ∧ a ≤ M) (hb : 0 ≤ b ∧ b ≤ M) : 0 ≤ min (a * b) M ∧ min (a * b) M ≤ M := by
  have h := mul_small ha hb
  unfold M at *
  omega
theorem ef_join {ss : List St} {p : Pl} {e : E} {a b n : Int} (hes : p.es[0]? = some e) (ha : 0 ≤ a ∧ a ≤ M) (hb : 0 ≤ b ∧ b ≤ M) (hn : 0 ≤ n ∧ n ≤ 1000) (hfx : Does Try.prog 158 [] [eD e] (I n) []) : Does Try.prog 154 [] [.agg [intsD (cntS ss), stsD ss], pD p, I a, I b] (I ((min (a * b) M * n).tdiv 1000)) [] := by
  have hle := (List.getElem?_eq_some_iff.1 hes).1
  have j := v_join (cntS ss) p a b ha hb
  have r := redM_ok (minM_range ha hb) hn
  generalize min (a * b) M = q at *
  refine does0 c_impl_rowEstimates_join mixed (Nat.le_of_ble_eq_true rfl) ?_
  conv => arg 3; whnf
  repeat' (first
    | with_reducible refine acc_none ?_ | (conv in hold _=>simp (disch:=omega) only [go_sem, List.getElem?_map, hes, Option.map_some])|refine Stp.go ?_|(with_reducible first|refine it_pos rfl ?_|refine it_neg (by decide) ?_|refine st_nil rfl ?_|refine s_op ?_ ?_|exact trivial)|((with_reducible first|refine dw_reg0 ?_|refine dw_regB ?_);(conv=>arg 3;whnf))|(refine Spl.go (fun hq he=>?_) (fun hq he=>?_)<;>first|(exfalso;clear hq;omega)|((try first|(conv=>arg 8;simp only [hq])|(conv=>arg 4;simp only [hq]));clear hq))|((with_reducible first|refine c_split (fun hq=>?_) (fun hq=>?_)|refine q_split (fun hq=>?_) (fun hq=>?_))<;>(try first|(conv=>arg 8;simp only [hq])|(conv=>arg 4;simp only [hq])))|(with_reducible refine fin_0 ?_ (by first|rfl|(conv=>lhs;simp only [go_sem, List.getElem?_map, hes, Option.map_some])) ?_)
    | (with_reducible show evC _ _ _ _ _ _ _ _ _ _ _ _
       first
       | (refine c_doesE (j) ?_ ?_ ?_
          · ((try (conv=>rhs;simp (disch:=omega) only [go_sem, List.getElem?_map, hes, Option.map_some])); try rfl)
          · first|rfl|(conv=>lhs;simp only [go_sem, List.getElem?_map, hes, Option.map_some]))
       | (refine c_doesE (hfx) ?_ ?_ ?_
          · ((try (conv=>rhs;simp (disch:=omega) only [go_sem, List.getElem?_map, hes, Option.map_some])); try rfl)
          · first|rfl|(conv=>lhs;simp only [go_sem, List.getElem?_map, hes, Option.map_some]))
       | (refine c_doesE (r) ?_ ?_ ?_
          · ((try (conv=>rhs;simp (disch:=omega) only [go_sem, List.getElem?_map, hes, Option.map_some])); try rfl)
          · first|rfl|(conv=>lhs;simp only [go_sem, List.getElem?_map, hes, Option.map_some])))|exact Sub.refl _|omega)
theorem ef_left {ss : List St} {p : Pl} {e : E} {a b n : Int} (hes : p.es[0]? = some e) (ha : 0 ≤ a ∧ a ≤ M) (hb : 0 ≤ b ∧ b ≤ M) (hn : 0 ≤ n ∧ n ≤ 1000) (hfx : Does Try.prog 158 [] [eD e] (I n) []) : Does Try.prog 155 [] [.agg [intsD (cntS ss), stsD ss], pD p, I a, I b] (I (max ((min (a * b) M * n).tdiv 1000) a)) [] := by
  have j := ef_join (ss := ss) hes ha hb hn hfx
  generalize (min (a * b) M * n).tdiv 1000 = q at *
  refine does0 c_impl_rowEstimates_leftJoin mixed (Nat.le_of_ble_eq_true rfl) ?_
  conv => arg 3; whnf
  repeat' (first
    | with_reducible refine acc_none ?_ | (conv in hold _=>simp (disch:=omega) only [go_sem])|refine Stp.go ?_|(with_reducible first|refine it_pos rfl ?_|refine it_neg (by decide) ?_|refine st_nil rfl ?_|refine s_op ?_ ?_|exact trivial)|((with_reducible first|refine dw_reg0 ?_|refine dw_regB ?_);(conv=>arg 3;whnf))|(refine Spl.go (fun hq he=>?_) (fun hq he=>?_)<;>first|(exfalso;clear hq;omega)|((try first|(conv=>arg 8;simp only [hq])|(conv=>arg 4;simp only [hq]));clear hq))|((with_reducible first|refine c_split (fun hq=>?_) (fun hq=>?_)|refine q_split (fun hq=>?_) (fun hq=>?_))<;>(try first|(conv=>arg 8;simp only [hq])|(conv=>arg 4;simp only [hq])))|(with_reducible refine fin_0 ?_ (by first|rfl|(conv=>lhs;simp only [go_sem])) ?_)
    | (with_reducible show evC _ _ _ _ _ _ _ _ _ _ _ _
       first
       | (refine c_doesE (j) ?_ ?_ ?_
          · ((try (conv=>rhs;simp (disch:=omega) only [go_sem])); try rfl)
          · first|rfl|(conv=>lhs;simp only [go_sem])))|exact Sub.refl _|omega)
/-- What a part's estimate is in the model when its kids' are known. -/
def esStep (ss : List St) (p : Pl) (l : List Int) (n : Int) : Prop :=
  (∀ (j : Nat) (x : Pl) (m : Int), p.ks[j]? = some x → l[j]? = some m → Does Try.prog 46 [] [pD x, stsD ss] (I m) []) → Does Try.prog 46 [] [pD p, stsD ss] (I n) []
/-- The estimate is at most the bound, and the bound itself where there is no condition. -/
def esFit (ss : List St) (p : Pl) (l : List Int) (n : Int) : Prop := ((p.k = 2 ∨ p.k = 4 ∨ p.k = 5) ∨ n = rbK (cntS ss) p.k p.t p.cs.length l) ∧ n ≤ rbK (cntS ss) p.k p.t p.cs.length l
theorem esFit_eq {ss : List St} {p : Pl} {l : List Int} {n : Int} (h : rbK (cntS ss) p.k p.t p.cs.length l = n) : esFit ss p l n := ⟨.inr h.symm, by omega⟩
def esBoth (ss : List St) (p : Pl) (l : List Int) : Prop :=
  ∃ n : Int, ((0 ≤ n ∧ n ≤ M) ∧ esFit ss p l n) ∧ esStep ss p l n ∧ Does Try.prog 71 [] [pD p, intsD l, esV ss] (I n) []
theorem part_scan {ss : List St} (hss : ssOk ss) {p : Pl} (hp : FineE (wsS ss) p) (hk : p.k = 1) (l : List Int) : esBoth ss p l := by
  have hsc := hp.scan hk
  have hle : (wsS ss).length = ss.length := List.length_map ..
  have hlc : (cntS ss).length = ss.length := List.length_map ..
  obtain ⟨s, hs⟩ : ∃ s, ss[p.t.toNat]? = some s := ⟨_, List.getElem?_eq_getElem (by omega)⟩
  have hn := (hss _ s hs).2.1
  have hsc' : 0 ≤ p.t ∧ p.t ≤ ((cntS ss).length : Int) - 1 := by omega
  have r := v_scan hsc'
  have hg : (cntS ss).getD p.t.toNat 0 = s.n := by rw [List.getD_eq_getElem?_getD, cntS, List.getElem?_map, hs]; rfl
  rw [hg] at r
  rw [hle] at hsc
  refine ⟨s.n, ⟨⟨hn.1, by unfold M; omega⟩, esFit_eq ((rbK_1 _ _ _ hk).trans hg)⟩, fun _ => ?_, ?_⟩
  · refine does0 c_spec_estimate mixed (Nat.le_of_ble_eq_true rfl) ?_
    conv => arg 3; whnf
    repeat' (first|with_reducible refine acc_none ?_ | (conv in hold _=>simp (disch:=omega) only [go_sem, List.getElem?_map, hs, Option.map_some])|refine Stp.go ?_|(with_reducible first|refine it_pos rfl ?_|refine it_neg (by decide) ?_|refine st_nil rfl ?_|refine s_op ?_ ?_|exact trivial)|((with_reducible first|refine dw_reg0 ?_|refine dw_regB ?_);(conv=>arg 3;whnf))|(refine Spl.go (fun hq he=>?_) (fun hq he=>?_)<;>first|(exfalso;clear hq;omega)|((try first|(conv=>arg 8;simp only [hq])|(conv=>arg 4;simp only [hq]));clear hq))|((with_reducible first|refine c_split (fun hq=>?_) (fun hq=>?_)|refine q_split (fun hq=>?_) (fun hq=>?_))<;>(try first|(conv=>arg 8;simp only [hq])|(conv=>arg 4;simp only [hq])))|(with_reducible refine fin_0 ?_ (by first|rfl|(conv=>lhs;simp only [go_sem, List.getElem?_map, hs, Option.map_some])) ?_)|exact Sub.refl _|omega)
  · refine does0 c_impl_propertyOf_int_ mixed (Nat.le_of_ble_eq_true rfl) ?_
    conv => arg 3; whnf
    repeat' (first
      | with_reducible refine acc_none ?_ | (conv in hold _=>simp (disch:=omega) only [go_sem])|refine Stp.go ?_|(with_reducible first|refine it_pos rfl ?_|refine it_neg (by decide) ?_|refine st_nil rfl ?_|refine s_op ?_ ?_|exact trivial)|((with_reducible first|refine dw_reg0 ?_|refine dw_regB ?_);(conv=>arg 3;whnf))|(refine Spl.go (fun hq he=>?_) (fun hq he=>?_)<;>first|(exfalso;clear hq;omega)|((try first|(conv=>arg 8;simp only [hq])|(conv=>arg 4;simp only [hq]));clear hq))|((with_reducible first|refine c_split (fun hq=>?_) (fun hq=>?_)|refine q_split (fun hq=>?_) (fun hq=>?_))<;>(try first|(conv=>arg 8;simp only [hq])|(conv=>arg 4;simp only [hq])))|(with_reducible refine fin_0 ?_ (by first|rfl|(conv=>lhs;simp only [go_sem])) ?_)
      | (refine i_methP (es_at ss ep_scan) ?_
         refine c_doesE (r) ?_ ?_ ?_
         · ((try (conv=>rhs;simp (disch:=omega) only [go_sem])); try rfl)
         · first|rfl|(conv=>lhs;simp only [go_sem]))|exact Sub.refl _|omega)
theorem part_filter {ss : List St} (hss : ssOk ss) {p : Pl} (hp : FineE (wsS ss) p) (hk : p.k = 2) {l : List Int} (hl : l.length = p.ks.length) (hr : ∀ (j : Nat) (x : Int), l[j]? = some x → 0 ≤ x ∧ x ≤ M) : esBoth ss p l := by
  have hf := hp.fields
  unfold fields at hf
  have hle : (wsS ss).length = ss.length := List.length_map ..
  obtain ⟨x, hx⟩ : ∃ x, p.ks[0]? = some x := ⟨_, List.getElem?_eq_getElem (by omega)⟩
  obtain ⟨e, hes⟩ : ∃ e, p.es[0]? = some e := ⟨_, List.getElem?_eq_getElem (by omega)⟩
  obtain ⟨a, ha, ga⟩ := get_ex (ns := l) (i := 0) (by omega)
  have ra := hr 0 a ha
  have ra' := ra
  unfold M at ra'
  have hm := List.mem_of_getElem? hx
  have hem := List.mem_of_getElem? hes
  by_cases hk1 : x.k = 1
  · have hsc := (hp.kid hm).scan hk1
    rw [hle] at hsc
    obtain ⟨s, hs⟩ : ∃ s, ss[x.t.toNat]? = some s := ⟨_, List.getElem?_eq_getElem (by omega)⟩
    have hv : scanV (wsS ss) x.t = (s.ds.length : Int) := by
      unfold scanV
      rw [if_pos (by omega), List.getD_eq_getElem?_getD, wsS, List.getElem?_map, hs]
      rfl
    have heo := hp.fil hk x e hx hes hk1
    rw [hv] at heo
    obtain ⟨n, hn, h1, h2⟩ := sel_ok (hss _ s hs).2 e 8 heo
    have hrr := redM_range ra hn
    have hr2 := hrr
    unfold M at hr2
    have r := ef_scan hx hes hk1 hsc hs ra hn h2
    refine ⟨(a * n).tdiv 1000, ⟨hrr.2, .inl (.inl hk), by rw [rbK_2 _ _ _ (.inl hk), ga]; exact redM_le ra hn⟩, fun hi => ?_, ?_⟩
    · have r0 := hi 0 x a hx ha
      refine does0 c_spec_estimate mixed (Nat.le_of_ble_eq_true rfl) ?_
      conv => arg 3; whnf
      repeat' (first
        | with_reducible refine acc_none ?_ | (conv in hold _=>simp (disch:=omega) only [go_sem, List.getElem?_map, hx, hes, hs, hk1, Option.map_some])|refine Stp.go ?_|(with_reducible first|refine it_pos rfl ?_|refine it_neg (by decide) ?_|refine st_nil rfl ?_|refine s_op ?_ ?_|exact trivial)|((with_reducible first|refine dw_reg0 ?_|refine dw_regB ?_);(conv=>arg 3;whnf))|(refine Spl.go (fun hq he=>?_) (fun hq he=>?_)<;>first|(exfalso;clear hq;omega)|((try first|(conv=>arg 8;simp only [hq])|(conv=>arg 4;simp only [hq]));clear hq))|((with_reducible first|refine c_split (fun hq=>?_) (fun hq=>?_)|refine q_split (fun hq=>?_) (fun hq=>?_))<;>(try first|(conv=>arg 8;simp only [hq])|(conv=>arg 4;simp only [hq])))|(with_reducible refine fin_0 ?_ (by first|rfl|(conv=>lhs;simp only [go_sem, List.getElem?_map, hx, hes, hs, hk1, Option.map_some])) ?_)
        | (with_reducible show evC _ _ _ _ _ _ _ _ _ _ _ _
           first
           | (refine c_doesE (r0) ?_ ?_ ?_
              · ((try (conv=>rhs;simp (disch:=omega) only [go_sem, List.getElem?_map, hx, hes, hs, hk1, Option.map_some])); try rfl)
              · first|rfl|(conv=>lhs;simp only [go_sem, List.getElem?_map, hx, hes, hs, hk1, Option.map_some]))
           | (refine c_doesE (h1) ?_ ?_ ?_
              · ((try (conv=>rhs;simp (disch:=omega) only [go_sem, List.getElem?_map, hx, hes, hs, hk1, Option.map_some])); try rfl)
              · first|rfl|(conv=>lhs;simp only [go_sem, List.getElem?_map, hx, hes, hs, hk1, Option.map_some])))|exact Sub.refl _|omega)
    · refine does0 c_impl_propertyOf_int_ mixed (Nat.le_of_ble_eq_true rfl) ?_
      conv => arg 3; whnf
      repeat' (first
        | (refine s_nilb ?_
           (conv in hold _=>simp (disch:=omega) only [go_sem, List.getElem?_map, ha, Option.map_some])
           refine v_nil (en_filter) ?_)
        | with_reducible refine acc_none ?_ | (conv in hold _=>simp (disch:=omega) only [go_sem, List.getElem?_map, ha, Option.map_some])|refine Stp.go ?_|(with_reducible first|refine it_pos rfl ?_|refine it_neg (by decide) ?_|refine st_nil rfl ?_|refine s_op ?_ ?_|exact trivial)|((with_reducible first|refine dw_reg0 ?_|refine dw_regB ?_);(conv=>arg 3;whnf))|(refine Spl.go (fun hq he=>?_) (fun hq he=>?_)<;>first|(exfalso;clear hq;omega)|((try first|(conv=>arg 8;simp only [hq])|(conv=>arg 4;simp only [hq]));clear hq))|((with_reducible first|refine c_split (fun hq=>?_) (fun hq=>?_)|refine q_split (fun hq=>?_) (fun hq=>?_))<;>(try first|(conv=>arg 8;simp only [hq])|(conv=>arg 4;simp only [hq])))|(with_reducible refine fin_0 ?_ (by first|rfl|(conv=>lhs;simp only [go_sem, List.getElem?_map, ha, Option.map_some])) ?_)
        | (refine i_meth (em_filter) ?_
           refine c_doesE (r) ?_ ?_ ?_
           · ((try (conv=>rhs;simp (disch:=omega) only [go_sem, List.getElem?_map, ha, Option.map_some])); try rfl)
           · first|rfl|(conv=>lhs;simp only [go_sem, List.getElem?_map, ha, Option.map_some]))|exact Sub.refl _|omega)
  · obtain ⟨w, heo⟩ := hp.expr e hem
    obtain ⟨n, hn, h1, h2⟩ := fix_ok e w 8 heo
    have hrr := redM_range ra hn
    have hr2 := hrr
    unfold M at hr2
    have r := ef_fix (ss := ss) hx hes hk1 ra hn h2
    refine ⟨(a * n).tdiv 1000, ⟨hrr.2, .inl (.inl hk), by rw [rbK_2 _ _ _ (.inl hk), ga]; exact redM_le ra hn⟩, fun hi => ?_, ?_⟩
    · have r0 := hi 0 x a hx ha
      refine does0 c_spec_estimate mixed (Nat.le_of_ble_eq_true rfl) ?_
      conv => arg 3; whnf
      repeat' (first
        | with_reducible refine acc_none ?_ | (conv in hold _=>simp (disch:=omega) only [go_sem, List.getElem?_map, hx, hes, Option.map_some])|refine Stp.go ?_|(with_reducible first|refine it_pos rfl ?_|refine it_neg (by decide) ?_|refine st_nil rfl ?_|refine s_op ?_ ?_|exact trivial)|((with_reducible first|refine dw_reg0 ?_|refine dw_regB ?_);(conv=>arg 3;whnf))|(refine Spl.go (fun hq he=>?_) (fun hq he=>?_)<;>first|(exfalso;clear hq;omega)|((try first|(conv=>arg 8;simp only [hq])|(conv=>arg 4;simp only [hq]));clear hq))|((with_reducible first|refine c_split (fun hq=>?_) (fun hq=>?_)|refine q_split (fun hq=>?_) (fun hq=>?_))<;>(try first|(conv=>arg 8;simp only [hq])|(conv=>arg 4;simp only [hq])))|(with_reducible refine fin_0 ?_ (by first|rfl|(conv=>lhs;simp only [go_sem, List.getElem?_map, hx, hes, Option.map_some])) ?_)
        | (with_reducible show evC _ _ _ _ _ _ _ _ _ _ _ _
           first
           | (refine c_doesE (r0) ?_ ?_ ?_
              · ((try (conv=>rhs;simp (disch:=omega) only [go_sem, List.getElem?_map, hx, hes, Option.map_some])); try rfl)
              · first|rfl|(conv=>lhs;simp only [go_sem, List.getElem?_map, hx, hes, Option.map_some]))
           | (refine c_doesE (h1) ?_ ?_ ?_
              · ((try (conv=>rhs;simp (disch:=omega) only [go_sem, List.getElem?_map, hx, hes, Option.map_some])); try rfl)
              · first|rfl|(conv=>lhs;simp only [go_sem, List.getElem?_map, hx, hes, Option.map_some])))|exact Sub.refl _|omega)
    · refine does0 c_impl_propertyOf_int_ mixed (Nat.le_of_ble_eq_true rfl) ?_
      conv => arg 3; whnf
      repeat' (first
        | (refine s_nilb ?_
           (conv in hold _=>simp (disch:=omega) only [go_sem, List.getElem?_map, ha, Option.map_some])
           refine v_nil (en_filter) ?_)
        | with_reducible refine acc_none ?_ | (conv in hold _=>simp (disch:=omega) only [go_sem, List.getElem?_map, ha, Option.map_some])|refine Stp.go ?_|(with_reducible first|refine it_pos rfl ?_|refine it_neg (by decide) ?_|refine st_nil rfl ?_|refine s_op ?_ ?_|exact trivial)|((with_reducible first|refine dw_reg0 ?_|refine dw_regB ?_);(conv=>arg 3;whnf))|(refine Spl.go (fun hq he=>?_) (fun hq he=>?_)<;>first|(exfalso;clear hq;omega)|((try first|(conv=>arg 8;simp only [hq])|(conv=>arg 4;simp only [hq]));clear hq))|((with_reducible first|refine c_split (fun hq=>?_) (fun hq=>?_)|refine q_split (fun hq=>?_) (fun hq=>?_))<;>(try first|(conv=>arg 8;simp only [hq])|(conv=>arg 4;simp only [hq])))|(with_reducible refine fin_0 ?_ (by first|rfl|(conv=>lhs;simp only [go_sem, List.getElem?_map, ha, Option.map_some])) ?_)
        | (refine i_meth (em_filter) ?_
           refine c_doesE (r) ?_ ?_ ?_
           · ((try (conv=>rhs;simp (disch:=omega) only [go_sem, List.getElem?_map, ha, Option.map_some])); try rfl)
           · first|rfl|(conv=>lhs;simp only [go_sem, List.getElem?_map, ha, Option.map_some]))|exact Sub.refl _|omega)
theorem part_join {ss : List St} (hss : ssOk ss) {p : Pl} (hp : FineE (wsS ss) p) (hk : p.k = 4 ∨ p.k = 5) {l : List Int} (hl : l.length = p.ks.length) (hr : ∀ (j : Nat) (x : Int), l[j]? = some x → 0 ≤ x ∧ x ≤ M) : esBoth ss p l := by
  have hf := hp.fields
  unfold fields at hf
  obtain ⟨x, hx⟩ : ∃ x, p.ks[0]? = some x := ⟨_, List.getElem?_eq_getElem (by omega)⟩
  obtain ⟨y, hy⟩ : ∃ x, p.ks[1]? = some x := ⟨_, List.getElem?_eq_getElem (by omega)⟩
  obtain ⟨e, hes⟩ : ∃ e, p.es[0]? = some e := ⟨_, List.getElem?_eq_getElem (by omega)⟩
  obtain ⟨a, ha, ga⟩ := get_ex (ns := l) (i := 0) (by omega)
  obtain ⟨b, hb, gb⟩ := get_ex (ns := l) (i := 1) (by omega)
  have ra := hr 0 a ha
  have rb := hr 1 b hb
  have ra' := ra
  have rb' := rb
  unfold M at ra' rb'
  obtain ⟨w, heo⟩ := hp.expr e (List.mem_of_getElem? hes)
  obtain ⟨n, hn, h1, h2⟩ := fix_ok e w 8 heo
  have hmn := minM_range ra rb
  have hrr := redM_range hmn hn
  have hms := mul_small ra rb
  have hM : M = 1000000000 := rfl
  by_cases h4 : p.k = 4
  · have r := ef_join (ss := ss) hes ra rb hn h2
    refine ⟨(min (a * b) M * n).tdiv 1000, ⟨hrr.2, .inl (.inr (.inl h4)), by rw [rbK_4 _ _ _ h4, ga, gb]; exact redM_le hmn hn⟩, fun hi => ?_, ?_⟩
    · have r0 := hi 0 x a hx ha
      have r1 := hi 1 y b hy hb
      rw [hM] at hrr ⊢
      refine does0 c_spec_estimate mixed (Nat.le_of_ble_eq_true rfl) ?_
      conv => arg 3; whnf
      repeat' (first
        | with_reducible refine acc_none ?_ | (conv in hold _=>simp (disch:=omega) only [go_sem, List.getElem?_map, hx, hy, hes, Option.map_some])|refine Stp.go ?_|(with_reducible first|refine it_pos rfl ?_|refine it_neg (by decide) ?_|refine st_nil rfl ?_|refine s_op ?_ ?_|exact trivial)|((with_reducible first|refine dw_reg0 ?_|refine dw_regB ?_);(conv=>arg 3;whnf))|(refine Spl.go (fun hq he=>?_) (fun hq he=>?_)<;>first|(exfalso;clear hq;omega)|((try first|(conv=>arg 8;simp only [hq])|(conv=>arg 4;simp only [hq]));clear hq))|((with_reducible first|refine c_split (fun hq=>?_) (fun hq=>?_)|refine q_split (fun hq=>?_) (fun hq=>?_))<;>(try first|(conv=>arg 8;simp only [hq])|(conv=>arg 4;simp only [hq])))|(with_reducible refine fin_0 ?_ (by first|rfl|(conv=>lhs;simp only [go_sem, List.getElem?_map, hx, hy, hes, Option.map_some])) ?_)
        | (with_reducible show evC _ _ _ _ _ _ _ _ _ _ _ _
           first
           | (refine c_doesE (r0) ?_ ?_ ?_
              · ((try (conv=>rhs;simp (disch:=omega) only [go_sem, List.getElem?_map, hx, hy, hes, Option.map_some])); try rfl)
              · first|rfl|(conv=>lhs;simp only [go_sem, List.getElem?_map, hx, hy, hes, Option.map_some]))
           | (refine c_doesE (r1) ?_ ?_ ?_
              · ((try (conv=>rhs;simp (disch:=omega) only [go_sem, List.getElem?_map, hx, hy, hes, Option.map_some])); try rfl)
              · first|rfl|(conv=>lhs;simp only [go_sem, List.getElem?_map, hx, hy, hes, Option.map_some]))
           | (refine c_doesE (h1) ?_ ?_ ?_
              · ((try (conv=>rhs;simp (disch:=omega) only [go_sem, List.getElem?_map, hx, hy, hes, Option.map_some])); try rfl)
              · first|rfl|(conv=>lhs;simp only [go_sem, List.getElem?_map, hx, hy, hes, Option.map_some])))|exact Sub.refl _|omega)
    · refine does0 c_impl_propertyOf_int_ mixed (Nat.le_of_ble_eq_true rfl) ?_
      conv => arg 3; whnf
      repeat' (first
        | (refine s_nilb ?_
           (conv in hold _=>simp (disch:=omega) only [go_sem, List.getElem?_map, ha, hb, Option.map_some])
           refine v_nil (en_join) ?_)
        | with_reducible refine acc_none ?_ | (conv in hold _=>simp (disch:=omega) only [go_sem, List.getElem?_map, ha, hb, Option.map_some])|refine Stp.go ?_|(with_reducible first|refine it_pos rfl ?_|refine it_neg (by decide) ?_|refine st_nil rfl ?_|refine s_op ?_ ?_|exact trivial)|((with_reducible first|refine dw_reg0 ?_|refine dw_regB ?_);(conv=>arg 3;whnf))|(refine Spl.go (fun hq he=>?_) (fun hq he=>?_)<;>first|(exfalso;clear hq;omega)|((try first|(conv=>arg 8;simp only [hq])|(conv=>arg 4;simp only [hq]));clear hq))|((with_reducible first|refine c_split (fun hq=>?_) (fun hq=>?_)|refine q_split (fun hq=>?_) (fun hq=>?_))<;>(try first|(conv=>arg 8;simp only [hq])|(conv=>arg 4;simp only [hq])))|(with_reducible refine fin_0 ?_ (by first|rfl|(conv=>lhs;simp only [go_sem, List.getElem?_map, ha, hb, Option.map_some])) ?_)
        | (refine i_meth (em_join) ?_
           refine c_doesE (r) ?_ ?_ ?_
           · ((try (conv=>rhs;simp (disch:=omega) only [go_sem, List.getElem?_map, ha, hb, Option.map_some])); try rfl)
           · first|rfl|(conv=>lhs;simp only [go_sem, List.getElem?_map, ha, hb, Option.map_some]))|exact Sub.refl _|omega)
  · have h5 : p.k = 5 := by omega
    have r := ef_left (ss := ss) hes ra rb hn h2
    have hle := redM_le hmn hn
    have hab : a * b ≤ a * max b 1 := Int.mul_le_mul_of_nonneg_left (by omega) ra.1
    have ha1 : a * 1 ≤ a * max b 1 := Int.mul_le_mul_of_nonneg_left (by omega) ra.1
    refine ⟨max ((min (a * b) M * n).tdiv 1000) a, ⟨by omega, .inl (.inr (.inr h5)), by rw [rbK_5 _ _ _ h5, ga, gb]; omega⟩, fun hi => ?_, ?_⟩
    · have r0 := hi 0 x a hx ha
      have r1 := hi 1 y b hy hb
      rw [Int.max_comm]
      rw [hM] at hrr ⊢
      refine does0 c_spec_estimate mixed (Nat.le_of_ble_eq_true rfl) ?_
      conv => arg 3; whnf
      repeat' (first
        | with_reducible refine acc_none ?_ | (conv in hold _=>simp (disch:=omega) only [go_sem, List.getElem?_map, hx, hy, hes, Option.map_some])|refine Stp.go ?_|(with_reducible first|refine it_pos rfl ?_|refine it_neg (by decide) ?_|refine st_nil rfl ?_|refine s_op ?_ ?_|exact trivial)|((with_reducible first|refine dw_reg0 ?_|refine dw_regB ?_);(conv=>arg 3;whnf))|(refine Spl.go (fun hq he=>?_) (fun hq he=>?_)<;>first|(exfalso;clear hq;omega)|((try first|(conv=>arg 8;simp only [hq])|(conv=>arg 4;simp only [hq]));clear hq))|((with_reducible first|refine c_split (fun hq=>?_) (fun hq=>?_)|refine q_split (fun hq=>?_) (fun hq=>?_))<;>(try first|(conv=>arg 8;simp only [hq])|(conv=>arg 4;simp only [hq])))|(with_reducible refine fin_0 ?_ (by first|rfl|(conv=>lhs;simp only [go_sem, List.getElem?_map, hx, hy, hes, Option.map_some])) ?_)
        | (with_reducible show evC _ _ _ _ _ _ _ _ _ _ _ _
           first
           | (refine c_doesE (r0) ?_ ?_ ?_
              · ((try (conv=>rhs;simp (disch:=omega) only [go_sem, List.getElem?_map, hx, hy, hes, Option.map_some])); try rfl)
              · first|rfl|(conv=>lhs;simp only [go_sem, List.getElem?_map, hx, hy, hes, Option.map_some]))
           | (refine c_doesE (r1) ?_ ?_ ?_
              · ((try (conv=>rhs;simp (disch:=omega) only [go_sem, List.getElem?_map, hx, hy, hes, Option.map_some])); try rfl)
              · first|rfl|(conv=>lhs;simp only [go_sem, List.getElem?_map, hx, hy, hes, Option.map_some]))
           | (refine c_doesE (h1) ?_ ?_ ?_
              · ((try (conv=>rhs;simp (disch:=omega) only [go_sem, List.getElem?_map, hx, hy, hes, Option.map_some])); try rfl)
              · first|rfl|(conv=>lhs;simp only [go_sem, List.getElem?_map, hx, hy, hes, Option.map_some])))|exact Sub.refl _|omega)
    · refine does0 c_impl_propertyOf_int_ mixed (Nat.le_of_ble_eq_true rfl) ?_
      conv => arg 3; whnf
      repeat' (first
        | (refine s_nilb ?_
           (conv in hold _=>simp (disch:=omega) only [go_sem, List.getElem?_map, ha, hb, Option.map_some])
           refine v_nil (en_leftJoin) ?_)
        | with_reducible refine acc_none ?_ | (conv in hold _=>simp (disch:=omega) only [go_sem, List.getElem?_map, ha, hb, Option.map_some])|refine Stp.go ?_|(with_reducible first|refine it_pos rfl ?_|refine it_neg (by decide) ?_|refine st_nil rfl ?_|refine s_op ?_ ?_|exact trivial)|((with_reducible first|refine dw_reg0 ?_|refine dw_regB ?_);(conv=>arg 3;whnf))|(refine Spl.go (fun hq he=>?_) (fun hq he=>?_)<;>first|(exfalso;clear hq;omega)|((try first|(conv=>arg 8;simp only [hq])|(conv=>arg 4;simp only [hq]));clear hq))|((with_reducible first|refine c_split (fun hq=>?_) (fun hq=>?_)|refine q_split (fun hq=>?_) (fun hq=>?_))<;>(try first|(conv=>arg 8;simp only [hq])|(conv=>arg 4;simp only [hq])))|(with_reducible refine fin_0 ?_ (by first|rfl|(conv=>lhs;simp only [go_sem, List.getElem?_map, ha, hb, Option.map_some])) ?_)
        | (refine i_meth (em_leftJoin) ?_
           refine c_doesE (r) ?_ ?_ ?_
           · ((try (conv=>rhs;simp (disch:=omega) only [go_sem, List.getElem?_map, ha, hb, Option.map_some])); try rfl)
           · first|rfl|(conv=>lhs;simp only [go_sem, List.getElem?_map, ha, hb, Option.map_some]))|exact Sub.refl _|omega)
theorem part_rest {ss : List St} (hss : ssOk ss) {p : Pl} (hp : FineE (wsS ss) p) (hk : p.k = 3 ∨ p.k = 6 ∨ p.k = 7 ∨ p.k = 8) (hcl : p.cs.length ≤ 1048576) {l : List Int} (hl : l.length = p.ks.length) (hr : ∀ (j : Nat) (x : Int), l[j]? = some x → 0 ≤ x ∧ x ≤ M) : esBoth ss p l := by
  have hf := hp.fields
  unfold fields at hf
  obtain ⟨x, hx⟩ : ∃ x, p.ks[0]? = some x := ⟨_, List.getElem?_eq_getElem (by omega)⟩
  obtain ⟨a, ha, ga⟩ := get_ex (ns := l) (i := 0) (by omega)
  have ra := hr 0 a ha
  have ra' := ra
  unfold M at ra'
  have hM : M = 1000000000 := rfl
  by_cases h6 : p.k = 6
  · obtain ⟨y, hy⟩ : ∃ x, p.ks[1]? = some x := ⟨_, List.getElem?_eq_getElem (by omega)⟩
    obtain ⟨b, hb, gb⟩ := get_ex (ns := l) (i := 1) (by omega)
    have rb := hr 1 b hb
    have rb' := rb
    unfold M at rb'
    have r := v_union (cntS ss) p a b ra rb
    refine ⟨min (a + b) M, ⟨by omega, esFit_eq (by rw [rbK_6 _ _ _ h6, ga, gb])⟩, fun hi => ?_, ?_⟩
    · have r0 := hi 0 x a hx ha
      have r1 := hi 1 y b hy hb
      rw [hM]
      refine does0 c_spec_estimate mixed (Nat.le_of_ble_eq_true rfl) ?_
      conv => arg 3; whnf
      repeat' (first
        | with_reducible refine acc_none ?_ | (conv in hold _=>simp (disch:=omega) only [go_sem, List.getElem?_map, hx, hy, Option.map_some])|refine Stp.go ?_|(with_reducible first|refine it_pos rfl ?_|refine it_neg (by decide) ?_|refine st_nil rfl ?_|refine s_op ?_ ?_|exact trivial)|((with_reducible first|refine dw_reg0 ?_|refine dw_regB ?_);(conv=>arg 3;whnf))|(refine Spl.go (fun hq he=>?_) (fun hq he=>?_)<;>first|(exfalso;clear hq;omega)|((try first|(conv=>arg 8;simp only [hq])|(conv=>arg 4;simp only [hq]));clear hq))|((with_reducible first|refine c_split (fun hq=>?_) (fun hq=>?_)|refine q_split (fun hq=>?_) (fun hq=>?_))<;>(try first|(conv=>arg 8;simp only [hq])|(conv=>arg 4;simp only [hq])))|(with_reducible refine fin_0 ?_ (by first|rfl|(conv=>lhs;simp only [go_sem, List.getElem?_map, hx, hy, Option.map_some])) ?_)
        | (with_reducible show evC _ _ _ _ _ _ _ _ _ _ _ _
           first
           | (refine c_doesE (r0) ?_ ?_ ?_
              · ((try (conv=>rhs;simp (disch:=omega) only [go_sem, List.getElem?_map, hx, hy, Option.map_some])); try rfl)
              · first|rfl|(conv=>lhs;simp only [go_sem, List.getElem?_map, hx, hy, Option.map_some]))
           | (refine c_doesE (r1) ?_ ?_ ?_
              · ((try (conv=>rhs;simp (disch:=omega) only [go_sem, List.getElem?_map, hx, hy, Option.map_some])); try rfl)
              · first|rfl|(conv=>lhs;simp only [go_sem, List.getElem?_map, hx, hy, Option.map_some])))|exact Sub.refl _|omega)
    · refine does0 c_impl_propertyOf_int_ mixed (Nat.le_of_ble_eq_true rfl) ?_
      conv => arg 3; whnf
      repeat' (first
        | (refine s_nilb ?_
           (conv in hold _=>simp (disch:=omega) only [go_sem, List.getElem?_map, ha, hb, Option.map_some])
           refine v_nilP (es_nil ss ep_union) ?_)
        | with_reducible refine acc_none ?_ | (conv in hold _=>simp (disch:=omega) only [go_sem, List.getElem?_map, ha, hb, Option.map_some])|refine Stp.go ?_|(with_reducible first|refine it_pos rfl ?_|refine it_neg (by decide) ?_|refine st_nil rfl ?_|refine s_op ?_ ?_|exact trivial)|((with_reducible first|refine dw_reg0 ?_|refine dw_regB ?_);(conv=>arg 3;whnf))|(refine Spl.go (fun hq he=>?_) (fun hq he=>?_)<;>first|(exfalso;clear hq;omega)|((try first|(conv=>arg 8;simp only [hq])|(conv=>arg 4;simp only [hq]));clear hq))|((with_reducible first|refine c_split (fun hq=>?_) (fun hq=>?_)|refine q_split (fun hq=>?_) (fun hq=>?_))<;>(try first|(conv=>arg 8;simp only [hq])|(conv=>arg 4;simp only [hq])))|(with_reducible refine fin_0 ?_ (by first|rfl|(conv=>lhs;simp only [go_sem, List.getElem?_map, ha, hb, Option.map_some])) ?_)
        | (refine i_methP (es_at ss ep_union) ?_
           refine c_doesE (r) ?_ ?_ ?_
           · ((try (conv=>rhs;simp (disch:=omega) only [go_sem, List.getElem?_map, ha, hb, Option.map_some])); try rfl)
           · first|rfl|(conv=>lhs;simp only [go_sem, List.getElem?_map, ha, hb, Option.map_some]))|exact Sub.refl _|omega)
  · by_cases h8 : p.k = 8
    · have r := v_group (cntS ss) p a hcl
      by_cases hc : p.cs.length = 0
      · rw [if_pos hc] at r
        refine ⟨min a 1, ⟨by unfold M; omega, esFit_eq (by rw [rbK_80 _ _ h8 hc, ga])⟩, fun hi => ?_, ?_⟩
        · have r0 := hi 0 x a hx ha
          refine does0 c_spec_estimate mixed (Nat.le_of_ble_eq_true rfl) ?_
          conv => arg 3; whnf
          repeat' (first
            | with_reducible refine acc_none ?_ | (conv in hold _=>simp (disch:=omega) only [go_sem, List.getElem?_map, hx, hc, Option.map_some])|refine Stp.go ?_|(with_reducible first|refine it_pos rfl ?_|refine it_neg (by decide) ?_|refine st_nil rfl ?_|refine s_op ?_ ?_|exact trivial)|((with_reducible first|refine dw_reg0 ?_|refine dw_regB ?_);(conv=>arg 3;whnf))|(refine Spl.go (fun hq he=>?_) (fun hq he=>?_)<;>first|(exfalso;clear hq;omega)|((try first|(conv=>arg 8;simp only [hq])|(conv=>arg 4;simp only [hq]));clear hq))|((with_reducible first|refine c_split (fun hq=>?_) (fun hq=>?_)|refine q_split (fun hq=>?_) (fun hq=>?_))<;>(try first|(conv=>arg 8;simp only [hq])|(conv=>arg 4;simp only [hq])))|(with_reducible refine fin_0 ?_ (by first|rfl|(conv=>lhs;simp only [go_sem, List.getElem?_map, hx, hc, Option.map_some])) ?_)
            | (with_reducible show evC _ _ _ _ _ _ _ _ _ _ _ _
               first
               | (refine c_doesE (r0) ?_ ?_ ?_
                  · ((try (conv=>rhs;simp (disch:=omega) only [go_sem, List.getElem?_map, hx, hc, Option.map_some])); try rfl)
                  · first|rfl|(conv=>lhs;simp only [go_sem, List.getElem?_map, hx, hc, Option.map_some])))|exact Sub.refl _|omega)
        · refine does0 c_impl_propertyOf_int_ mixed (Nat.le_of_ble_eq_true rfl) ?_
          conv => arg 3; whnf
          repeat' (first
            | (refine s_nilb ?_
               (conv in hold _=>simp (disch:=omega) only [go_sem, List.getElem?_map, ha, Option.map_some])
               refine v_nilP (es_nil ss ep_group) ?_)
            | with_reducible refine acc_none ?_ | (conv in hold _=>simp (disch:=omega) only [go_sem, List.getElem?_map, ha, Option.map_some])|refine Stp.go ?_|(with_reducible first|refine it_pos rfl ?_|refine it_neg (by decide) ?_|refine st_nil rfl ?_|refine s_op ?_ ?_|exact trivial)|((with_reducible first|refine dw_reg0 ?_|refine dw_regB ?_);(conv=>arg 3;whnf))|(refine Spl.go (fun hq he=>?_) (fun hq he=>?_)<;>first|(exfalso;clear hq;omega)|((try first|(conv=>arg 8;simp only [hq])|(conv=>arg 4;simp only [hq]));clear hq))|((with_reducible first|refine c_split (fun hq=>?_) (fun hq=>?_)|refine q_split (fun hq=>?_) (fun hq=>?_))<;>(try first|(conv=>arg 8;simp only [hq])|(conv=>arg 4;simp only [hq])))|(with_reducible refine fin_0 ?_ (by first|rfl|(conv=>lhs;simp only [go_sem, List.getElem?_map, ha, Option.map_some])) ?_)
            | (refine i_methP (es_at ss ep_group) ?_
               refine c_doesE (r) ?_ ?_ ?_
               · ((try (conv=>rhs;simp (disch:=omega) only [go_sem, List.getElem?_map, ha, Option.map_some])); try rfl)
               · first|rfl|(conv=>lhs;simp only [go_sem, List.getElem?_map, ha, Option.map_some]))|exact Sub.refl _|omega)
      · rw [if_neg hc] at r
        refine ⟨a, ⟨ra, esFit_eq (by rw [rbK_81 _ _ h8 hc, ga])⟩, fun hi => ?_, ?_⟩
        · have r0 := hi 0 x a hx ha
          refine does0 c_spec_estimate mixed (Nat.le_of_ble_eq_true rfl) ?_
          conv => arg 3; whnf
          repeat' (first
            | with_reducible refine acc_none ?_ | (conv in hold _=>simp (disch:=omega) only [go_sem, List.getElem?_map, hx, Option.map_some])|refine Stp.go ?_|(with_reducible first|refine it_pos rfl ?_|refine it_neg (by decide) ?_|refine st_nil rfl ?_|refine s_op ?_ ?_|exact trivial)|((with_reducible first|refine dw_reg0 ?_|refine dw_regB ?_);(conv=>arg 3;whnf))|(refine Spl.go (fun hq he=>?_) (fun hq he=>?_)<;>first|(exfalso;clear hq;omega)|((try first|(conv=>arg 8;simp only [hq])|(conv=>arg 4;simp only [hq]));clear hq))|((with_reducible first|refine c_split (fun hq=>?_) (fun hq=>?_)|refine q_split (fun hq=>?_) (fun hq=>?_))<;>(try first|(conv=>arg 8;simp only [hq])|(conv=>arg 4;simp only [hq])))|(with_reducible refine fin_0 ?_ (by first|rfl|(conv=>lhs;simp only [go_sem, List.getElem?_map, hx, Option.map_some])) ?_)
            | (with_reducible show evC _ _ _ _ _ _ _ _ _ _ _ _
               first
               | (refine c_doesE (r0) ?_ ?_ ?_
                  · ((try (conv=>rhs;simp (disch:=omega) only [go_sem, List.getElem?_map, hx, Option.map_some])); try rfl)
                  · first|rfl|(conv=>lhs;simp only [go_sem, List.getElem?_map, hx, Option.map_some])))|exact Sub.refl _|omega)
        · refine does0 c_impl_propertyOf_int_ mixed (Nat.le_of_ble_eq_true rfl) ?_
          conv => arg 3; whnf
          repeat' (first
            | (refine s_nilb ?_
               (conv in hold _=>simp (disch:=omega) only [go_sem, List.getElem?_map, ha, Option.map_some])
               refine v_nilP (es_nil ss ep_group) ?_)
            | with_reducible refine acc_none ?_ | (conv in hold _=>simp (disch:=omega) only [go_sem, List.getElem?_map, ha, Option.map_some])|refine Stp.go ?_|(with_reducible first|refine it_pos rfl ?_|refine it_neg (by decide) ?_|refine st_nil rfl ?_|refine s_op ?_ ?_|exact trivial)|((with_reducible first|refine dw_reg0 ?_|refine dw_regB ?_);(conv=>arg 3;whnf))|(refine Spl.go (fun hq he=>?_) (fun hq he=>?_)<;>first|(exfalso;clear hq;omega)|((try first|(conv=>arg 8;simp only [hq])|(conv=>arg 4;simp only [hq]));clear hq))|((with_reducible first|refine c_split (fun hq=>?_) (fun hq=>?_)|refine q_split (fun hq=>?_) (fun hq=>?_))<;>(try first|(conv=>arg 8;simp only [hq])|(conv=>arg 4;simp only [hq])))|(with_reducible refine fin_0 ?_ (by first|rfl|(conv=>lhs;simp only [go_sem, List.getElem?_map, ha, Option.map_some])) ?_)
            | (refine i_methP (es_at ss ep_group) ?_
               refine c_doesE (r) ?_ ?_ ?_
               · ((try (conv=>rhs;simp (disch:=omega) only [go_sem, List.getElem?_map, ha, Option.map_some])); try rfl)
               · first|rfl|(conv=>lhs;simp only [go_sem, List.getElem?_map, ha, Option.map_some]))|exact Sub.refl _|omega)
    · by_cases h3 : p.k = 3
      · have r := v_project (cntS ss) p a
        refine ⟨a, ⟨ra, esFit_eq (by rw [rbK_2 _ _ _ (by omega), ga])⟩, fun hi => ?_, ?_⟩
        · have r0 := hi 0 x a hx ha
          refine does0 c_spec_estimate mixed (Nat.le_of_ble_eq_true rfl) ?_
          conv => arg 3; whnf
          repeat' (first
            | with_reducible refine acc_none ?_ | (conv in hold _=>simp (disch:=omega) only [go_sem, List.getElem?_map, hx, Option.map_some])|refine Stp.go ?_|(with_reducible first|refine it_pos rfl ?_|refine it_neg (by decide) ?_|refine st_nil rfl ?_|refine s_op ?_ ?_|exact trivial)|((with_reducible first|refine dw_reg0 ?_|refine dw_regB ?_);(conv=>arg 3;whnf))|(refine Spl.go (fun hq he=>?_) (fun hq he=>?_)<;>first|(exfalso;clear hq;omega)|((try first|(conv=>arg 8;simp only [hq])|(conv=>arg 4;simp only [hq]));clear hq))|((with_reducible first|refine c_split (fun hq=>?_) (fun hq=>?_)|refine q_split (fun hq=>?_) (fun hq=>?_))<;>(try first|(conv=>arg 8;simp only [hq])|(conv=>arg 4;simp only [hq])))|(with_reducible refine fin_0 ?_ (by first|rfl|(conv=>lhs;simp only [go_sem, List.getElem?_map, hx, Option.map_some])) ?_)
            | (with_reducible show evC _ _ _ _ _ _ _ _ _ _ _ _
               first
               | (refine c_doesE (r0) ?_ ?_ ?_
                  · ((try (conv=>rhs;simp (disch:=omega) only [go_sem, List.getElem?_map, hx, Option.map_some])); try rfl)
                  · first|rfl|(conv=>lhs;simp only [go_sem, List.getElem?_map, hx, Option.map_some])))|exact Sub.refl _|omega)
        · refine does0 c_impl_propertyOf_int_ mixed (Nat.le_of_ble_eq_true rfl) ?_
          conv => arg 3; whnf
          repeat' (first
            | (refine s_nilb ?_
               (conv in hold _=>simp (disch:=omega) only [go_sem, List.getElem?_map, ha, Option.map_some])
               refine v_nilP (es_nil ss ep_project) ?_)
            | with_reducible refine acc_none ?_ | (conv in hold _=>simp (disch:=omega) only [go_sem, List.getElem?_map, ha, Option.map_some])|refine Stp.go ?_|(with_reducible first|refine it_pos rfl ?_|refine it_neg (by decide) ?_|refine st_nil rfl ?_|refine s_op ?_ ?_|exact trivial)|((with_reducible first|refine dw_reg0 ?_|refine dw_regB ?_);(conv=>arg 3;whnf))|(refine Spl.go (fun hq he=>?_) (fun hq he=>?_)<;>first|(exfalso;clear hq;omega)|((try first|(conv=>arg 8;simp only [hq])|(conv=>arg 4;simp only [hq]));clear hq))|((with_reducible first|refine c_split (fun hq=>?_) (fun hq=>?_)|refine q_split (fun hq=>?_) (fun hq=>?_))<;>(try first|(conv=>arg 8;simp only [hq])|(conv=>arg 4;simp only [hq])))|(with_reducible refine fin_0 ?_ (by first|rfl|(conv=>lhs;simp only [go_sem, List.getElem?_map, ha, Option.map_some])) ?_)
            | (refine i_methP (es_at ss ep_project) ?_
               refine c_doesE (r) ?_ ?_ ?_
               · ((try (conv=>rhs;simp (disch:=omega) only [go_sem, List.getElem?_map, ha, Option.map_some])); try rfl)
               · first|rfl|(conv=>lhs;simp only [go_sem, List.getElem?_map, ha, Option.map_some]))|exact Sub.refl _|omega)
      · have h7 : p.k = 7 := by omega
        have r := v_distinct (cntS ss) p a
        refine ⟨a, ⟨ra, esFit_eq (by rw [rbK_2 _ _ _ (by omega), ga])⟩, fun hi => ?_, ?_⟩
        · have r0 := hi 0 x a hx ha
          refine does0 c_spec_estimate mixed (Nat.le_of_ble_eq_true rfl) ?_
          conv => arg 3; whnf
          repeat' (first
            | with_reducible refine acc_none ?_ | (conv in hold _=>simp (disch:=omega) only [go_sem, List.getElem?_map, hx, Option.map_some])|refine Stp.go ?_|(with_reducible first|refine it_pos rfl ?_|refine it_neg (by decide) ?_|refine st_nil rfl ?_|refine s_op ?_ ?_|exact trivial)|((with_reducible first|refine dw_reg0 ?_|refine dw_regB ?_);(conv=>arg 3;whnf))|(refine Spl.go (fun hq he=>?_) (fun hq he=>?_)<;>first|(exfalso;clear hq;omega)|((try first|(conv=>arg 8;simp only [hq])|(conv=>arg 4;simp only [hq]));clear hq))|((with_reducible first|refine c_split (fun hq=>?_) (fun hq=>?_)|refine q_split (fun hq=>?_) (fun hq=>?_))<;>(try first|(conv=>arg 8;simp only [hq])|(conv=>arg 4;simp only [hq])))|(with_reducible refine fin_0 ?_ (by first|rfl|(conv=>lhs;simp only [go_sem, List.getElem?_map, hx, Option.map_some])) ?_)
            | (with_reducible show evC _ _ _ _ _ _ _ _ _ _ _ _
               first
               | (refine c_doesE (r0) ?_ ?_ ?_
                  · ((try (conv=>rhs;simp (disch:=omega) only [go_sem, List.getElem?_map, hx, Option.map_some])); try rfl)
                  · first|rfl|(conv=>lhs;simp only [go_sem, List.getElem?_map, hx, Option.map_some])))|exact Sub.refl _|omega)
        · refine does0 c_impl_propertyOf_int_ mixed (Nat.le_of_ble_eq_true rfl) ?_
          conv => arg 3; whnf
          repeat' (first
            | (refine s_nilb ?_
               (conv in hold _=>simp (disch:=omega) only [go_sem, List.getElem?_map, ha, Option.map_some])
               refine v_nilP (es_nil ss ep_distinct) ?_)
            | with_reducible refine acc_none ?_ | (conv in hold _=>simp (disch:=omega) only [go_sem, List.getElem?_map, ha, Option.map_some])|refine Stp.go ?_|(with_reducible first|refine it_pos rfl ?_|refine it_neg (by decide) ?_|refine st_nil rfl ?_|refine s_op ?_ ?_|exact trivial)|((with_reducible first|refine dw_reg0 ?_|refine dw_regB ?_);(conv=>arg 3;whnf))|(refine Spl.go (fun hq he=>?_) (fun hq he=>?_)<;>first|(exfalso;clear hq;omega)|((try first|(conv=>arg 8;simp only [hq])|(conv=>arg 4;simp only [hq]));clear hq))|((with_reducible first|refine c_split (fun hq=>?_) (fun hq=>?_)|refine q_split (fun hq=>?_) (fun hq=>?_))<;>(try first|(conv=>arg 8;simp only [hq])|(conv=>arg 4;simp only [hq])))|(with_reducible refine fin_0 ?_ (by first|rfl|(conv=>lhs;simp only [go_sem, List.getElem?_map, ha, Option.map_some])) ?_)
            | (refine i_methP (es_at ss ep_distinct) ?_
               refine c_doesE (r) ?_ ?_ ?_
               · ((try (conv=>rhs;simp (disch:=omega) only [go_sem, List.getElem?_map, ha, Option.map_some])); try rfl)
               · first|rfl|(conv=>lhs;simp only [go_sem, List.getElem?_map, ha, Option.map_some]))|exact Sub.refl _|omega)
theorem part_both {ss : List St} (hss : ssOk ss) {p : Pl} (hp : FineE (wsS ss) p) (hcl : p.cs.length ≤ 1048576) {l : List Int} (hl : l.length = p.ks.length) (hr : ∀ (j : Nat) (x : Int), l[j]? = some x → 0 ≤ x ∧ x ≤ M) : esBoth ss p l := by
  have hf := hp.fields
  unfold fields at hf
  by_cases h1 : p.k = 1
  · exact part_scan hss hp h1 l
  · by_cases h2 : p.k = 2
    · exact part_filter hss hp h2 hl hr
    · by_cases h45 : p.k = 4 ∨ p.k = 5
      · exact part_join hss hp h45 hl hr
      · exact part_rest hss hp (by omega) hcl hl hr
end Go.Proofs.Ytpfedjaedlfdfaa
