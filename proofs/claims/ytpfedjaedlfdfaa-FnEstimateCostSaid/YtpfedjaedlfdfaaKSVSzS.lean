/-
  Lists of numbers and statistics, as the exact laws treat them; valid statistics. No condition.
-/
import Derived.Test.YtpfedjaedlfdfaaKSDca
import Derived.Test.YtpfedjaedlfdfaaJSVDraw
import Derived.Test.YtpfedjaedlfdfaaJSVCall
import Derived.Test.YtpfedjaedlfdfaaJSVEsz
import Derived.Test.YtpfedjaedlfdfaaJSVSzV
import Derived.Test.YtpfedjaedlfdfaaKSVVal
import Derived.Test.YtpfedjaedlfdfaaKSVEvI
set_option maxHeartbeats 4000000
set_option maxRecDepth 100000
namespace Go.Proofs.Ytpfedjaedlfdfaa
open Go.RowKit
/-- Statistics that are valid but for the range of the width. -/
def stIn (s : St) (w : Int) : Prop := (0 ≤ s.n ∧ s.n ≤ 400) ∧ (s.ds.length : Int) = w ∧ (s.ns.length : Int) = w ∧ ∀ (i : Nat) (x y : Int), s.ds[i]? = some x → s.ns[i]? = some y → (0 ≤ y ∧ y ≤ s.n) ∧ 0 ≤ x ∧ x ≤ s.n - y
noncomputable instance stInDec (s : St) (w : Int) : Decidable (stIn s w) := Classical.propDecidable _
def stOk (s : St) (x y : Int) : Prop := (0 ≤ y ∧ y ≤ s.n) ∧ 0 ≤ x ∧ x ≤ s.n - y
theorem st_next {s : St} {i : Nat} {x y : Int} (hx : s.ds[i]? = some x) (hy : s.ns[i]? = some y) (h : stOk s x y) (hJ : ∀ (j : Nat) (x y : Int), j < i → s.ds[j]? = some x → s.ns[j]? = some y → stOk s x y) :
    ∀ (j : Nat) (x y : Int), j < i + 1 → s.ds[j]? = some x → s.ns[j]? = some y → stOk s x y := by
  intro j x' y' hj hx' hy'
  by_cases hji : j = i
  · subst hji
    rw [hx] at hx'
    rw [hy] at hy'
    cases hx'
    cases hy'
    exact h
  · exact hJ j x' y' (by omega) hx' hy'
theorem validStats_ok (s : St) (w : Int) (hw : w ≤ 1000000) : Does Try.prog 92 [] [stD s, I w] (Bo (decide (stIn s w))) [] := by
  have hr := inRange_ok s.n 0 400
  by_cases hb : (0 ≤ s.n ∧ s.n ≤ 400) ∧ (s.ds.length : Int) = w ∧ (s.ns.length : Int) = w
  · obtain ⟨hn, hd, hc⟩ := hb
    rw [decide_eq_true hn] at hr
    refine does0 c_spec_validStats mixed (Nat.le_of_ble_eq_true rfl) ?_
    conv => arg 3; whnf
    repeat' (first
      | with_reducible refine acc_none ?_ | (conv in hold _=>simp (disch:=omega) only [go_sem, stD, intsD])|refine Stp.go ?_|(with_reducible first|refine it_pos rfl ?_|refine it_neg (by decide) ?_|refine st_nil rfl ?_|refine s_op ?_ ?_|exact trivial)|((with_reducible first|refine dw_reg0 ?_|refine dw_regB ?_);(conv=>arg 3;whnf))|(refine Spl.go (fun hq he=>?_) (fun hq he=>?_)<;>first|(exfalso;clear hq;omega)|((try first|(conv=>arg 8;simp only [hq])|(conv=>arg 4;simp only [hq]));clear hq))|((with_reducible first|refine c_split (fun hq=>?_) (fun hq=>?_)|refine q_split (fun hq=>?_) (fun hq=>?_))<;>(try first|(conv=>arg 8;simp only [hq])|(conv=>arg 4;simp only [hq])))|(with_reducible refine fin_0 ?_ (by first|rfl|(conv=>lhs;simp only [go_sem, stD, intsD])) ?_)
      | (with_reducible show evC _ _ _ _ _ _ _ _ _ _ _ _
         first
         | (refine c_doesE (hr) ?_ ?_ ?_
            · ((try (conv=>rhs;simp (disch:=omega) only [go_sem, stD, intsD])); try rfl)
            · first|rfl|(conv=>lhs;simp only [go_sem, stD, intsD])))|exact Sub.refl _|omega)
    refine dw_for (c := 1) (l := fun i => [(1, I w), (2, .ref 1000000 0), (5, I i), (1000000, .obj [I s.n, intsD s.ds, intsD s.ns])]) s.ds.length (fun i => ∀ (j : Nat) (x y : Int), j < i → s.ds[j]? = some x → s.ns[j]? = some y → stOk s x y) 0 (fun j x y hj => by omega) (Wk.list [2000002] rfl rfl ?_) (fun i hi hJ => ?_) (Nat.zero_le _)
    · repeat' (first|(conv in hold _=>simp (disch:=omega) only [go_sem, stD, intsD])|exact trivial|exact Sub.refl _|omega)
      exact rfl
    · by_cases hil : i < s.ds.length
      · obtain ⟨x, hx⟩ : ∃ x, s.ds[i]? = some x := ⟨_, List.getElem?_eq_getElem hil⟩
        obtain ⟨y, hy⟩ : ∃ y, s.ns[i]? = some y := ⟨_, List.getElem?_eq_getElem (by omega)⟩
        have hr1 := inRange_ok y 0 s.n
        have hr2 := inRange_ok x 0 (s.n - y)
        by_cases h1 : 0 ≤ y ∧ y ≤ s.n
        · rw [decide_eq_true h1] at hr1
          by_cases h2 : 0 ≤ x ∧ x ≤ s.n - y
          · rw [decide_eq_true h2] at hr2
            repeat' (first
              | with_reducible refine acc_none ?_ | (conv in hold _=>simp (disch:=omega) only [go_sem, stD, intsD, List.getElem?_map, hx, hy, Option.map_some])|refine Stp.go ?_|(with_reducible first|refine it_pos rfl ?_|refine it_neg (by decide) ?_|refine st_nil rfl ?_|refine s_op ?_ ?_|exact trivial)|((with_reducible first|refine dw_reg0 ?_|refine dw_regB ?_);(conv=>arg 3;whnf))|(refine Spl.go (fun hq he=>?_) (fun hq he=>?_)<;>first|(exfalso;clear hq;omega)|((try first|(conv=>arg 8;simp only [hq])|(conv=>arg 4;simp only [hq]));clear hq))|((with_reducible first|refine c_split (fun hq=>?_) (fun hq=>?_)|refine q_split (fun hq=>?_) (fun hq=>?_))<;>(try first|(conv=>arg 8;simp only [hq])|(conv=>arg 4;simp only [hq])))|(with_reducible refine fin_0 ?_ (by first|rfl|(conv=>lhs;simp only [go_sem, stD, intsD, List.getElem?_map, hx, hy, Option.map_some])) ?_)
              | (with_reducible show evC _ _ _ _ _ _ _ _ _ _ _ _
                 first
                 | (refine c_doesE (hr1) ?_ ?_ ?_
                    · ((try (conv=>rhs;simp (disch:=omega) only [go_sem, stD, intsD, List.getElem?_map, hx, hy, Option.map_some])); try rfl)
                    · first|rfl|(conv=>lhs;simp only [go_sem, stD, intsD, List.getElem?_map, hx, hy, Option.map_some]))
                 | (refine c_doesE (hr2) ?_ ?_ ?_
                    · ((try (conv=>rhs;simp (disch:=omega) only [go_sem, stD, intsD, List.getElem?_map, hx, hy, Option.map_some])); try rfl)
                    · first|rfl|(conv=>lhs;simp only [go_sem, stD, intsD, List.getElem?_map, hx, hy, Option.map_some])))|exact Sub.refl _|omega)
            refine ⟨hil, st_next hx hy ⟨h1, h2⟩ hJ, Wk.list [1000000] rfl rfl ?_⟩
            repeat' (first|(conv in hold _=>simp (disch:=omega) only [go_sem, stD, intsD])|exact trivial|exact Sub.refl _|omega)
          · rw [decide_eq_false h2] at hr2
            repeat' (first
              | with_reducible refine acc_none ?_ | (conv in hold _=>simp (disch:=omega) only [go_sem, stD, intsD, List.getElem?_map, hx, hy, Option.map_some])|refine Stp.go ?_|(with_reducible first|refine it_pos rfl ?_|refine it_neg (by decide) ?_|refine st_nil rfl ?_|refine s_op ?_ ?_|exact trivial)|((with_reducible first|refine dw_reg0 ?_|refine dw_regB ?_);(conv=>arg 3;whnf))|(refine Spl.go (fun hq he=>?_) (fun hq he=>?_)<;>first|(exfalso;clear hq;omega)|((try first|(conv=>arg 8;simp only [hq])|(conv=>arg 4;simp only [hq]));clear hq))|((with_reducible first|refine c_split (fun hq=>?_) (fun hq=>?_)|refine q_split (fun hq=>?_) (fun hq=>?_))<;>(try first|(conv=>arg 8;simp only [hq])|(conv=>arg 4;simp only [hq])))|(with_reducible refine fin_0 ?_ (by first|rfl|(conv=>lhs;simp only [go_sem, stD, intsD, List.getElem?_map, hx, hy, Option.map_some])) ?_)
              | (with_reducible show evC _ _ _ _ _ _ _ _ _ _ _ _
                 first
                 | (refine c_doesE (hr1) ?_ ?_ ?_
                    · ((try (conv=>rhs;simp (disch:=omega) only [go_sem, stD, intsD, List.getElem?_map, hx, hy, Option.map_some])); try rfl)
                    · first|rfl|(conv=>lhs;simp only [go_sem, stD, intsD, List.getElem?_map, hx, hy, Option.map_some]))
                 | (refine c_doesE (hr2) ?_ ?_ ?_
                    · ((try (conv=>rhs;simp (disch:=omega) only [go_sem, stD, intsD, List.getElem?_map, hx, hy, Option.map_some])); try rfl)
                    · first|rfl|(conv=>lhs;simp only [go_sem, stD, intsD, List.getElem?_map, hx, hy, Option.map_some])))|exact Sub.refl _|omega)
            exact sub_f (fun h => h2 (h.2.2.2 i x y hx hy).2)
        · rw [decide_eq_false h1] at hr1
          repeat' (first
            | with_reducible refine acc_none ?_ | (conv in hold _=>simp (disch:=omega) only [go_sem, stD, intsD, List.getElem?_map, hx, hy, Option.map_some])|refine Stp.go ?_|(with_reducible first|refine it_pos rfl ?_|refine it_neg (by decide) ?_|refine st_nil rfl ?_|refine s_op ?_ ?_|exact trivial)|((with_reducible first|refine dw_reg0 ?_|refine dw_regB ?_);(conv=>arg 3;whnf))|(refine Spl.go (fun hq he=>?_) (fun hq he=>?_)<;>first|(exfalso;clear hq;omega)|((try first|(conv=>arg 8;simp only [hq])|(conv=>arg 4;simp only [hq]));clear hq))|((with_reducible first|refine c_split (fun hq=>?_) (fun hq=>?_)|refine q_split (fun hq=>?_) (fun hq=>?_))<;>(try first|(conv=>arg 8;simp only [hq])|(conv=>arg 4;simp only [hq])))|(with_reducible refine fin_0 ?_ (by first|rfl|(conv=>lhs;simp only [go_sem, stD, intsD, List.getElem?_map, hx, hy, Option.map_some])) ?_)
            | (with_reducible show evC _ _ _ _ _ _ _ _ _ _ _ _
               first
               | (refine c_doesE (hr1) ?_ ?_ ?_
                  · ((try (conv=>rhs;simp (disch:=omega) only [go_sem, stD, intsD, List.getElem?_map, hx, hy, Option.map_some])); try rfl)
                  · first|rfl|(conv=>lhs;simp only [go_sem, stD, intsD, List.getElem?_map, hx, hy, Option.map_some])))|exact Sub.refl _|omega)
          exact sub_f (fun h => h1 (h.2.2.2 i x y hx hy).1)
      · obtain rfl : i = s.ds.length := by omega
        repeat' (first|with_reducible refine acc_none ?_ | (conv in hold _=>simp (disch:=omega) only [go_sem, stD, intsD])|refine Stp.go ?_|(with_reducible first|refine it_pos rfl ?_|refine it_neg (by decide) ?_|refine st_nil rfl ?_|refine s_op ?_ ?_|exact trivial)|((with_reducible first|refine dw_reg0 ?_|refine dw_regB ?_);(conv=>arg 3;whnf))|(refine Spl.go (fun hq he=>?_) (fun hq he=>?_)<;>first|(exfalso;clear hq;omega)|((try first|(conv=>arg 8;simp only [hq])|(conv=>arg 4;simp only [hq]));clear hq))|((with_reducible first|refine c_split (fun hq=>?_) (fun hq=>?_)|refine q_split (fun hq=>?_) (fun hq=>?_))<;>(try first|(conv=>arg 8;simp only [hq])|(conv=>arg 4;simp only [hq])))|(with_reducible refine fin_0 ?_ (by first|rfl|(conv=>lhs;simp only [go_sem, stD, intsD])) ?_)|exact Sub.refl _|omega)
        exact sub_iff ⟨fun _ => ⟨hn, hd, hc, fun j x y hx hy => hJ j x y (List.getElem?_eq_some_iff.1 hx).1 hx hy⟩, fun _ => rfl⟩
  · by_cases hn : 0 ≤ s.n ∧ s.n ≤ 400
    · rw [decide_eq_true hn] at hr
      refine does0 c_spec_validStats mixed (Nat.le_of_ble_eq_true rfl) ?_
      conv => arg 3; whnf
      repeat' (first
        | with_reducible refine acc_none ?_ | (conv in hold _=>simp (disch:=omega) only [go_sem, stD, intsD])|refine Stp.go ?_|(with_reducible first|refine it_pos rfl ?_|refine it_neg (by decide) ?_|refine st_nil rfl ?_|refine s_op ?_ ?_|exact trivial)|((with_reducible first|refine dw_reg0 ?_|refine dw_regB ?_);(conv=>arg 3;whnf))|(refine Spl.go (fun hq he=>?_) (fun hq he=>?_)<;>first|(exfalso;clear hq;omega)|((try first|(conv=>arg 8;simp only [hq])|(conv=>arg 4;simp only [hq]));clear hq))|((with_reducible first|refine c_split (fun hq=>?_) (fun hq=>?_)|refine q_split (fun hq=>?_) (fun hq=>?_))<;>(try first|(conv=>arg 8;simp only [hq])|(conv=>arg 4;simp only [hq])))|(with_reducible refine fin_0 ?_ (by first|rfl|(conv=>lhs;simp only [go_sem, stD, intsD])) ?_)
        | (with_reducible show evC _ _ _ _ _ _ _ _ _ _ _ _
           first
           | (refine c_doesE (hr) ?_ ?_ ?_
              · ((try (conv=>rhs;simp (disch:=omega) only [go_sem, stD, intsD])); try rfl)
              · first|rfl|(conv=>lhs;simp only [go_sem, stD, intsD])))|exact Sub.refl _|omega)
      all_goals exact sub_f (fun h => hb ⟨h.1, h.2.1, h.2.2.1⟩)
    · rw [decide_eq_false hn] at hr
      refine does0 c_spec_validStats mixed (Nat.le_of_ble_eq_true rfl) ?_
      conv => arg 3; whnf
      repeat' (first
        | with_reducible refine acc_none ?_ | (conv in hold _=>simp (disch:=omega) only [go_sem, stD, intsD])|refine Stp.go ?_|(with_reducible first|refine it_pos rfl ?_|refine it_neg (by decide) ?_|refine st_nil rfl ?_|refine s_op ?_ ?_|exact trivial)|((with_reducible first|refine dw_reg0 ?_|refine dw_regB ?_);(conv=>arg 3;whnf))|(refine Spl.go (fun hq he=>?_) (fun hq he=>?_)<;>first|(exfalso;clear hq;omega)|((try first|(conv=>arg 8;simp only [hq])|(conv=>arg 4;simp only [hq]));clear hq))|((with_reducible first|refine c_split (fun hq=>?_) (fun hq=>?_)|refine q_split (fun hq=>?_) (fun hq=>?_))<;>(try first|(conv=>arg 8;simp only [hq])|(conv=>arg 4;simp only [hq])))|(with_reducible refine fin_0 ?_ (by first|rfl|(conv=>lhs;simp only [go_sem, stD, intsD])) ?_)
        | (with_reducible show evC _ _ _ _ _ _ _ _ _ _ _ _
           first
           | (refine c_doesE (hr) ?_ ?_ ?_
              · ((try (conv=>rhs;simp (disch:=omega) only [go_sem, stD, intsD])); try rfl)
              · first|rfl|(conv=>lhs;simp only [go_sem, stD, intsD])))|exact Sub.refl _|omega)
      exact sub_f (fun h => hn h.1)
theorem ValidStats_spec (s : St) (w : Int) : Does Try.prog 72 [] [stD s, I w] (Bo (decide ((1 ≤ w ∧ w ≤ 6) ∧ stIn s w))) [] := by
  have hr := inRange_ok w 1 6
  by_cases hw : 1 ≤ w ∧ w ≤ 6
  · have hv := validStats_ok s w (by omega)
    rw [decide_eq_true hw] at hr
    rw [show decide ((1 ≤ w ∧ w ≤ 6) ∧ stIn s w) = decide (stIn s w) by simp [hw]]
    refine does0 c_spec_ValidStats mixed (Nat.le_of_ble_eq_true rfl) ?_
    conv => arg 3; whnf
    repeat' (first
      | with_reducible refine acc_none ?_ | (conv in hold _=>simp (disch:=omega) only [go_sem, stD, intsD])|refine Stp.go ?_|(with_reducible first|refine it_pos rfl ?_|refine it_neg (by decide) ?_|refine st_nil rfl ?_|refine s_op ?_ ?_|exact trivial)|((with_reducible first|refine dw_reg0 ?_|refine dw_regB ?_);(conv=>arg 3;whnf))|(refine Spl.go (fun hq he=>?_) (fun hq he=>?_)<;>first|(exfalso;clear hq;omega)|((try first|(conv=>arg 8;simp only [hq])|(conv=>arg 4;simp only [hq]));clear hq))|((with_reducible first|refine c_split (fun hq=>?_) (fun hq=>?_)|refine q_split (fun hq=>?_) (fun hq=>?_))<;>(try first|(conv=>arg 8;simp only [hq])|(conv=>arg 4;simp only [hq])))|(with_reducible refine fin_0 ?_ (by first|rfl|(conv=>lhs;simp only [go_sem, stD, intsD])) ?_)
      | (with_reducible show evC _ _ _ _ _ _ _ _ _ _ _ _
         first
         | (refine c_doesE (hr) ?_ ?_ ?_
            · ((try (conv=>rhs;simp (disch:=omega) only [go_sem, stD, intsD])); try rfl)
            · first|rfl|(conv=>lhs;simp only [go_sem, stD, intsD]))
         | (refine c_doesE (hv) ?_ ?_ ?_
            · ((try (conv=>rhs;simp (disch:=omega) only [go_sem, stD, intsD])); try rfl)
            · first|rfl|(conv=>lhs;simp only [go_sem, stD, intsD])))|exact Sub.refl _|omega)
  · rw [decide_eq_false hw] at hr
    rw [decide_eq_false (fun h => hw h.1)]
    refine does0 c_spec_ValidStats mixed (Nat.le_of_ble_eq_true rfl) ?_
    conv => arg 3; whnf
    repeat' (first
      | with_reducible refine acc_none ?_ | (conv in hold _=>simp (disch:=omega) only [go_sem, stD, intsD])|refine Stp.go ?_|(with_reducible first|refine it_pos rfl ?_|refine it_neg (by decide) ?_|refine st_nil rfl ?_|refine s_op ?_ ?_|exact trivial)|((with_reducible first|refine dw_reg0 ?_|refine dw_regB ?_);(conv=>arg 3;whnf))|(refine Spl.go (fun hq he=>?_) (fun hq he=>?_)<;>first|(exfalso;clear hq;omega)|((try first|(conv=>arg 8;simp only [hq])|(conv=>arg 4;simp only [hq]));clear hq))|((with_reducible first|refine c_split (fun hq=>?_) (fun hq=>?_)|refine q_split (fun hq=>?_) (fun hq=>?_))<;>(try first|(conv=>arg 8;simp only [hq])|(conv=>arg 4;simp only [hq])))|(with_reducible refine fin_0 ?_ (by first|rfl|(conv=>lhs;simp only [go_sem, stD, intsD])) ?_)
      | (with_reducible show evC _ _ _ _ _ _ _ _ _ _ _ _
         first
         | (refine c_doesE (hr) ?_ ?_ ?_
            · ((try (conv=>rhs;simp (disch:=omega) only [go_sem, stD, intsD])); try rfl)
            · first|rfl|(conv=>lhs;simp only [go_sem, stD, intsD])))|exact Sub.refl _|omega)
theorem ValidStats_impl (s : St) (w : Int) : Does Try.prog 68 [] [stD s, I w] (Bo (decide ((1 ≤ w ∧ w ≤ 6) ∧ stIn s w))) [] := by
  have hr := validWidth_ok w
  by_cases hb : (1 ≤ w ∧ w ≤ 6) ∧ (0 ≤ s.n ∧ s.n ≤ 400) ∧ (s.ds.length : Int) = w ∧ (s.ns.length : Int) = w
  · obtain ⟨hw, hn, hd, hc⟩ := hb
    rw [decide_eq_true hw] at hr
    refine does0 c_impl_ValidStats mixed (Nat.le_of_ble_eq_true rfl) ?_
    conv => arg 3; whnf
    repeat' (first
      | with_reducible refine acc_none ?_ | (conv in hold _=>simp (disch:=omega) only [go_sem, stD, intsD])|refine Stp.go ?_|(with_reducible first|refine it_pos rfl ?_|refine it_neg (by decide) ?_|refine st_nil rfl ?_|refine s_op ?_ ?_|exact trivial)|((with_reducible first|refine dw_reg0 ?_|refine dw_regB ?_);(conv=>arg 3;whnf))|(refine Spl.go (fun hq he=>?_) (fun hq he=>?_)<;>first|(exfalso;clear hq;omega)|((try first|(conv=>arg 8;simp only [hq])|(conv=>arg 4;simp only [hq]));clear hq))|((with_reducible first|refine c_split (fun hq=>?_) (fun hq=>?_)|refine q_split (fun hq=>?_) (fun hq=>?_))<;>(try first|(conv=>arg 8;simp only [hq])|(conv=>arg 4;simp only [hq])))|(with_reducible refine fin_0 ?_ (by first|rfl|(conv=>lhs;simp only [go_sem, stD, intsD])) ?_)
      | (with_reducible show evC _ _ _ _ _ _ _ _ _ _ _ _
         first
         | (refine c_doesE (hr) ?_ ?_ ?_
            · ((try (conv=>rhs;simp (disch:=omega) only [go_sem, stD, intsD])); try rfl)
            · first|rfl|(conv=>lhs;simp only [go_sem, stD, intsD])))|exact Sub.refl _|omega)
    refine dw_for (c := 1) (l := fun i => [(2, .ref 1000000 0), (33, intsD s.ns), (34, I s.ns.length), (35, I i), (1000000, .obj [I s.n, intsD s.ds, intsD s.ns])]) s.ns.length (fun i => ∀ (j : Nat) (x y : Int), j < i → s.ds[j]? = some x → s.ns[j]? = some y → stOk s x y) 0 (fun j x y hj => by omega) (Wk.list [2000002] rfl rfl ?_) (fun i hi hJ => ?_) (Nat.zero_le _)
    · repeat' (first|(conv in hold _=>simp (disch:=omega) only [go_sem, stD, intsD])|exact trivial|exact Sub.refl _|omega)
      exact rfl
    · by_cases hil : i < s.ns.length
      · obtain ⟨x, hx⟩ : ∃ x, s.ds[i]? = some x := ⟨_, List.getElem?_eq_getElem (by omega)⟩
        obtain ⟨y, hy⟩ : ∃ y, s.ns[i]? = some y := ⟨_, List.getElem?_eq_getElem hil⟩
        by_cases h1 : (0 ≤ y ∧ y ≤ s.n) ∧ 0 ≤ x ∧ x ≤ s.n - y
        · repeat' (first|with_reducible refine acc_none ?_ | (conv in hold _=>simp (disch:=omega) only [go_sem, stD, intsD, List.getElem?_map, hx, hy, Option.map_some])|refine Stp.go ?_|(with_reducible first|refine it_pos rfl ?_|refine it_neg (by decide) ?_|refine st_nil rfl ?_|refine s_op ?_ ?_|exact trivial)|((with_reducible first|refine dw_reg0 ?_|refine dw_regB ?_);(conv=>arg 3;whnf))|(refine Spl.go (fun hq he=>?_) (fun hq he=>?_)<;>first|(exfalso;clear hq;omega)|((try first|(conv=>arg 8;simp only [hq])|(conv=>arg 4;simp only [hq]));clear hq))|((with_reducible first|refine c_split (fun hq=>?_) (fun hq=>?_)|refine q_split (fun hq=>?_) (fun hq=>?_))<;>(try first|(conv=>arg 8;simp only [hq])|(conv=>arg 4;simp only [hq])))|(with_reducible refine fin_0 ?_ (by first|rfl|(conv=>lhs;simp only [go_sem, stD, intsD, List.getElem?_map, hx, hy, Option.map_some])) ?_)|exact Sub.refl _|omega)
          refine ⟨hil, st_next hx hy h1 hJ, Wk.list [1000000] rfl rfl ?_⟩
          repeat' (first|(conv in hold _=>simp (disch:=omega) only [go_sem, stD, intsD])|exact trivial|exact Sub.refl _|omega)
        · repeat' (first|with_reducible refine acc_none ?_ | (conv in hold _=>simp (disch:=omega) only [go_sem, stD, intsD, List.getElem?_map, hx, hy, Option.map_some])|refine Stp.go ?_|(with_reducible first|refine it_pos rfl ?_|refine it_neg (by decide) ?_|refine st_nil rfl ?_|refine s_op ?_ ?_|exact trivial)|((with_reducible first|refine dw_reg0 ?_|refine dw_regB ?_);(conv=>arg 3;whnf))|(refine Spl.go (fun hq he=>?_) (fun hq he=>?_)<;>first|(exfalso;clear hq;omega)|((try first|(conv=>arg 8;simp only [hq])|(conv=>arg 4;simp only [hq]));clear hq))|((with_reducible first|refine c_split (fun hq=>?_) (fun hq=>?_)|refine q_split (fun hq=>?_) (fun hq=>?_))<;>(try first|(conv=>arg 8;simp only [hq])|(conv=>arg 4;simp only [hq])))|(with_reducible refine fin_0 ?_ (by first|rfl|(conv=>lhs;simp only [go_sem, stD, intsD, List.getElem?_map, hx, hy, Option.map_some])) ?_)|exact Sub.refl _|omega)
          all_goals exact sub_f (fun h => h1 (h.2.2.2.2 i x y hx hy))
      · obtain rfl : i = s.ns.length := by omega
        repeat' (first|with_reducible refine acc_none ?_ | (conv in hold _=>simp (disch:=omega) only [go_sem, stD, intsD])|refine Stp.go ?_|(with_reducible first|refine it_pos rfl ?_|refine it_neg (by decide) ?_|refine st_nil rfl ?_|refine s_op ?_ ?_|exact trivial)|((with_reducible first|refine dw_reg0 ?_|refine dw_regB ?_);(conv=>arg 3;whnf))|(refine Spl.go (fun hq he=>?_) (fun hq he=>?_)<;>first|(exfalso;clear hq;omega)|((try first|(conv=>arg 8;simp only [hq])|(conv=>arg 4;simp only [hq]));clear hq))|((with_reducible first|refine c_split (fun hq=>?_) (fun hq=>?_)|refine q_split (fun hq=>?_) (fun hq=>?_))<;>(try first|(conv=>arg 8;simp only [hq])|(conv=>arg 4;simp only [hq])))|(with_reducible refine fin_0 ?_ (by first|rfl|(conv=>lhs;simp only [go_sem, stD, intsD])) ?_)|exact Sub.refl _|omega)
        exact sub_iff ⟨fun _ => ⟨hw, hn, hd, hc, fun j x y hx hy => hJ j x y (List.getElem?_eq_some_iff.1 hy).1 hx hy⟩, fun _ => rfl⟩
  · by_cases hw : 1 ≤ w ∧ w ≤ 6
    · rw [decide_eq_true hw] at hr
      refine does0 c_impl_ValidStats mixed (Nat.le_of_ble_eq_true rfl) ?_
      conv => arg 3; whnf
      repeat' (first
        | with_reducible refine acc_none ?_ | (conv in hold _=>simp (disch:=omega) only [go_sem, stD, intsD])|refine Stp.go ?_|(with_reducible first|refine it_pos rfl ?_|refine it_neg (by decide) ?_|refine st_nil rfl ?_|refine s_op ?_ ?_|exact trivial)|((with_reducible first|refine dw_reg0 ?_|refine dw_regB ?_);(conv=>arg 3;whnf))|(refine Spl.go (fun hq he=>?_) (fun hq he=>?_)<;>first|(exfalso;clear hq;omega)|((try first|(conv=>arg 8;simp only [hq])|(conv=>arg 4;simp only [hq]));clear hq))|((with_reducible first|refine c_split (fun hq=>?_) (fun hq=>?_)|refine q_split (fun hq=>?_) (fun hq=>?_))<;>(try first|(conv=>arg 8;simp only [hq])|(conv=>arg 4;simp only [hq])))|(with_reducible refine fin_0 ?_ (by first|rfl|(conv=>lhs;simp only [go_sem, stD, intsD])) ?_)
        | (with_reducible show evC _ _ _ _ _ _ _ _ _ _ _ _
           first
           | (refine c_doesE (hr) ?_ ?_ ?_
              · ((try (conv=>rhs;simp (disch:=omega) only [go_sem, stD, intsD])); try rfl)
              · first|rfl|(conv=>lhs;simp only [go_sem, stD, intsD])))|exact Sub.refl _|omega)
      all_goals exact sub_f (fun h => hb ⟨h.1, h.2.1, h.2.2.1, h.2.2.2.1⟩)
    · rw [decide_eq_false hw] at hr
      refine does0 c_impl_ValidStats mixed (Nat.le_of_ble_eq_true rfl) ?_
      conv => arg 3; whnf
      repeat' (first
        | with_reducible refine acc_none ?_ | (conv in hold _=>simp (disch:=omega) only [go_sem, stD, intsD])|refine Stp.go ?_|(with_reducible first|refine it_pos rfl ?_|refine it_neg (by decide) ?_|refine st_nil rfl ?_|refine s_op ?_ ?_|exact trivial)|((with_reducible first|refine dw_reg0 ?_|refine dw_regB ?_);(conv=>arg 3;whnf))|(refine Spl.go (fun hq he=>?_) (fun hq he=>?_)<;>first|(exfalso;clear hq;omega)|((try first|(conv=>arg 8;simp only [hq])|(conv=>arg 4;simp only [hq]));clear hq))|((with_reducible first|refine c_split (fun hq=>?_) (fun hq=>?_)|refine q_split (fun hq=>?_) (fun hq=>?_))<;>(try first|(conv=>arg 8;simp only [hq])|(conv=>arg 4;simp only [hq])))|(with_reducible refine fin_0 ?_ (by first|rfl|(conv=>lhs;simp only [go_sem, stD, intsD])) ?_)
        | (with_reducible show evC _ _ _ _ _ _ _ _ _ _ _ _
           first
           | (refine c_doesE (hr) ?_ ?_ ?_
              · ((try (conv=>rhs;simp (disch:=omega) only [go_sem, stD, intsD])); try rfl)
              · first|rfl|(conv=>lhs;simp only [go_sem, stD, intsD])))|exact Sub.refl _|omega)
      exact sub_f (fun h => hw h.1)
end Go.Proofs.Ytpfedjaedlfdfaa
