/-
  CheapestPlan of both packages. No condition.
-/
import Derived.Test.YtpfedjaedlfdfaaKSDca
import Derived.Test.YtpfedjaedlfdfaaKSDcf
import Derived.Test.YtpfedjaedlfdfaaKSVCstE
set_option maxHeartbeats 4000000
set_option maxRecDepth 100000
set_option linter.unusedVariables false
set_option linter.unusedSimpArgs false
namespace Go.Proofs.Ytpfedjaedlfdfaa
open Go.RowKit
/-- The place of the cheapest among the first i, and its cost; none: -1 and b. -/
def chI (b : Int) (cs : List Int) : Nat → Int × Int
  | 0 => (-1, b)
  | i + 1 => match cs[i]? with
    | some n => if n ≠ -1 ∧ ((chI b cs i).1 = -1 ∨ n < (chI b cs i).2) then ((i : Int), n) else chI b cs i
    | none => chI b cs i
theorem chI_yes {b : Int} {cs : List Int} {i : Nat} {n : Int} (h : cs[i]? = some n) (hn : n ≠ -1 ∧ ((chI b cs i).1 = -1 ∨ n < (chI b cs i).2)) : chI b cs (i + 1) = ((i : Int), n) := by
  rw [chI, h]
  exact if_pos hn
theorem chI_no {b : Int} {cs : List Int} {i : Nat} {n : Int} (h : cs[i]? = some n) (hn : ¬ (n ≠ -1 ∧ ((chI b cs i).1 = -1 ∨ n < (chI b cs i).2))) : chI b cs (i + 1) = chI b cs i := by
  rw [chI, h]
  exact if_neg hn
theorem chI_range (b : Int) (cs : List Int) : ∀ i, -1 ≤ (chI b cs i).1 ∧ (chI b cs i).1 < i ∧ ((chI b cs i).1 ≠ -1 → cs[(chI b cs i).1.toNat]? = some (chI b cs i).2 ∧ (chI b cs i).2 ≠ -1)
  | 0 => ⟨Int.le_refl _, by show (-1 : Int) < ((0 : Nat) : Int); decide, fun h => absurd rfl h⟩
  | i + 1 => by
    obtain ⟨h1, h2, h3⟩ := chI_range b cs i
    cases hc : cs[i]? with
    | none =>
      have : chI b cs (i + 1) = chI b cs i := by rw [chI, hc]
      rw [this]
      exact ⟨h1, by omega, h3⟩
    | some n =>
      by_cases hn : n ≠ -1 ∧ ((chI b cs i).1 = -1 ∨ n < (chI b cs i).2)
      · rw [chI_yes hc hn]
        exact ⟨by show -1 ≤ (i : Int); omega, by show (i : Int) < ((i + 1 : Nat) : Int); omega, fun _ => ⟨hc, hn.1⟩⟩
      · rw [chI_no hc hn]
        exact ⟨h1, by omega, h3⟩
theorem chI_same (b b' : Int) (cs : List Int) : ∀ i, (chI b cs i).1 = (chI b' cs i).1 ∧ ((chI b cs i).1 ≠ -1 → (chI b cs i).2 = (chI b' cs i).2)
  | 0 => ⟨rfl, fun h => absurd rfl h⟩
  | i + 1 => by
    obtain ⟨h1, h2⟩ := chI_same b b' cs i
    cases hc : cs[i]? with
    | none =>
      have e1 : chI b cs (i + 1) = chI b cs i := by rw [chI, hc]
      have e2 : chI b' cs (i + 1) = chI b' cs i := by rw [chI, hc]
      rw [e1, e2]
      exact ⟨h1, h2⟩
    | some n =>
      by_cases hn : n ≠ -1 ∧ ((chI b cs i).1 = -1 ∨ n < (chI b cs i).2)
      · have hn' : n ≠ -1 ∧ ((chI b' cs i).1 = -1 ∨ n < (chI b' cs i).2) := by
          refine ⟨hn.1, ?_⟩
          by_cases h0 : (chI b cs i).1 = -1
          · exact .inl (by rw [← h1]; exact h0)
          · rw [← h2 h0]
            exact .inr (hn.2.resolve_left h0)
        rw [chI_yes hc hn, chI_yes hc hn']
        exact ⟨rfl, fun _ => rfl⟩
      · have hn' : ¬ (n ≠ -1 ∧ ((chI b' cs i).1 = -1 ∨ n < (chI b' cs i).2)) := fun h => by
          refine hn ⟨h.1, ?_⟩
          by_cases h0 : (chI b cs i).1 = -1
          · exact .inl h0
          · rw [h2 h0]
            exact .inr (h.2.resolve_left (by rw [← h1]; exact h0))
        rw [chI_no hc hn, chI_no hc hn']
        exact ⟨h1, h2⟩
/-- What both packages answer. -/
def chV (cs : List Int) : Int := if 20 < cs.length then -1 else (chI (-1) cs cs.length).1
theorem CheapestPlan_impl (ps : List Pl) (ss : List St) (cs : List Int) (hl : cs.length = ps.length) (hpl : ps.length ≤ 1048576) (hc : ∀ (i : Nat) (x : Pl) (n : Int), ps[i]? = some x → cs[i]? = some n → Does Try.prog 23 [] [pD x, stsD ss] (I n) []) :
    Does Try.prog 26 [] [.sl 5 (ps.map pD), stsD ss] (I (chV cs)) [] := by
  by_cases h20 : 20 < cs.length
  · rw [show chV cs = -1 from if_pos h20]
    refine does0 c_impl_CheapestPlan mixed (Nat.le_of_ble_eq_true rfl) ?_
    conv => arg 3; whnf
    repeat' (first|with_reducible refine acc_none ?_ | (conv in hold _=>simp (disch:=omega) only [go_sem])|refine Stp.go ?_|(with_reducible first|refine it_pos rfl ?_|refine it_neg (by decide) ?_|refine st_nil rfl ?_|refine s_op ?_ ?_|exact trivial)|((with_reducible first|refine dw_reg0 ?_|refine dw_regB ?_);(conv=>arg 3;whnf))|(refine Spl.go (fun hq he=>?_) (fun hq he=>?_)<;>first|(exfalso;clear hq;omega)|((try first|(conv=>arg 8;simp only [hq])|(conv=>arg 4;simp only [hq]));clear hq))|((with_reducible first|refine c_split (fun hq=>?_) (fun hq=>?_)|refine q_split (fun hq=>?_) (fun hq=>?_))<;>(try first|(conv=>arg 8;simp only [hq])|(conv=>arg 4;simp only [hq])))|(with_reducible refine fin_0 ?_ (by first|rfl|(conv=>lhs;simp only [go_sem])) ?_)|exact Sub.refl _|omega)
  · rw [show chV cs = (chI (-1) cs cs.length).1 from if_neg h20]
    refine does0 c_impl_CheapestPlan mixed (Nat.le_of_ble_eq_true rfl) ?_
    conv => arg 3; whnf
    repeat' (first|with_reducible refine acc_none ?_ | (conv in hold _=>simp (disch:=omega) only [go_sem])|refine Stp.go ?_|(with_reducible first|refine it_pos rfl ?_|refine it_neg (by decide) ?_|refine st_nil rfl ?_|refine s_op ?_ ?_|exact trivial)|((with_reducible first|refine dw_reg0 ?_|refine dw_regB ?_);(conv=>arg 3;whnf))|(refine Spl.go (fun hq he=>?_) (fun hq he=>?_)<;>first|(exfalso;clear hq;omega)|((try first|(conv=>arg 8;simp only [hq])|(conv=>arg 4;simp only [hq]));clear hq))|((with_reducible first|refine c_split (fun hq=>?_) (fun hq=>?_)|refine q_split (fun hq=>?_) (fun hq=>?_))<;>(try first|(conv=>arg 8;simp only [hq])|(conv=>arg 4;simp only [hq])))|(with_reducible refine fin_0 ?_ (by first|rfl|(conv=>lhs;simp only [go_sem])) ?_)|exact Sub.refl _|omega)
    refine dw_for (c := 0) (l := fun i => [(1, stsD ss), (5, I (chI (-1) cs i).1), (6, I (chI (-1) cs i).2), (13, .sl 5 (ps.map pD)), (14, I ps.length), (15, I i)]) ps.length (fun _ => True) 0 trivial (Wk.list [] rfl rfl ?_) (fun i hi _ => ?_) (Nat.zero_le _)
    · repeat' (first|(conv in hold _=>simp (disch:=omega) only [go_sem])|exact trivial|exact Sub.refl _|omega)
      exact ⟨rfl, rfl, rfl⟩
    · by_cases hil : i < ps.length
      · obtain ⟨x, hx⟩ : ∃ x, ps[i]? = some x := ⟨_, List.getElem?_eq_getElem hil⟩
        obtain ⟨n, hn⟩ : ∃ n, cs[i]? = some n := ⟨_, List.getElem?_eq_getElem (by omega)⟩
        have hix := hc i x n hx hn
        by_cases hyes : n ≠ -1 ∧ ((chI (-1) cs i).1 = -1 ∨ n < (chI (-1) cs i).2)
        · have hnx := chI_yes hn hyes
          rw [hnx]
          generalize (chI (-1) cs i).1 = k at *
          generalize (chI (-1) cs i).2 = b at *
          obtain ⟨ha, hb⟩ := hyes
          repeat' (first|with_reducible refine acc_none ?_ | (conv in hold _=>simp (disch:=omega) only [go_sem, List.getElem?_map, hx, Option.map_some])|refine Stp.go ?_|(with_reducible first|refine it_pos rfl ?_|refine it_neg (by decide) ?_|refine st_nil rfl ?_|refine s_op ?_ ?_|exact trivial)|((with_reducible first|refine dw_reg0 ?_|refine dw_regB ?_);(conv=>arg 3;whnf))|(refine Spl.go (fun hq he=>?_) (fun hq he=>?_)<;>first|(exfalso;clear hq;omega)|((try first|(conv=>arg 8;simp only [hq])|(conv=>arg 4;simp only [hq]));clear hq))|((with_reducible first|refine c_split (fun hq=>?_) (fun hq=>?_)|refine q_split (fun hq=>?_) (fun hq=>?_))<;>(try first|(conv=>arg 8;simp only [hq])|(conv=>arg 4;simp only [hq])))|(with_reducible refine fin_0 ?_ (by first|rfl|(conv=>lhs;simp only [go_sem, List.getElem?_map, hx, Option.map_some])) ?_)|exact Sub.refl _|omega)
          refine c_doesE (hix) ?_ ?_ ?_
          · ((try (conv=>rhs;simp (disch:=omega) only [go_sem])); try rfl)
          · first|rfl|(conv=>lhs;simp only [go_sem])
          repeat' (first|with_reducible refine acc_none ?_ | (conv in hold _=>simp (disch:=omega) only [go_sem])|refine Stp.go ?_|(with_reducible first|refine it_pos rfl ?_|refine it_neg (by decide) ?_|refine st_nil rfl ?_|refine s_op ?_ ?_|exact trivial)|((with_reducible first|refine dw_reg0 ?_|refine dw_regB ?_);(conv=>arg 3;whnf))|(refine Spl.go (fun hq he=>?_) (fun hq he=>?_)<;>first|(exfalso;clear hq;omega)|((try first|(conv=>arg 8;simp only [hq])|(conv=>arg 4;simp only [hq]));clear hq))|((with_reducible first|refine c_split (fun hq=>?_) (fun hq=>?_)|refine q_split (fun hq=>?_) (fun hq=>?_))<;>(try first|(conv=>arg 8;simp only [hq])|(conv=>arg 4;simp only [hq])))|(with_reducible refine fin_0 ?_ (by first|rfl|(conv=>lhs;simp only [go_sem])) ?_)|exact Sub.refl _|omega)
          all_goals try (exfalso; omega)
          all_goals refine ⟨hil, trivial, Wk.list [] rfl rfl ?_⟩
          repeat' (first|(conv in hold _=>simp (disch:=omega) only [go_sem])|exact trivial|exact Sub.refl _|omega)
        · have hnx := chI_no hn hyes
          rw [hnx]
          generalize (chI (-1) cs i).1 = k at *
          generalize (chI (-1) cs i).2 = b at *
          repeat' (first|with_reducible refine acc_none ?_ | (conv in hold _=>simp (disch:=omega) only [go_sem, List.getElem?_map, hx, Option.map_some])|refine Stp.go ?_|(with_reducible first|refine it_pos rfl ?_|refine it_neg (by decide) ?_|refine st_nil rfl ?_|refine s_op ?_ ?_|exact trivial)|((with_reducible first|refine dw_reg0 ?_|refine dw_regB ?_);(conv=>arg 3;whnf))|(refine Spl.go (fun hq he=>?_) (fun hq he=>?_)<;>first|(exfalso;clear hq;omega)|((try first|(conv=>arg 8;simp only [hq])|(conv=>arg 4;simp only [hq]));clear hq))|((with_reducible first|refine c_split (fun hq=>?_) (fun hq=>?_)|refine q_split (fun hq=>?_) (fun hq=>?_))<;>(try first|(conv=>arg 8;simp only [hq])|(conv=>arg 4;simp only [hq])))|(with_reducible refine fin_0 ?_ (by first|rfl|(conv=>lhs;simp only [go_sem, List.getElem?_map, hx, Option.map_some])) ?_)|exact Sub.refl _|omega)
          refine c_doesE (hix) ?_ ?_ ?_
          · ((try (conv=>rhs;simp (disch:=omega) only [go_sem])); try rfl)
          · first|rfl|(conv=>lhs;simp only [go_sem])
          repeat' (first|with_reducible refine acc_none ?_ | (conv in hold _=>simp (disch:=omega) only [go_sem])|refine Stp.go ?_|(with_reducible first|refine it_pos rfl ?_|refine it_neg (by decide) ?_|refine st_nil rfl ?_|refine s_op ?_ ?_|exact trivial)|((with_reducible first|refine dw_reg0 ?_|refine dw_regB ?_);(conv=>arg 3;whnf))|(refine Spl.go (fun hq he=>?_) (fun hq he=>?_)<;>first|(exfalso;clear hq;omega)|((try first|(conv=>arg 8;simp only [hq])|(conv=>arg 4;simp only [hq]));clear hq))|((with_reducible first|refine c_split (fun hq=>?_) (fun hq=>?_)|refine q_split (fun hq=>?_) (fun hq=>?_))<;>(try first|(conv=>arg 8;simp only [hq])|(conv=>arg 4;simp only [hq])))|(with_reducible refine fin_0 ?_ (by first|rfl|(conv=>lhs;simp only [go_sem])) ?_)|exact Sub.refl _|omega)
          all_goals try (exfalso; exact hyes ⟨by omega, by omega⟩)
          all_goals refine ⟨hil, trivial, Wk.list [] rfl rfl ?_⟩
          repeat' (first|(conv in hold _=>simp (disch:=omega) only [go_sem])|exact trivial|exact Sub.refl _|omega)
      · obtain rfl : i = ps.length := by omega
        rw [hl]
        repeat' (first|with_reducible refine acc_none ?_ | (conv in hold _=>simp (disch:=omega) only [go_sem])|refine Stp.go ?_|(with_reducible first|refine it_pos rfl ?_|refine it_neg (by decide) ?_|refine st_nil rfl ?_|refine s_op ?_ ?_|exact trivial)|((with_reducible first|refine dw_reg0 ?_|refine dw_regB ?_);(conv=>arg 3;whnf))|(refine Spl.go (fun hq he=>?_) (fun hq he=>?_)<;>first|(exfalso;clear hq;omega)|((try first|(conv=>arg 8;simp only [hq])|(conv=>arg 4;simp only [hq]));clear hq))|((with_reducible first|refine c_split (fun hq=>?_) (fun hq=>?_)|refine q_split (fun hq=>?_) (fun hq=>?_))<;>(try first|(conv=>arg 8;simp only [hq])|(conv=>arg 4;simp only [hq])))|(with_reducible refine fin_0 ?_ (by first|rfl|(conv=>lhs;simp only [go_sem])) ?_)|exact Sub.refl _|omega)
theorem CheapestPlan_spec (ps : List Pl) (ss : List St) (cs : List Int) (hl : cs.length = ps.length) (hpl : ps.length ≤ 1048576) (h0 : ∀ c, c ∈ cs → -1 ≤ c) (hc : ∀ (i : Nat) (x : Pl) (n : Int), ps[i]? = some x → cs[i]? = some n → Does Try.prog 24 [] [pD x, stsD ss] (I n) []) :
    Does Try.prog 27 [] [.sl 5 (ps.map pD), stsD ss] (I (chV cs)) [] := by
  by_cases h20 : 20 < cs.length
  · rw [show chV cs = -1 from if_pos h20]
    refine does0 c_spec_CheapestPlan mixed (Nat.le_of_ble_eq_true rfl) ?_
    conv => arg 3; whnf
    repeat' (first|with_reducible refine acc_none ?_ | (conv in hold _=>simp (disch:=omega) only [go_sem])|refine Stp.go ?_|(with_reducible first|refine it_pos rfl ?_|refine it_neg (by decide) ?_|refine st_nil rfl ?_|refine s_op ?_ ?_|exact trivial)|((with_reducible first|refine dw_reg0 ?_|refine dw_regB ?_);(conv=>arg 3;whnf))|(refine Spl.go (fun hq he=>?_) (fun hq he=>?_)<;>first|(exfalso;clear hq;omega)|((try first|(conv=>arg 8;simp only [hq])|(conv=>arg 4;simp only [hq]));clear hq))|((with_reducible first|refine c_split (fun hq=>?_) (fun hq=>?_)|refine q_split (fun hq=>?_) (fun hq=>?_))<;>(try first|(conv=>arg 8;simp only [hq])|(conv=>arg 4;simp only [hq])))|(with_reducible refine fin_0 ?_ (by first|rfl|(conv=>lhs;simp only [go_sem])) ?_)|exact Sub.refl _|omega)
  · rw [show chV cs = (chI (-1) cs cs.length).1 from if_neg h20, (chI_same (-1) 0 cs cs.length).1]
    refine does0 c_spec_CheapestPlan mixed (Nat.le_of_ble_eq_true rfl) ?_
    conv => arg 3; whnf
    repeat' (first|with_reducible refine acc_none ?_ | (conv in hold _=>simp (disch:=omega) only [go_sem])|refine Stp.go ?_|(with_reducible first|refine it_pos rfl ?_|refine it_neg (by decide) ?_|refine st_nil rfl ?_|refine s_op ?_ ?_|exact trivial)|((with_reducible first|refine dw_reg0 ?_|refine dw_regB ?_);(conv=>arg 3;whnf))|(refine Spl.go (fun hq he=>?_) (fun hq he=>?_)<;>first|(exfalso;clear hq;omega)|((try first|(conv=>arg 8;simp only [hq])|(conv=>arg 4;simp only [hq]));clear hq))|((with_reducible first|refine c_split (fun hq=>?_) (fun hq=>?_)|refine q_split (fun hq=>?_) (fun hq=>?_))<;>(try first|(conv=>arg 8;simp only [hq])|(conv=>arg 4;simp only [hq])))|(with_reducible refine fin_0 ?_ (by first|rfl|(conv=>lhs;simp only [go_sem])) ?_)|exact Sub.refl _|omega)
    refine dw_for (c := 0) (l := fun i => [(0, .sl 5 (ps.map pD)), (1, stsD ss), (5, I (chI 0 cs i).1), (6, I (chI 0 cs i).2), (7, I i)]) ps.length (fun _ => True) 0 trivial (Wk.list [] rfl rfl ?_) (fun i hi _ => ?_) (Nat.zero_le _)
    · repeat' (first|(conv in hold _=>simp (disch:=omega) only [go_sem])|exact trivial|exact Sub.refl _|omega)
      exact ⟨rfl, rfl, rfl⟩
    · have hrg := chI_range 0 cs i
      by_cases hil : i < ps.length
      · obtain ⟨x, hx⟩ : ∃ x, ps[i]? = some x := ⟨_, List.getElem?_eq_getElem hil⟩
        obtain ⟨n, hn⟩ : ∃ n, cs[i]? = some n := ⟨_, List.getElem?_eq_getElem (by omega)⟩
        have hix := hc i x n hx hn
        have hn0 := h0 n (List.mem_of_getElem? hn)
        have hk0 := hrg.1
        by_cases hyes : n ≠ -1 ∧ ((chI 0 cs i).1 = -1 ∨ n < (chI 0 cs i).2)
        · have hnx := chI_yes hn hyes
          rw [hnx]
          clear hrg
          generalize (chI 0 cs i).1 = k at *
          generalize (chI 0 cs i).2 = b at *
          obtain ⟨ha, hb⟩ := hyes
          repeat' (first|with_reducible refine acc_none ?_ | (conv in hold _=>simp (disch:=omega) only [go_sem, List.getElem?_map, hx, Option.map_some])|refine Stp.go ?_|(with_reducible first|refine it_pos rfl ?_|refine it_neg (by decide) ?_|refine st_nil rfl ?_|refine s_op ?_ ?_|exact trivial)|((with_reducible first|refine dw_reg0 ?_|refine dw_regB ?_);(conv=>arg 3;whnf))|(refine Spl.go (fun hq he=>?_) (fun hq he=>?_)<;>first|(exfalso;clear hq;omega)|((try first|(conv=>arg 8;simp only [hq])|(conv=>arg 4;simp only [hq]));clear hq))|((with_reducible first|refine c_split (fun hq=>?_) (fun hq=>?_)|refine q_split (fun hq=>?_) (fun hq=>?_))<;>(try first|(conv=>arg 8;simp only [hq])|(conv=>arg 4;simp only [hq])))|(with_reducible refine fin_0 ?_ (by first|rfl|(conv=>lhs;simp only [go_sem, List.getElem?_map, hx, Option.map_some])) ?_)|exact Sub.refl _|omega)
          refine c_doesE (hix) ?_ ?_ ?_
          · ((try (conv=>rhs;simp (disch:=omega) only [go_sem])); try rfl)
          · first|rfl|(conv=>lhs;simp only [go_sem])
          repeat' (first|with_reducible refine acc_none ?_ | (conv in hold _=>simp (disch:=omega) only [go_sem])|refine Stp.go ?_|(with_reducible first|refine it_pos rfl ?_|refine it_neg (by decide) ?_|refine st_nil rfl ?_|refine s_op ?_ ?_|exact trivial)|((with_reducible first|refine dw_reg0 ?_|refine dw_regB ?_);(conv=>arg 3;whnf))|(refine Spl.go (fun hq he=>?_) (fun hq he=>?_)<;>first|(exfalso;clear hq;omega)|((try first|(conv=>arg 8;simp only [hq])|(conv=>arg 4;simp only [hq]));clear hq))|((with_reducible first|refine c_split (fun hq=>?_) (fun hq=>?_)|refine q_split (fun hq=>?_) (fun hq=>?_))<;>(try first|(conv=>arg 8;simp only [hq])|(conv=>arg 4;simp only [hq])))|(with_reducible refine fin_0 ?_ (by first|rfl|(conv=>lhs;simp only [go_sem])) ?_)|exact Sub.refl _|omega)
          all_goals try (exfalso; omega)
          all_goals refine ⟨hil, trivial, Wk.list [] rfl rfl ?_⟩
          repeat' (first|(conv in hold _=>simp (disch:=omega) only [go_sem])|exact trivial|exact Sub.refl _|omega)
        · have hnx := chI_no hn hyes
          rw [hnx]
          clear hrg
          generalize (chI 0 cs i).1 = k at *
          generalize (chI 0 cs i).2 = b at *
          repeat' (first|with_reducible refine acc_none ?_ | (conv in hold _=>simp (disch:=omega) only [go_sem, List.getElem?_map, hx, Option.map_some])|refine Stp.go ?_|(with_reducible first|refine it_pos rfl ?_|refine it_neg (by decide) ?_|refine st_nil rfl ?_|refine s_op ?_ ?_|exact trivial)|((with_reducible first|refine dw_reg0 ?_|refine dw_regB ?_);(conv=>arg 3;whnf))|(refine Spl.go (fun hq he=>?_) (fun hq he=>?_)<;>first|(exfalso;clear hq;omega)|((try first|(conv=>arg 8;simp only [hq])|(conv=>arg 4;simp only [hq]));clear hq))|((with_reducible first|refine c_split (fun hq=>?_) (fun hq=>?_)|refine q_split (fun hq=>?_) (fun hq=>?_))<;>(try first|(conv=>arg 8;simp only [hq])|(conv=>arg 4;simp only [hq])))|(with_reducible refine fin_0 ?_ (by first|rfl|(conv=>lhs;simp only [go_sem, List.getElem?_map, hx, Option.map_some])) ?_)|exact Sub.refl _|omega)
          refine c_doesE (hix) ?_ ?_ ?_
          · ((try (conv=>rhs;simp (disch:=omega) only [go_sem])); try rfl)
          · first|rfl|(conv=>lhs;simp only [go_sem])
          repeat' (first|with_reducible refine acc_none ?_ | (conv in hold _=>simp (disch:=omega) only [go_sem])|refine Stp.go ?_|(with_reducible first|refine it_pos rfl ?_|refine it_neg (by decide) ?_|refine st_nil rfl ?_|refine s_op ?_ ?_|exact trivial)|((with_reducible first|refine dw_reg0 ?_|refine dw_regB ?_);(conv=>arg 3;whnf))|(refine Spl.go (fun hq he=>?_) (fun hq he=>?_)<;>first|(exfalso;clear hq;omega)|((try first|(conv=>arg 8;simp only [hq])|(conv=>arg 4;simp only [hq]));clear hq))|((with_reducible first|refine c_split (fun hq=>?_) (fun hq=>?_)|refine q_split (fun hq=>?_) (fun hq=>?_))<;>(try first|(conv=>arg 8;simp only [hq])|(conv=>arg 4;simp only [hq])))|(with_reducible refine fin_0 ?_ (by first|rfl|(conv=>lhs;simp only [go_sem])) ?_)|exact Sub.refl _|omega)
          all_goals try (exfalso; exact hyes ⟨by omega, by omega⟩)
          all_goals refine ⟨hil, trivial, Wk.list [] rfl rfl ?_⟩
          repeat' (first|(conv in hold _=>simp (disch:=omega) only [go_sem])|exact trivial|exact Sub.refl _|omega)
      · obtain rfl : i = ps.length := by omega
        rw [hl]
        repeat' (first|with_reducible refine acc_none ?_ | (conv in hold _=>simp (disch:=omega) only [go_sem])|refine Stp.go ?_|(with_reducible first|refine it_pos rfl ?_|refine it_neg (by decide) ?_|refine st_nil rfl ?_|refine s_op ?_ ?_|exact trivial)|((with_reducible first|refine dw_reg0 ?_|refine dw_regB ?_);(conv=>arg 3;whnf))|(refine Spl.go (fun hq he=>?_) (fun hq he=>?_)<;>first|(exfalso;clear hq;omega)|((try first|(conv=>arg 8;simp only [hq])|(conv=>arg 4;simp only [hq]));clear hq))|((with_reducible first|refine c_split (fun hq=>?_) (fun hq=>?_)|refine q_split (fun hq=>?_) (fun hq=>?_))<;>(try first|(conv=>arg 8;simp only [hq])|(conv=>arg 4;simp only [hq])))|(with_reducible refine fin_0 ?_ (by first|rfl|(conv=>lhs;simp only [go_sem])) ?_)|exact Sub.refl _|omega)
end Go.Proofs.Ytpfedjaedlfdfaa
