/-
  Selectivity, in both packages. No condition.
-/
import Derived.Test.YtpfedjaedlfdfaaKSDca
import Derived.Test.YtpfedjaedlfdfaaKSDcb
import Derived.Test.YtpfedjaedlfdfaaKSVSel
set_option maxHeartbeats 4000000
set_option maxRecDepth 100000
namespace Go.Proofs.Ytpfedjaedlfdfaa
open Go.RowKit
theorem itr_tr (v : V) : itr v = 2 ↔ tr v = 1 := by
  unfold itr tr
  by_cases h : v.b = true
  · rw [if_pos h, if_pos h]; decide
  · rw [if_neg h, if_neg h]
    by_cases h' : v.n = 0
    · rw [if_pos h', if_pos h']; decide
    · rw [if_neg h', if_neg h']; decide
theorem st_col {s : St} {w : Int} (h : stIn s w) {a : E} {d : Nat} (ha : eOk a w d) (hk : a.k = 1) : ∃ (c : Nat) (x y : Int), a.c = c ∧ s.ds[c]? = some x ∧ s.ns[c]? = some y ∧ stOk s x y := by
  have hl := ((eOk_iff a w d).1 ha).2.2.2
  unfold leafOk at hl
  rw [if_pos hk] at hl
  have h1 := h.2.1
  have h2 := h.2.2.1
  have e1 : s.ds[a.c.toNat]? = some _ := List.getElem?_eq_getElem (show a.c.toNat < s.ds.length by omega)
  have e2 : s.ns[a.c.toNat]? = some _ := List.getElem?_eq_getElem (show a.c.toNat < s.ns.length by omega)
  exact ⟨a.c.toNat, _, _, by omega, e1, e2, h.2.2.2 _ _ _ e1 e2⟩
theorem equV_range {n x y : Int} (hn : 0 ≤ n ∧ n ≤ 400) (hs : (0 ≤ y ∧ y ≤ n) ∧ 0 ≤ x ∧ x ≤ n - y) : 0 ≤ equV n x y ∧ equV n x y ≤ 1000 := by
  unfold equV
  split
  · decide
  · rename_i h
    exact (equ_range hn hs h).2
theorem sel_ok {s : St} {w : Int} (h : stIn s w) : ∀ (e : E) (d : Nat), eOk e w d → ∃ n : Int, (0 ≤ n ∧ n ≤ 1000) ∧ Does Try.prog 73 [] [eD e, stD s] (I n) [] ∧ Does Try.prog 157 [] [stD s, eD e] (I n) [] := by
  refine E.ind (fun e ih d he => ?_)
  rcases eOk_kids he with ⟨h1, _⟩ | ⟨h1, a, hks, hao⟩ | ⟨h1, a, b, hks, hao, hbo⟩
  · rcases h1 with h1 | h1
    · refine ⟨500, by decide, ?_, ?_⟩
      · refine does0 c_spec_permille mixed (Nat.le_of_ble_eq_true rfl) ?_
        conv => arg 3; whnf
        repeat' (first|with_reducible refine acc_none ?_ | (conv in hold _=>simp (disch:=omega) only [go_sem, stD, intsD])|refine Stp.go ?_|(with_reducible first|refine it_pos rfl ?_|refine it_neg (by decide) ?_|refine st_nil rfl ?_|refine s_op ?_ ?_|exact trivial)|((with_reducible first|refine dw_reg0 ?_|refine dw_regB ?_);(conv=>arg 3;whnf))|(refine Spl.go (fun hq he=>?_) (fun hq he=>?_)<;>first|(exfalso;clear hq;omega)|((try first|(conv=>arg 8;simp only [hq])|(conv=>arg 4;simp only [hq]));clear hq))|((with_reducible first|refine c_split (fun hq=>?_) (fun hq=>?_)|refine q_split (fun hq=>?_) (fun hq=>?_))<;>(try first|(conv=>arg 8;simp only [hq])|(conv=>arg 4;simp only [hq])))|(with_reducible refine fin_0 ?_ (by first|rfl|(conv=>lhs;simp only [go_sem, stD, intsD])) ?_)|exact Sub.refl _|omega)
      · refine does0 c_impl_Stats_selectivity mixed (Nat.le_of_ble_eq_true rfl) ?_
        conv => arg 3; whnf
        repeat' (first|with_reducible refine acc_none ?_ | (conv in hold _=>simp (disch:=omega) only [go_sem, stD, intsD])|refine Stp.go ?_|(with_reducible first|refine it_pos rfl ?_|refine it_neg (by decide) ?_|refine st_nil rfl ?_|refine s_op ?_ ?_|exact trivial)|((with_reducible first|refine dw_reg0 ?_|refine dw_regB ?_);(conv=>arg 3;whnf))|(refine Spl.go (fun hq he=>?_) (fun hq he=>?_)<;>first|(exfalso;clear hq;omega)|((try first|(conv=>arg 8;simp only [hq])|(conv=>arg 4;simp only [hq]));clear hq))|((with_reducible first|refine c_split (fun hq=>?_) (fun hq=>?_)|refine q_split (fun hq=>?_) (fun hq=>?_))<;>(try first|(conv=>arg 8;simp only [hq])|(conv=>arg 4;simp only [hq])))|(with_reducible refine fin_0 ?_ (by first|rfl|(conv=>lhs;simp only [go_sem, stD, intsD])) ?_)|exact Sub.refl _|omega)
    · have hc := constantPermille_ok e.v
      by_cases ht : tr e.v = 1
      · have htb : (tr e.v == 1) = true := beq_iff_eq.2 ht
        rw [if_pos ((itr_tr _).2 ht)] at hc
        refine ⟨1000, by decide, ?_, ?_⟩
        · refine does0 c_spec_permille mixed (Nat.le_of_ble_eq_true rfl) ?_
          conv => arg 3; whnf
          repeat' (first
            | with_reducible refine acc_none ?_ | (conv in hold _=>simp (disch:=omega) only [go_sem, stD, intsD, htb, b2i])|refine Stp.go ?_|(with_reducible first|refine it_pos rfl ?_|refine it_neg (by decide) ?_|refine st_nil rfl ?_|refine s_op ?_ ?_|exact trivial)|((with_reducible first|refine dw_reg0 ?_|refine dw_regB ?_);(conv=>arg 3;whnf))|(refine Spl.go (fun hq he=>?_) (fun hq he=>?_)<;>first|(exfalso;clear hq;omega)|((try first|(conv=>arg 8;simp only [hq])|(conv=>arg 4;simp only [hq]));clear hq))|((with_reducible first|refine c_split (fun hq=>?_) (fun hq=>?_)|refine q_split (fun hq=>?_) (fun hq=>?_))<;>(try first|(conv=>arg 8;simp only [hq])|(conv=>arg 4;simp only [hq])))|(with_reducible refine fin_0 ?_ (by first|rfl|(conv=>lhs;simp only [go_sem, stD, intsD, htb, b2i])) ?_)
            | (with_reducible show evC _ _ _ _ _ _ _ _ _ _ _ _
               first
               | (refine c_doesE (truth_ok e.v) ?_ ?_ ?_
                  · ((try (conv=>rhs;simp (disch:=omega) only [go_sem, stD, intsD, htb, b2i])); try rfl)
                  · first|rfl|(conv=>lhs;simp only [go_sem, stD, intsD, htb, b2i]))
               | (refine c_doesE (toInt_ok true) ?_ ?_ ?_
                  · ((try (conv=>rhs;simp (disch:=omega) only [go_sem, stD, intsD, htb, b2i])); try rfl)
                  · first|rfl|(conv=>lhs;simp only [go_sem, stD, intsD, htb, b2i])))|exact Sub.refl _|omega)
        · refine does0 c_impl_Stats_selectivity mixed (Nat.le_of_ble_eq_true rfl) ?_
          conv => arg 3; whnf
          repeat' (first
            | with_reducible refine acc_none ?_ | (conv in hold _=>simp (disch:=omega) only [go_sem, stD, intsD])|refine Stp.go ?_|(with_reducible first|refine it_pos rfl ?_|refine it_neg (by decide) ?_|refine st_nil rfl ?_|refine s_op ?_ ?_|exact trivial)|((with_reducible first|refine dw_reg0 ?_|refine dw_regB ?_);(conv=>arg 3;whnf))|(refine Spl.go (fun hq he=>?_) (fun hq he=>?_)<;>first|(exfalso;clear hq;omega)|((try first|(conv=>arg 8;simp only [hq])|(conv=>arg 4;simp only [hq]));clear hq))|((with_reducible first|refine c_split (fun hq=>?_) (fun hq=>?_)|refine q_split (fun hq=>?_) (fun hq=>?_))<;>(try first|(conv=>arg 8;simp only [hq])|(conv=>arg 4;simp only [hq])))|(with_reducible refine fin_0 ?_ (by first|rfl|(conv=>lhs;simp only [go_sem, stD, intsD])) ?_)
            | (with_reducible show evC _ _ _ _ _ _ _ _ _ _ _ _
               first
               | (refine c_doesE (hc) ?_ ?_ ?_
                  · ((try (conv=>rhs;simp (disch:=omega) only [go_sem, stD, intsD])); try rfl)
                  · first|rfl|(conv=>lhs;simp only [go_sem, stD, intsD])))|exact Sub.refl _|omega)
      · have htb : (tr e.v == 1) = false := beq_eq_false_iff_ne.2 ht
        rw [if_neg (fun h' => ht ((itr_tr _).1 h'))] at hc
        refine ⟨0, by decide, ?_, ?_⟩
        · refine does0 c_spec_permille mixed (Nat.le_of_ble_eq_true rfl) ?_
          conv => arg 3; whnf
          repeat' (first
            | with_reducible refine acc_none ?_ | (conv in hold _=>simp (disch:=omega) only [go_sem, stD, intsD, htb, b2i])|refine Stp.go ?_|(with_reducible first|refine it_pos rfl ?_|refine it_neg (by decide) ?_|refine st_nil rfl ?_|refine s_op ?_ ?_|exact trivial)|((with_reducible first|refine dw_reg0 ?_|refine dw_regB ?_);(conv=>arg 3;whnf))|(refine Spl.go (fun hq he=>?_) (fun hq he=>?_)<;>first|(exfalso;clear hq;omega)|((try first|(conv=>arg 8;simp only [hq])|(conv=>arg 4;simp only [hq]));clear hq))|((with_reducible first|refine c_split (fun hq=>?_) (fun hq=>?_)|refine q_split (fun hq=>?_) (fun hq=>?_))<;>(try first|(conv=>arg 8;simp only [hq])|(conv=>arg 4;simp only [hq])))|(with_reducible refine fin_0 ?_ (by first|rfl|(conv=>lhs;simp only [go_sem, stD, intsD, htb, b2i])) ?_)
            | (with_reducible show evC _ _ _ _ _ _ _ _ _ _ _ _
               first
               | (refine c_doesE (truth_ok e.v) ?_ ?_ ?_
                  · ((try (conv=>rhs;simp (disch:=omega) only [go_sem, stD, intsD, htb, b2i])); try rfl)
                  · first|rfl|(conv=>lhs;simp only [go_sem, stD, intsD, htb, b2i]))
               | (refine c_doesE (toInt_ok false) ?_ ?_ ?_
                  · ((try (conv=>rhs;simp (disch:=omega) only [go_sem, stD, intsD, htb, b2i])); try rfl)
                  · first|rfl|(conv=>lhs;simp only [go_sem, stD, intsD, htb, b2i])))|exact Sub.refl _|omega)
        · refine does0 c_impl_Stats_selectivity mixed (Nat.le_of_ble_eq_true rfl) ?_
          conv => arg 3; whnf
          repeat' (first
            | with_reducible refine acc_none ?_ | (conv in hold _=>simp (disch:=omega) only [go_sem, stD, intsD])|refine Stp.go ?_|(with_reducible first|refine it_pos rfl ?_|refine it_neg (by decide) ?_|refine st_nil rfl ?_|refine s_op ?_ ?_|exact trivial)|((with_reducible first|refine dw_reg0 ?_|refine dw_regB ?_);(conv=>arg 3;whnf))|(refine Spl.go (fun hq he=>?_) (fun hq he=>?_)<;>first|(exfalso;clear hq;omega)|((try first|(conv=>arg 8;simp only [hq])|(conv=>arg 4;simp only [hq]));clear hq))|((with_reducible first|refine c_split (fun hq=>?_) (fun hq=>?_)|refine q_split (fun hq=>?_) (fun hq=>?_))<;>(try first|(conv=>arg 8;simp only [hq])|(conv=>arg 4;simp only [hq])))|(with_reducible refine fin_0 ?_ (by first|rfl|(conv=>lhs;simp only [go_sem, stD, intsD])) ?_)
            | (with_reducible show evC _ _ _ _ _ _ _ _ _ _ _ _
               first
               | (refine c_doesE (hc) ?_ ?_ ?_
                  · ((try (conv=>rhs;simp (disch:=omega) only [go_sem, stD, intsD])); try rfl)
                  · first|rfl|(conv=>lhs;simp only [go_sem, stD, intsD])))|exact Sub.refl _|omega)
  · have hlen : e.ks.length = 1 := by rw [hks]; rfl
    rcases h1 with h1 | h1
    · obtain ⟨n, hn, hA, hB⟩ := ih a (by rw [hks]; exact List.mem_cons_self ..) (d - 1) hao
      refine ⟨1000 - n, by omega, ?_, ?_⟩
      · refine does0 c_spec_permille mixed (Nat.le_of_ble_eq_true rfl) ?_
        conv => arg 3; whnf
        repeat' (first
          | with_reducible refine acc_none ?_ | (conv in hold _=>simp (disch:=omega) only [go_sem, stD, intsD, hks])|refine Stp.go ?_|(with_reducible first|refine it_pos rfl ?_|refine it_neg (by decide) ?_|refine st_nil rfl ?_|refine s_op ?_ ?_|exact trivial)|((with_reducible first|refine dw_reg0 ?_|refine dw_regB ?_);(conv=>arg 3;whnf))|(refine Spl.go (fun hq he=>?_) (fun hq he=>?_)<;>first|(exfalso;clear hq;omega)|((try first|(conv=>arg 8;simp only [hq])|(conv=>arg 4;simp only [hq]));clear hq))|((with_reducible first|refine c_split (fun hq=>?_) (fun hq=>?_)|refine q_split (fun hq=>?_) (fun hq=>?_))<;>(try first|(conv=>arg 8;simp only [hq])|(conv=>arg 4;simp only [hq])))|(with_reducible refine fin_0 ?_ (by first|rfl|(conv=>lhs;simp only [go_sem, stD, intsD, hks])) ?_)
          | (with_reducible show evC _ _ _ _ _ _ _ _ _ _ _ _
             first
             | (refine c_doesE (hA) ?_ ?_ ?_
                · ((try (conv=>rhs;simp (disch:=omega) only [go_sem, stD, intsD, hks])); try rfl)
                · first|rfl|(conv=>lhs;simp only [go_sem, stD, intsD, hks])))|exact Sub.refl _|omega)
      · refine does0 c_impl_Stats_selectivity mixed (Nat.le_of_ble_eq_true rfl) ?_
        conv => arg 3; whnf
        repeat' (first
          | with_reducible refine acc_none ?_ | (conv in hold _=>simp (disch:=omega) only [go_sem, stD, intsD, hks])|refine Stp.go ?_|(with_reducible first|refine it_pos rfl ?_|refine it_neg (by decide) ?_|refine st_nil rfl ?_|refine s_op ?_ ?_|exact trivial)|((with_reducible first|refine dw_reg0 ?_|refine dw_regB ?_);(conv=>arg 3;whnf))|(refine Spl.go (fun hq he=>?_) (fun hq he=>?_)<;>first|(exfalso;clear hq;omega)|((try first|(conv=>arg 8;simp only [hq])|(conv=>arg 4;simp only [hq]));clear hq))|((with_reducible first|refine c_split (fun hq=>?_) (fun hq=>?_)|refine q_split (fun hq=>?_) (fun hq=>?_))<;>(try first|(conv=>arg 8;simp only [hq])|(conv=>arg 4;simp only [hq])))|(with_reducible refine fin_0 ?_ (by first|rfl|(conv=>lhs;simp only [go_sem, stD, intsD, hks])) ?_)
          | (with_reducible show evC _ _ _ _ _ _ _ _ _ _ _ _
             first
             | (refine c_doesE (hB) ?_ ?_ ?_
                · ((try (conv=>rhs;simp (disch:=omega) only [go_sem, stD, intsD, hks])); try rfl)
                · first|rfl|(conv=>lhs;simp only [go_sem, stD, intsD, hks])))|exact Sub.refl _|omega)
    · by_cases hn : a.k = 1 ∧ ¬ s.n = 0
      · obtain ⟨hk, hn0⟩ := hn
        obtain ⟨c, x, y, hc, hx, hy, hok⟩ := st_col h hao hk
        have hr := h.1
        have hok1 : 0 ≤ y ∧ y ≤ s.n := hok.1
        have h5 := (List.getElem?_eq_some_iff.1 hy).1
        have h6 : 0 ≤ (1000 * y).tdiv s.n ∧ (1000 * y).tdiv s.n ≤ 1000 := by
          rw [Int.tdiv_eq_ediv_of_nonneg (by omega)]
          exact ⟨Int.ediv_nonneg (by omega) (by omega), Int.ediv_le_of_le_mul (by omega) (by omega)⟩
        have hp := nullPermille_ok s a hk (by omega) c hc y hy hr hok1
        refine ⟨(1000 * y).tdiv s.n, h6, ?_, ?_⟩
        · refine does0 c_spec_permille mixed (Nat.le_of_ble_eq_true rfl) ?_
          conv => arg 3; whnf
          repeat' (first|with_reducible refine acc_none ?_ | (conv in hold _=>simp (disch:=omega) only [go_sem, stD, intsD, hks, List.getElem?_map, hy, Option.map_some, hc])|refine Stp.go ?_|(with_reducible first|refine it_pos rfl ?_|refine it_neg (by decide) ?_|refine st_nil rfl ?_|refine s_op ?_ ?_|exact trivial)|((with_reducible first|refine dw_reg0 ?_|refine dw_regB ?_);(conv=>arg 3;whnf))|(refine Spl.go (fun hq he=>?_) (fun hq he=>?_)<;>first|(exfalso;clear hq;omega)|((try first|(conv=>arg 8;simp only [hq])|(conv=>arg 4;simp only [hq]));clear hq))|((with_reducible first|refine c_split (fun hq=>?_) (fun hq=>?_)|refine q_split (fun hq=>?_) (fun hq=>?_))<;>(try first|(conv=>arg 8;simp only [hq])|(conv=>arg 4;simp only [hq])))|(with_reducible refine fin_0 ?_ (by first|rfl|(conv=>lhs;simp only [go_sem, stD, intsD, hks, List.getElem?_map, hy, Option.map_some, hc])) ?_)|exact Sub.refl _|omega)
        · refine does0 c_impl_Stats_selectivity mixed (Nat.le_of_ble_eq_true rfl) ?_
          conv => arg 3; whnf
          repeat' (first
            | with_reducible refine acc_none ?_ | (conv in hold _=>simp (disch:=omega) only [go_sem, stD, intsD, hks])|refine Stp.go ?_|(with_reducible first|refine it_pos rfl ?_|refine it_neg (by decide) ?_|refine st_nil rfl ?_|refine s_op ?_ ?_|exact trivial)|((with_reducible first|refine dw_reg0 ?_|refine dw_regB ?_);(conv=>arg 3;whnf))|(refine Spl.go (fun hq he=>?_) (fun hq he=>?_)<;>first|(exfalso;clear hq;omega)|((try first|(conv=>arg 8;simp only [hq])|(conv=>arg 4;simp only [hq]));clear hq))|((with_reducible first|refine c_split (fun hq=>?_) (fun hq=>?_)|refine q_split (fun hq=>?_) (fun hq=>?_))<;>(try first|(conv=>arg 8;simp only [hq])|(conv=>arg 4;simp only [hq])))|(with_reducible refine fin_0 ?_ (by first|rfl|(conv=>lhs;simp only [go_sem, stD, intsD, hks])) ?_)
            | (with_reducible show evC _ _ _ _ _ _ _ _ _ _ _ _
               first
               | (refine c_doesE (hp) ?_ ?_ ?_
                  · ((try (conv=>rhs;simp (disch:=omega) only [go_sem, stD, intsD, hks])); try rfl)
                  · first|rfl|(conv=>lhs;simp only [go_sem, stD, intsD, hks])))|exact Sub.refl _|omega)
      · have hr := h.1
        have hp := nullPermille_no s a hn
        refine ⟨0, by decide, ?_, ?_⟩
        · refine does0 c_spec_permille mixed (Nat.le_of_ble_eq_true rfl) ?_
          conv => arg 3; whnf
          repeat' (first|with_reducible refine acc_none ?_ | (conv in hold _=>simp (disch:=omega) only [go_sem, stD, intsD, hks])|refine Stp.go ?_|(with_reducible first|refine it_pos rfl ?_|refine it_neg (by decide) ?_|refine st_nil rfl ?_|refine s_op ?_ ?_|exact trivial)|((with_reducible first|refine dw_reg0 ?_|refine dw_regB ?_);(conv=>arg 3;whnf))|(refine Spl.go (fun hq he=>?_) (fun hq he=>?_)<;>first|(exfalso;clear hq;omega)|((try first|(conv=>arg 8;simp only [hq])|(conv=>arg 4;simp only [hq]));clear hq))|((with_reducible first|refine c_split (fun hq=>?_) (fun hq=>?_)|refine q_split (fun hq=>?_) (fun hq=>?_))<;>(try first|(conv=>arg 8;simp only [hq])|(conv=>arg 4;simp only [hq])))|(with_reducible refine fin_0 ?_ (by first|rfl|(conv=>lhs;simp only [go_sem, stD, intsD, hks])) ?_)|exact Sub.refl _|omega)
        · refine does0 c_impl_Stats_selectivity mixed (Nat.le_of_ble_eq_true rfl) ?_
          conv => arg 3; whnf
          repeat' (first
            | with_reducible refine acc_none ?_ | (conv in hold _=>simp (disch:=omega) only [go_sem, stD, intsD, hks])|refine Stp.go ?_|(with_reducible first|refine it_pos rfl ?_|refine it_neg (by decide) ?_|refine st_nil rfl ?_|refine s_op ?_ ?_|exact trivial)|((with_reducible first|refine dw_reg0 ?_|refine dw_regB ?_);(conv=>arg 3;whnf))|(refine Spl.go (fun hq he=>?_) (fun hq he=>?_)<;>first|(exfalso;clear hq;omega)|((try first|(conv=>arg 8;simp only [hq])|(conv=>arg 4;simp only [hq]));clear hq))|((with_reducible first|refine c_split (fun hq=>?_) (fun hq=>?_)|refine q_split (fun hq=>?_) (fun hq=>?_))<;>(try first|(conv=>arg 8;simp only [hq])|(conv=>arg 4;simp only [hq])))|(with_reducible refine fin_0 ?_ (by first|rfl|(conv=>lhs;simp only [go_sem, stD, intsD, hks])) ?_)
            | (with_reducible show evC _ _ _ _ _ _ _ _ _ _ _ _
               first
               | (refine c_doesE (hp) ?_ ?_ ?_
                  · ((try (conv=>rhs;simp (disch:=omega) only [go_sem, stD, intsD, hks])); try rfl)
                  · first|rfl|(conv=>lhs;simp only [go_sem, stD, intsD, hks])))|exact Sub.refl _|omega)
  · have hlen : e.ks.length = 2 := by rw [hks]; rfl
    by_cases h6 : e.k = 6
    · by_cases hq : a.k = 1 ∧ b.k = 2 ∧ b.v.b = false
      · obtain ⟨q1, q2, q3⟩ := hq
        obtain ⟨c, x, y, hc, hx, hy, hok⟩ := st_col h hao q1
        have hp := equalPermille_ok s a b q1 q2 q3 c hc x y hx hy h.1 hok
        have hs := equality_ok s c x y hx hy h.1 hok
        refine ⟨equV s.n x y, equV_range h.1 hok, ?_, ?_⟩
        · refine does0 c_spec_permille mixed (Nat.le_of_ble_eq_true rfl) ?_
          conv => arg 3; whnf
          repeat' (first
            | with_reducible refine acc_none ?_ | (conv in hold _=>simp (disch:=omega) only [go_sem, stD, intsD, hks, hc, q3])|refine Stp.go ?_|(with_reducible first|refine it_pos rfl ?_|refine it_neg (by decide) ?_|refine st_nil rfl ?_|refine s_op ?_ ?_|exact trivial)|((with_reducible first|refine dw_reg0 ?_|refine dw_regB ?_);(conv=>arg 3;whnf))|(refine Spl.go (fun hq he=>?_) (fun hq he=>?_)<;>first|(exfalso;clear hq;omega)|((try first|(conv=>arg 8;simp only [hq])|(conv=>arg 4;simp only [hq]));clear hq))|((with_reducible first|refine c_split (fun hq=>?_) (fun hq=>?_)|refine q_split (fun hq=>?_) (fun hq=>?_))<;>(try first|(conv=>arg 8;simp only [hq])|(conv=>arg 4;simp only [hq])))|(with_reducible refine fin_0 ?_ (by first|rfl|(conv=>lhs;simp only [go_sem, stD, intsD, hks, hc, q3])) ?_)
            | (with_reducible show evC _ _ _ _ _ _ _ _ _ _ _ _
               first
               | (refine c_doesE (hs) ?_ ?_ ?_
                  · ((try (conv=>rhs;simp (disch:=omega) only [go_sem, stD, intsD, hks, hc, q3])); try rfl)
                  · first|rfl|(conv=>lhs;simp only [go_sem, stD, intsD, hks, hc, q3])))|exact Sub.refl _|omega)
        · refine does0 c_impl_Stats_selectivity mixed (Nat.le_of_ble_eq_true rfl) ?_
          conv => arg 3; whnf
          repeat' (first
            | with_reducible refine acc_none ?_ | (conv in hold _=>simp (disch:=omega) only [go_sem, stD, intsD, hks])|refine Stp.go ?_|(with_reducible first|refine it_pos rfl ?_|refine it_neg (by decide) ?_|refine st_nil rfl ?_|refine s_op ?_ ?_|exact trivial)|((with_reducible first|refine dw_reg0 ?_|refine dw_regB ?_);(conv=>arg 3;whnf))|(refine Spl.go (fun hq he=>?_) (fun hq he=>?_)<;>first|(exfalso;clear hq;omega)|((try first|(conv=>arg 8;simp only [hq])|(conv=>arg 4;simp only [hq]));clear hq))|((with_reducible first|refine c_split (fun hq=>?_) (fun hq=>?_)|refine q_split (fun hq=>?_) (fun hq=>?_))<;>(try first|(conv=>arg 8;simp only [hq])|(conv=>arg 4;simp only [hq])))|(with_reducible refine fin_0 ?_ (by first|rfl|(conv=>lhs;simp only [go_sem, stD, intsD, hks])) ?_)
            | (with_reducible show evC _ _ _ _ _ _ _ _ _ _ _ _
               first
               | (refine c_doesE (hp) ?_ ?_ ?_
                  · ((try (conv=>rhs;simp (disch:=omega) only [go_sem, stD, intsD, hks])); try rfl)
                  · first|rfl|(conv=>lhs;simp only [go_sem, stD, intsD, hks])))|exact Sub.refl _|omega)
      · have hp := equalPermille_no s a b hq
        refine ⟨100, by decide, ?_, ?_⟩
        · by_cases q1 : a.k = 1
          · by_cases q2 : b.k = 2
            · have q3 : b.v.b = true := by
                cases hb : b.v.b with
                | true => rfl
                | false => exact (hq ⟨q1, q2, hb⟩).elim
              refine does0 c_spec_permille mixed (Nat.le_of_ble_eq_true rfl) ?_
              conv => arg 3; whnf
              repeat' (first|with_reducible refine acc_none ?_ | (conv in hold _=>simp (disch:=omega) only [go_sem, stD, intsD, hks, q3])|refine Stp.go ?_|(with_reducible first|refine it_pos rfl ?_|refine it_neg (by decide) ?_|refine st_nil rfl ?_|refine s_op ?_ ?_|exact trivial)|((with_reducible first|refine dw_reg0 ?_|refine dw_regB ?_);(conv=>arg 3;whnf))|(refine Spl.go (fun hq he=>?_) (fun hq he=>?_)<;>first|(exfalso;clear hq;omega)|((try first|(conv=>arg 8;simp only [hq])|(conv=>arg 4;simp only [hq]));clear hq))|((with_reducible first|refine c_split (fun hq=>?_) (fun hq=>?_)|refine q_split (fun hq=>?_) (fun hq=>?_))<;>(try first|(conv=>arg 8;simp only [hq])|(conv=>arg 4;simp only [hq])))|(with_reducible refine fin_0 ?_ (by first|rfl|(conv=>lhs;simp only [go_sem, stD, intsD, hks, q3])) ?_)|exact Sub.refl _|omega)
            · refine does0 c_spec_permille mixed (Nat.le_of_ble_eq_true rfl) ?_
              conv => arg 3; whnf
              repeat' (first|with_reducible refine acc_none ?_ | (conv in hold _=>simp (disch:=omega) only [go_sem, stD, intsD, hks])|refine Stp.go ?_|(with_reducible first|refine it_pos rfl ?_|refine it_neg (by decide) ?_|refine st_nil rfl ?_|refine s_op ?_ ?_|exact trivial)|((with_reducible first|refine dw_reg0 ?_|refine dw_regB ?_);(conv=>arg 3;whnf))|(refine Spl.go (fun hq he=>?_) (fun hq he=>?_)<;>first|(exfalso;clear hq;omega)|((try first|(conv=>arg 8;simp only [hq])|(conv=>arg 4;simp only [hq]));clear hq))|((with_reducible first|refine c_split (fun hq=>?_) (fun hq=>?_)|refine q_split (fun hq=>?_) (fun hq=>?_))<;>(try first|(conv=>arg 8;simp only [hq])|(conv=>arg 4;simp only [hq])))|(with_reducible refine fin_0 ?_ (by first|rfl|(conv=>lhs;simp only [go_sem, stD, intsD, hks])) ?_)|exact Sub.refl _|omega)
          · refine does0 c_spec_permille mixed (Nat.le_of_ble_eq_true rfl) ?_
            conv => arg 3; whnf
            repeat' (first|with_reducible refine acc_none ?_ | (conv in hold _=>simp (disch:=omega) only [go_sem, stD, intsD, hks])|refine Stp.go ?_|(with_reducible first|refine it_pos rfl ?_|refine it_neg (by decide) ?_|refine st_nil rfl ?_|refine s_op ?_ ?_|exact trivial)|((with_reducible first|refine dw_reg0 ?_|refine dw_regB ?_);(conv=>arg 3;whnf))|(refine Spl.go (fun hq he=>?_) (fun hq he=>?_)<;>first|(exfalso;clear hq;omega)|((try first|(conv=>arg 8;simp only [hq])|(conv=>arg 4;simp only [hq]));clear hq))|((with_reducible first|refine c_split (fun hq=>?_) (fun hq=>?_)|refine q_split (fun hq=>?_) (fun hq=>?_))<;>(try first|(conv=>arg 8;simp only [hq])|(conv=>arg 4;simp only [hq])))|(with_reducible refine fin_0 ?_ (by first|rfl|(conv=>lhs;simp only [go_sem, stD, intsD, hks])) ?_)|exact Sub.refl _|omega)
        · refine does0 c_impl_Stats_selectivity mixed (Nat.le_of_ble_eq_true rfl) ?_
          conv => arg 3; whnf
          repeat' (first
            | with_reducible refine acc_none ?_ | (conv in hold _=>simp (disch:=omega) only [go_sem, stD, intsD, hks])|refine Stp.go ?_|(with_reducible first|refine it_pos rfl ?_|refine it_neg (by decide) ?_|refine st_nil rfl ?_|refine s_op ?_ ?_|exact trivial)|((with_reducible first|refine dw_reg0 ?_|refine dw_regB ?_);(conv=>arg 3;whnf))|(refine Spl.go (fun hq he=>?_) (fun hq he=>?_)<;>first|(exfalso;clear hq;omega)|((try first|(conv=>arg 8;simp only [hq])|(conv=>arg 4;simp only [hq]));clear hq))|((with_reducible first|refine c_split (fun hq=>?_) (fun hq=>?_)|refine q_split (fun hq=>?_) (fun hq=>?_))<;>(try first|(conv=>arg 8;simp only [hq])|(conv=>arg 4;simp only [hq])))|(with_reducible refine fin_0 ?_ (by first|rfl|(conv=>lhs;simp only [go_sem, stD, intsD, hks])) ?_)
            | (with_reducible show evC _ _ _ _ _ _ _ _ _ _ _ _
               first
               | (refine c_doesE (hp) ?_ ?_ ?_
                  · ((try (conv=>rhs;simp (disch:=omega) only [go_sem, stD, intsD, hks])); try rfl)
                  · first|rfl|(conv=>lhs;simp only [go_sem, stD, intsD, hks])))|exact Sub.refl _|omega)
    · by_cases h7 : e.k = 7
      · refine ⟨333, by decide, ?_, ?_⟩
        · refine does0 c_spec_permille mixed (Nat.le_of_ble_eq_true rfl) ?_
          conv => arg 3; whnf
          repeat' (first|with_reducible refine acc_none ?_ | (conv in hold _=>simp (disch:=omega) only [go_sem, stD, intsD, hks])|refine Stp.go ?_|(with_reducible first|refine it_pos rfl ?_|refine it_neg (by decide) ?_|refine st_nil rfl ?_|refine s_op ?_ ?_|exact trivial)|((with_reducible first|refine dw_reg0 ?_|refine dw_regB ?_);(conv=>arg 3;whnf))|(refine Spl.go (fun hq he=>?_) (fun hq he=>?_)<;>first|(exfalso;clear hq;omega)|((try first|(conv=>arg 8;simp only [hq])|(conv=>arg 4;simp only [hq]));clear hq))|((with_reducible first|refine c_split (fun hq=>?_) (fun hq=>?_)|refine q_split (fun hq=>?_) (fun hq=>?_))<;>(try first|(conv=>arg 8;simp only [hq])|(conv=>arg 4;simp only [hq])))|(with_reducible refine fin_0 ?_ (by first|rfl|(conv=>lhs;simp only [go_sem, stD, intsD, hks])) ?_)|exact Sub.refl _|omega)
        · refine does0 c_impl_Stats_selectivity mixed (Nat.le_of_ble_eq_true rfl) ?_
          conv => arg 3; whnf
          repeat' (first|with_reducible refine acc_none ?_ | (conv in hold _=>simp (disch:=omega) only [go_sem, stD, intsD, hks])|refine Stp.go ?_|(with_reducible first|refine it_pos rfl ?_|refine it_neg (by decide) ?_|refine st_nil rfl ?_|refine s_op ?_ ?_|exact trivial)|((with_reducible first|refine dw_reg0 ?_|refine dw_regB ?_);(conv=>arg 3;whnf))|(refine Spl.go (fun hq he=>?_) (fun hq he=>?_)<;>first|(exfalso;clear hq;omega)|((try first|(conv=>arg 8;simp only [hq])|(conv=>arg 4;simp only [hq]));clear hq))|((with_reducible first|refine c_split (fun hq=>?_) (fun hq=>?_)|refine q_split (fun hq=>?_) (fun hq=>?_))<;>(try first|(conv=>arg 8;simp only [hq])|(conv=>arg 4;simp only [hq])))|(with_reducible refine fin_0 ?_ (by first|rfl|(conv=>lhs;simp only [go_sem, stD, intsD, hks])) ?_)|exact Sub.refl _|omega)
      · by_cases h89 : e.k = 8 ∨ e.k = 9
        · obtain ⟨x, hx, hA, hB⟩ := ih a (by rw [hks]; exact List.mem_cons_self ..) (d - 1) hao
          obtain ⟨y, hy, hC, hD⟩ := ih b (by rw [hks]; exact List.mem_cons_of_mem _ (List.mem_cons_self ..)) (d - 1) hbo
          have hm := mul_range hx hy
          have hr := red_range hx hy
          have hred := reduced_ok hx hy
          by_cases h8 : e.k = 8
          · refine ⟨(x * y).tdiv 1000, by omega, ?_, ?_⟩
            · refine does0 c_spec_permille mixed (Nat.le_of_ble_eq_true rfl) ?_
              conv => arg 3; whnf
              repeat' (first
                | with_reducible refine acc_none ?_ | (conv in hold _=>simp (disch:=omega) only [go_sem, stD, intsD, hks])|refine Stp.go ?_|(with_reducible first|refine it_pos rfl ?_|refine it_neg (by decide) ?_|refine st_nil rfl ?_|refine s_op ?_ ?_|exact trivial)|((with_reducible first|refine dw_reg0 ?_|refine dw_regB ?_);(conv=>arg 3;whnf))|(refine Spl.go (fun hq he=>?_) (fun hq he=>?_)<;>first|(exfalso;clear hq;omega)|((try first|(conv=>arg 8;simp only [hq])|(conv=>arg 4;simp only [hq]));clear hq))|((with_reducible first|refine c_split (fun hq=>?_) (fun hq=>?_)|refine q_split (fun hq=>?_) (fun hq=>?_))<;>(try first|(conv=>arg 8;simp only [hq])|(conv=>arg 4;simp only [hq])))|(with_reducible refine fin_0 ?_ (by first|rfl|(conv=>lhs;simp only [go_sem, stD, intsD, hks])) ?_)
                | (with_reducible show evC _ _ _ _ _ _ _ _ _ _ _ _
                   first
                   | (refine c_doesE (hA) ?_ ?_ ?_
                      · ((try (conv=>rhs;simp (disch:=omega) only [go_sem, stD, intsD, hks])); try rfl)
                      · first|rfl|(conv=>lhs;simp only [go_sem, stD, intsD, hks]))
                   | (refine c_doesE (hC) ?_ ?_ ?_
                      · ((try (conv=>rhs;simp (disch:=omega) only [go_sem, stD, intsD, hks])); try rfl)
                      · first|rfl|(conv=>lhs;simp only [go_sem, stD, intsD, hks])))|exact Sub.refl _|omega)
            · refine does0 c_impl_Stats_selectivity mixed (Nat.le_of_ble_eq_true rfl) ?_
              conv => arg 3; whnf
              repeat' (first
                | with_reducible refine acc_none ?_ | (conv in hold _=>simp (disch:=omega) only [go_sem, stD, intsD, hks])|refine Stp.go ?_|(with_reducible first|refine it_pos rfl ?_|refine it_neg (by decide) ?_|refine st_nil rfl ?_|refine s_op ?_ ?_|exact trivial)|((with_reducible first|refine dw_reg0 ?_|refine dw_regB ?_);(conv=>arg 3;whnf))|(refine Spl.go (fun hq he=>?_) (fun hq he=>?_)<;>first|(exfalso;clear hq;omega)|((try first|(conv=>arg 8;simp only [hq])|(conv=>arg 4;simp only [hq]));clear hq))|((with_reducible first|refine c_split (fun hq=>?_) (fun hq=>?_)|refine q_split (fun hq=>?_) (fun hq=>?_))<;>(try first|(conv=>arg 8;simp only [hq])|(conv=>arg 4;simp only [hq])))|(with_reducible refine fin_0 ?_ (by first|rfl|(conv=>lhs;simp only [go_sem, stD, intsD, hks])) ?_)
                | (with_reducible show evC _ _ _ _ _ _ _ _ _ _ _ _
                   first
                   | (refine c_doesE (hB) ?_ ?_ ?_
                      · ((try (conv=>rhs;simp (disch:=omega) only [go_sem, stD, intsD, hks])); try rfl)
                      · first|rfl|(conv=>lhs;simp only [go_sem, stD, intsD, hks]))
                   | (refine c_doesE (hD) ?_ ?_ ?_
                      · ((try (conv=>rhs;simp (disch:=omega) only [go_sem, stD, intsD, hks])); try rfl)
                      · first|rfl|(conv=>lhs;simp only [go_sem, stD, intsD, hks]))
                   | (refine c_doesE (hred) ?_ ?_ ?_
                      · ((try (conv=>rhs;simp (disch:=omega) only [go_sem, stD, intsD, hks])); try rfl)
                      · first|rfl|(conv=>lhs;simp only [go_sem, stD, intsD, hks])))|exact Sub.refl _|omega)
          · refine ⟨x + y - (x * y).tdiv 1000, by omega, ?_, ?_⟩
            · refine does0 c_spec_permille mixed (Nat.le_of_ble_eq_true rfl) ?_
              conv => arg 3; whnf
              repeat' (first
                | with_reducible refine acc_none ?_ | (conv in hold _=>simp (disch:=omega) only [go_sem, stD, intsD, hks])|refine Stp.go ?_|(with_reducible first|refine it_pos rfl ?_|refine it_neg (by decide) ?_|refine st_nil rfl ?_|refine s_op ?_ ?_|exact trivial)|((with_reducible first|refine dw_reg0 ?_|refine dw_regB ?_);(conv=>arg 3;whnf))|(refine Spl.go (fun hq he=>?_) (fun hq he=>?_)<;>first|(exfalso;clear hq;omega)|((try first|(conv=>arg 8;simp only [hq])|(conv=>arg 4;simp only [hq]));clear hq))|((with_reducible first|refine c_split (fun hq=>?_) (fun hq=>?_)|refine q_split (fun hq=>?_) (fun hq=>?_))<;>(try first|(conv=>arg 8;simp only [hq])|(conv=>arg 4;simp only [hq])))|(with_reducible refine fin_0 ?_ (by first|rfl|(conv=>lhs;simp only [go_sem, stD, intsD, hks])) ?_)
                | (with_reducible show evC _ _ _ _ _ _ _ _ _ _ _ _
                   first
                   | (refine c_doesE (hA) ?_ ?_ ?_
                      · ((try (conv=>rhs;simp (disch:=omega) only [go_sem, stD, intsD, hks])); try rfl)
                      · first|rfl|(conv=>lhs;simp only [go_sem, stD, intsD, hks]))
                   | (refine c_doesE (hC) ?_ ?_ ?_
                      · ((try (conv=>rhs;simp (disch:=omega) only [go_sem, stD, intsD, hks])); try rfl)
                      · first|rfl|(conv=>lhs;simp only [go_sem, stD, intsD, hks])))|exact Sub.refl _|omega)
            · refine does0 c_impl_Stats_selectivity mixed (Nat.le_of_ble_eq_true rfl) ?_
              conv => arg 3; whnf
              repeat' (first
                | with_reducible refine acc_none ?_ | (conv in hold _=>simp (disch:=omega) only [go_sem, stD, intsD, hks])|refine Stp.go ?_|(with_reducible first|refine it_pos rfl ?_|refine it_neg (by decide) ?_|refine st_nil rfl ?_|refine s_op ?_ ?_|exact trivial)|((with_reducible first|refine dw_reg0 ?_|refine dw_regB ?_);(conv=>arg 3;whnf))|(refine Spl.go (fun hq he=>?_) (fun hq he=>?_)<;>first|(exfalso;clear hq;omega)|((try first|(conv=>arg 8;simp only [hq])|(conv=>arg 4;simp only [hq]));clear hq))|((with_reducible first|refine c_split (fun hq=>?_) (fun hq=>?_)|refine q_split (fun hq=>?_) (fun hq=>?_))<;>(try first|(conv=>arg 8;simp only [hq])|(conv=>arg 4;simp only [hq])))|(with_reducible refine fin_0 ?_ (by first|rfl|(conv=>lhs;simp only [go_sem, stD, intsD, hks])) ?_)
                | (with_reducible show evC _ _ _ _ _ _ _ _ _ _ _ _
                   first
                   | (refine c_doesE (hB) ?_ ?_ ?_
                      · ((try (conv=>rhs;simp (disch:=omega) only [go_sem, stD, intsD, hks])); try rfl)
                      · first|rfl|(conv=>lhs;simp only [go_sem, stD, intsD, hks]))
                   | (refine c_doesE (hD) ?_ ?_ ?_
                      · ((try (conv=>rhs;simp (disch:=omega) only [go_sem, stD, intsD, hks])); try rfl)
                      · first|rfl|(conv=>lhs;simp only [go_sem, stD, intsD, hks]))
                   | (refine c_doesE (hred) ?_ ?_ ?_
                      · ((try (conv=>rhs;simp (disch:=omega) only [go_sem, stD, intsD, hks])); try rfl)
                      · first|rfl|(conv=>lhs;simp only [go_sem, stD, intsD, hks])))|exact Sub.refl _|omega)
        · refine ⟨500, by decide, ?_, ?_⟩
          · refine does0 c_spec_permille mixed (Nat.le_of_ble_eq_true rfl) ?_
            conv => arg 3; whnf
            repeat' (first|with_reducible refine acc_none ?_ | (conv in hold _=>simp (disch:=omega) only [go_sem, stD, intsD, hks])|refine Stp.go ?_|(with_reducible first|refine it_pos rfl ?_|refine it_neg (by decide) ?_|refine st_nil rfl ?_|refine s_op ?_ ?_|exact trivial)|((with_reducible first|refine dw_reg0 ?_|refine dw_regB ?_);(conv=>arg 3;whnf))|(refine Spl.go (fun hq he=>?_) (fun hq he=>?_)<;>first|(exfalso;clear hq;omega)|((try first|(conv=>arg 8;simp only [hq])|(conv=>arg 4;simp only [hq]));clear hq))|((with_reducible first|refine c_split (fun hq=>?_) (fun hq=>?_)|refine q_split (fun hq=>?_) (fun hq=>?_))<;>(try first|(conv=>arg 8;simp only [hq])|(conv=>arg 4;simp only [hq])))|(with_reducible refine fin_0 ?_ (by first|rfl|(conv=>lhs;simp only [go_sem, stD, intsD, hks])) ?_)|exact Sub.refl _|omega)
          · refine does0 c_impl_Stats_selectivity mixed (Nat.le_of_ble_eq_true rfl) ?_
            conv => arg 3; whnf
            repeat' (first|with_reducible refine acc_none ?_ | (conv in hold _=>simp (disch:=omega) only [go_sem, stD, intsD, hks])|refine Stp.go ?_|(with_reducible first|refine it_pos rfl ?_|refine it_neg (by decide) ?_|refine st_nil rfl ?_|refine s_op ?_ ?_|exact trivial)|((with_reducible first|refine dw_reg0 ?_|refine dw_regB ?_);(conv=>arg 3;whnf))|(refine Spl.go (fun hq he=>?_) (fun hq he=>?_)<;>first|(exfalso;clear hq;omega)|((try first|(conv=>arg 8;simp only [hq])|(conv=>arg 4;simp only [hq]));clear hq))|((with_reducible first|refine c_split (fun hq=>?_) (fun hq=>?_)|refine q_split (fun hq=>?_) (fun hq=>?_))<;>(try first|(conv=>arg 8;simp only [hq])|(conv=>arg 4;simp only [hq])))|(with_reducible refine fin_0 ?_ (by first|rfl|(conv=>lhs;simp only [go_sem, stD, intsD, hks])) ?_)|exact Sub.refl _|omega)
end Go.Proofs.Ytpfedjaedlfdfaa
