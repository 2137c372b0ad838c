/-
  The law that numbers are totally ordered by LessThan. No condition.
-/
import Derived.Test.YtpcebjlkckgplaaDcWPLess
import Derived.Test.YtpcebjlkckgplaaDca
import Derived.Test.YtpcebjlkckgplaaVWTwo
set_option maxHeartbeats 4000000
set_option maxRecDepth 100000
set_option linter.unusedVariables false
set_option linter.unusedSimpArgs false
namespace Go.Proofs.Ytpcebjlkckgplaa
open Go.RowKit

theorem eOk_pair {k k' c : Int} {v : V} {a b x y : E} {w : Int} {d : Nat} (hk : 3 ≤ k ∧ k ≤ 9) (hk' : 3 ≤ k' ∧ k' ≤ 9) (hx : x = a ∨ x = b) (hy : y = a ∨ y = b) (h : eOk (.mk k c v [a, b]) w d) : eOk (.mk k' 0 ⟨false, 0⟩ [x, y]) w d := by
  rw [eOk_iff] at h ⊢
  refine ⟨?_, h.2.1, fun z hz => h.2.2.1 z ?_, ?_⟩
  · show ((2 : Nat) : Int) = kidsN k'
    unfold kidsN
    omega
  · have hz' : z ∈ [x, y] := hz
    show z ∈ [a, b]
    simp only [List.mem_cons, List.not_mem_nil, or_false] at hz' ⊢
    rcases hz' with rfl | rfl
    · exact hx
    · exact hy
  · show leafOk k' 0 ⟨false, 0⟩ w
    unfold leafOk
    rw [if_neg (by omega), if_neg (by omega)]
    exact ⟨rfl, rfl, rfl⟩
theorem isTrue_ok {e : E} {row : List V} (h : valid e row) {t : Bool} (ht : ev e row = ⟨false, b2i t⟩) : Does Try.prog 20 [] [eD e, rowD row] (Bo t) [] := by
  have h1 := impl_t h
  rw [ht] at h1
  cases t with
  | true =>
    refine does0 c_laws_isTrue mixed (Nat.le_of_ble_eq_true rfl) ?_
    conv => arg 3; whnf
    repeat' (first | with_reducible refine acc_none ?_ | (conv in hold _ => simp (disch := omega) only [go_sem]) | refine Stp.go ?_ | (with_reducible first | refine it_pos rfl ?_ | refine it_neg (by decide) ?_ | refine st_nil rfl ?_ | refine s_op ?_ ?_ | exact True.intro) | ((with_reducible first | refine dw_reg0 ?_ | refine dw_regB ?_); (conv => arg 3; whnf)) | (refine Spl.go (fun hq he => ?_) (fun hq he => ?_) <;> first | (exfalso; clear hq; omega) | ((try (first | (conv => arg 8; simp only [hq]) | (conv => arg 4; simp only [hq]))); clear hq)) | ((with_reducible first | refine c_split (fun hq => ?_) (fun hq => ?_) | refine q_split (fun hq => ?_) (fun hq => ?_)) <;> (try (first | (conv => arg 8; simp only [hq]) | (conv => arg 4; simp only [hq])))) | (with_reducible refine fin_0 ?_ (by first | rfl | (conv => lhs; simp only [go_sem])) ?_) | exact Sub.refl _ | omega)
    refine c_doesE (h1) ?_ ?_ ?_
    · ((try (conv => rhs; simp (disch := omega) only [go_sem])); try rfl)
    · first | rfl | (conv => lhs; simp only [go_sem])
    repeat' (first | with_reducible refine acc_none ?_ | (conv in hold _ => simp (disch := omega) only [go_sem]) | refine Stp.go ?_ | (with_reducible first | refine it_pos rfl ?_ | refine it_neg (by decide) ?_ | refine st_nil rfl ?_ | refine s_op ?_ ?_ | exact True.intro) | ((with_reducible first | refine dw_reg0 ?_ | refine dw_regB ?_); (conv => arg 3; whnf)) | (refine Spl.go (fun hq he => ?_) (fun hq he => ?_) <;> first | (exfalso; clear hq; omega) | ((try (first | (conv => arg 8; simp only [hq]) | (conv => arg 4; simp only [hq]))); clear hq)) | ((with_reducible first | refine c_split (fun hq => ?_) (fun hq => ?_) | refine q_split (fun hq => ?_) (fun hq => ?_)) <;> (try (first | (conv => arg 8; simp only [hq]) | (conv => arg 4; simp only [hq])))) | (with_reducible refine fin_0 ?_ (by first | rfl | (conv => lhs; simp only [go_sem])) ?_) | exact Sub.refl _ | omega)
  | false =>
    refine does0 c_laws_isTrue mixed (Nat.le_of_ble_eq_true rfl) ?_
    conv => arg 3; whnf
    repeat' (first | with_reducible refine acc_none ?_ | (conv in hold _ => simp (disch := omega) only [go_sem]) | refine Stp.go ?_ | (with_reducible first | refine it_pos rfl ?_ | refine it_neg (by decide) ?_ | refine st_nil rfl ?_ | refine s_op ?_ ?_ | exact True.intro) | ((with_reducible first | refine dw_reg0 ?_ | refine dw_regB ?_); (conv => arg 3; whnf)) | (refine Spl.go (fun hq he => ?_) (fun hq he => ?_) <;> first | (exfalso; clear hq; omega) | ((try (first | (conv => arg 8; simp only [hq]) | (conv => arg 4; simp only [hq]))); clear hq)) | ((with_reducible first | refine c_split (fun hq => ?_) (fun hq => ?_) | refine q_split (fun hq => ?_) (fun hq => ?_)) <;> (try (first | (conv => arg 8; simp only [hq]) | (conv => arg 4; simp only [hq])))) | (with_reducible refine fin_0 ?_ (by first | rfl | (conv => lhs; simp only [go_sem])) ?_) | exact Sub.refl _ | omega)
    refine c_doesE (h1) ?_ ?_ ?_
    · ((try (conv => rhs; simp (disch := omega) only [go_sem])); try rfl)
    · first | rfl | (conv => lhs; simp only [go_sem])
    repeat' (first | with_reducible refine acc_none ?_ | (conv in hold _ => simp (disch := omega) only [go_sem]) | refine Stp.go ?_ | (with_reducible first | refine it_pos rfl ?_ | refine it_neg (by decide) ?_ | refine st_nil rfl ?_ | refine s_op ?_ ?_ | exact True.intro) | ((with_reducible first | refine dw_reg0 ?_ | refine dw_regB ?_); (conv => arg 3; whnf)) | (refine Spl.go (fun hq he => ?_) (fun hq he => ?_) <;> first | (exfalso; clear hq; omega) | ((try (first | (conv => arg 8; simp only [hq]) | (conv => arg 4; simp only [hq]))); clear hq)) | ((with_reducible first | refine c_split (fun hq => ?_) (fun hq => ?_) | refine q_split (fun hq => ?_) (fun hq => ?_)) <;> (try (first | (conv => arg 8; simp only [hq]) | (conv => arg 4; simp only [hq])))) | (with_reducible refine fin_0 ?_ (by first | rfl | (conv => lhs; simp only [go_sem])) ?_) | exact Sub.refl _ | omega)
theorem does_FnLessThan (cs : List Nat) (hc : ∀ b, b ∈ cs → b < 256) : Does Try.prog 8 [] [bytesD cs] (Bo true) [] := by
  obtain ⟨e, row, hdr, hl, _⟩ := DrawEvalExpr_ok cs hc
  by_cases hv : valid e row
  · have h1 := impl_t hv
    have h2 := spec_t hv
    by_cases hk : (e.k = 6 ∨ e.k = 7) ∧ (ev e row).b = false
    · obtain ⟨a, b, hks, hev, hva, hvb⟩ := valid_two hv (by omega)
      have hn : ¬ ((ev a row).b = true ∨ (ev b row).b = true) := fun h => by
        have h3 := hk.2
        rw [hev, combN (by omega) (by omega) h] at h3
        cases h3
      have ha : (ev a row).b = false := by simpa using fun e => hn (.inl e)
      have hb : (ev b row).b = false := by simpa using fun e => hn (.inr e)
      obtain ⟨k, c, u, ks⟩ := e
      obtain rfl : ks = [a, b] := hks
      have hk6 : k = 6 ∨ k = 7 := hk.1
      have hn0 := hk.2
      have q1 := two_expr 7 a b
      have q2 := two_expr 7 b a
      have q3 := two_expr 6 a b
      have v1 : valid (.mk 7 0 ⟨false, 0⟩ [a, b]) row := ⟨hv.1, eOk_pair (by omega) (by omega) (.inl rfl) (.inr rfl) hv.2⟩
      have v2 : valid (.mk 7 0 ⟨false, 0⟩ [b, a]) row := ⟨hv.1, eOk_pair (by omega) (by omega) (.inr rfl) (.inl rfl) hv.2⟩
      have v3 : valid (.mk 6 0 ⟨false, 0⟩ [a, b]) row := ⟨hv.1, eOk_pair (by omega) (by omega) (.inl rfl) (.inr rfl) hv.2⟩
      have e1 : ev (.mk 7 0 ⟨false, 0⟩ [a, b]) row = ⟨false, b2i (decide ((ev a row).n < (ev b row).n))⟩ := by
        rw [ev_two (e := .mk 7 0 ⟨false, 0⟩ [a, b]) (by rw [E.k_mk]; decide) (by rw [E.k_mk]; decide) (by rw [E.k_mk]; decide) (by rw [E.k_mk]; decide) rfl]
        exact combX (by rw [E.k_mk]; decide) (by rw [E.k_mk]; decide) ha hb
      have e2 : ev (.mk 7 0 ⟨false, 0⟩ [b, a]) row = ⟨false, b2i (decide ((ev b row).n < (ev a row).n))⟩ := by
        rw [ev_two (e := .mk 7 0 ⟨false, 0⟩ [b, a]) (by rw [E.k_mk]; decide) (by rw [E.k_mk]; decide) (by rw [E.k_mk]; decide) (by rw [E.k_mk]; decide) rfl]
        exact combX (by rw [E.k_mk]; decide) (by rw [E.k_mk]; decide) hb ha
      have e3 : ev (.mk 6 0 ⟨false, 0⟩ [a, b]) row = ⟨false, b2i ((ev a row).n == (ev b row).n)⟩ := by
        rw [ev_two (e := .mk 6 0 ⟨false, 0⟩ [a, b]) (by rw [E.k_mk]; decide) (by rw [E.k_mk]; decide) (by rw [E.k_mk]; decide) (by rw [E.k_mk]; decide) rfl]
        exact combX (by rw [E.k_mk]; decide) (by rw [E.k_mk]; decide) ha hb
      have t1 := isTrue_ok v1 e1
      have t2 := isTrue_ok v2 e2
      have t3 := isTrue_ok v3 e3
      have h3 : (decide ((ev a row).n < (ev b row).n) = true ∧ decide ((ev b row).n < (ev a row).n) = false ∧ ((ev a row).n == (ev b row).n) = false) ∨ (decide ((ev a row).n < (ev b row).n) = false ∧ decide ((ev b row).n < (ev a row).n) = true ∧ ((ev a row).n == (ev b row).n) = false) ∨ (decide ((ev a row).n < (ev b row).n) = false ∧ decide ((ev b row).n < (ev a row).n) = false ∧ ((ev a row).n == (ev b row).n) = true) := by
        rcases Int.lt_trichotomy (ev a row).n (ev b row).n with hlt | heq | hgt
        · exact .inl ⟨decide_eq_true hlt, decide_eq_false (by omega), beq_eq_false_iff_ne.2 (by omega)⟩
        · exact .inr (.inr ⟨decide_eq_false (by omega), decide_eq_false (by omega), beq_iff_eq.2 heq⟩)
        · exact .inr (.inl ⟨decide_eq_false (by omega), decide_eq_true hgt, beq_eq_false_iff_ne.2 (by omega)⟩)
      generalize decide ((ev a row).n < (ev b row).n) = x1 at t1 h3
      generalize decide ((ev b row).n < (ev a row).n) = x2 at t2 h3
      generalize ((ev a row).n == (ev b row).n) = x3 at t3 h3
      rcases hk6 with rfl | rfl <;> rcases h3 with ⟨rfl, rfl, rfl⟩ | ⟨rfl, rfl, rfl⟩ | ⟨rfl, rfl, rfl⟩
      all_goals
        refine does0 c_laws_FnLessThan mixed (Nat.le_of_ble_eq_true rfl) ?_
        conv => arg 3; whnf
        repeat' (first | with_reducible refine acc_none ?_ | (conv in hold _ => simp (disch := omega) only [go_sem, bytesD, beq_self_eq_true, bne_self_eq_false, hn0]) | refine Stp.go ?_ | (with_reducible first | refine it_pos rfl ?_ | refine it_neg (by decide) ?_ | refine st_nil rfl ?_ | refine s_op ?_ ?_ | exact True.intro) | ((with_reducible first | refine dw_reg0 ?_ | refine dw_regB ?_); (conv => arg 3; whnf)) | (refine Spl.go (fun hq he => ?_) (fun hq he => ?_) <;> first | (exfalso; clear hq; omega) | ((try (first | (conv => arg 8; simp only [hq]) | (conv => arg 4; simp only [hq]))); clear hq)) | ((with_reducible first | refine c_split (fun hq => ?_) (fun hq => ?_) | refine q_split (fun hq => ?_) (fun hq => ?_)) <;> (try (first | (conv => arg 8; simp only [hq]) | (conv => arg 4; simp only [hq])))) | (with_reducible refine fin_0 ?_ (by first | rfl | (conv => lhs; simp only [go_sem, bytesD, beq_self_eq_true, bne_self_eq_false, hn0])) ?_) | exact Sub.refl _ | omega)
        refine c_doesE (hdr) ?_ ?_ ?_
        · ((try (conv => rhs; simp (disch := omega) only [go_sem, bytesD, beq_self_eq_true, bne_self_eq_false])); try rfl)
        · first | rfl | (conv => lhs; simp only [go_sem, bytesD, beq_self_eq_true, bne_self_eq_false])
        repeat' (first | with_reducible refine acc_none ?_ | (conv in hold _ => simp (disch := omega) only [go_sem, bytesD, beq_self_eq_true, bne_self_eq_false]) | refine Stp.go ?_ | (with_reducible first | refine it_pos rfl ?_ | refine it_neg (by decide) ?_ | refine st_nil rfl ?_ | refine s_op ?_ ?_ | exact True.intro) | ((with_reducible first | refine dw_reg0 ?_ | refine dw_regB ?_); (conv => arg 3; whnf)) | (refine Spl.go (fun hq he => ?_) (fun hq he => ?_) <;> first | (exfalso; clear hq; omega) | ((try (first | (conv => arg 8; simp only [hq]) | (conv => arg 4; simp only [hq]))); clear hq)) | ((with_reducible first | refine c_split (fun hq => ?_) (fun hq => ?_) | refine q_split (fun hq => ?_) (fun hq => ?_)) <;> (try (first | (conv => arg 8; simp only [hq]) | (conv => arg 4; simp only [hq])))) | (with_reducible refine fin_0 ?_ (by first | rfl | (conv => lhs; simp only [go_sem, bytesD, beq_self_eq_true, bne_self_eq_false])) ?_) | exact Sub.refl _ | omega)
        refine c_doesE (h1) ?_ ?_ ?_
        · ((try (conv => rhs; simp (disch := omega) only [go_sem, bytesD, beq_self_eq_true, bne_self_eq_false])); try rfl)
        · first | rfl | (conv => lhs; simp only [go_sem, bytesD, beq_self_eq_true, bne_self_eq_false])
        repeat' (first | with_reducible refine acc_none ?_ | (conv in hold _ => simp (disch := omega) only [go_sem, bytesD, beq_self_eq_true, bne_self_eq_false]) | refine Stp.go ?_ | (with_reducible first | refine it_pos rfl ?_ | refine it_neg (by decide) ?_ | refine st_nil rfl ?_ | refine s_op ?_ ?_ | exact True.intro) | ((with_reducible first | refine dw_reg0 ?_ | refine dw_regB ?_); (conv => arg 3; whnf)) | (refine Spl.go (fun hq he => ?_) (fun hq he => ?_) <;> first | (exfalso; clear hq; omega) | ((try (first | (conv => arg 8; simp only [hq]) | (conv => arg 4; simp only [hq]))); clear hq)) | ((with_reducible first | refine c_split (fun hq => ?_) (fun hq => ?_) | refine q_split (fun hq => ?_) (fun hq => ?_)) <;> (try (first | (conv => arg 8; simp only [hq]) | (conv => arg 4; simp only [hq])))) | (with_reducible refine fin_0 ?_ (by first | rfl | (conv => lhs; simp only [go_sem, bytesD, beq_self_eq_true, bne_self_eq_false])) ?_) | exact Sub.refl _ | omega)
        refine c_doesE (h2) ?_ ?_ ?_
        · ((try (conv => rhs; simp (disch := omega) only [go_sem, bytesD, beq_self_eq_true, bne_self_eq_false, hn0])); try rfl)
        · first | rfl | (conv => lhs; simp only [go_sem, bytesD, beq_self_eq_true, bne_self_eq_false, hn0])
        repeat' (first | with_reducible refine acc_none ?_ | (conv in hold _ => simp (disch := omega) only [go_sem, bytesD, beq_self_eq_true, bne_self_eq_false, hn0]) | refine Stp.go ?_ | (with_reducible first | refine it_pos rfl ?_ | refine it_neg (by decide) ?_ | refine st_nil rfl ?_ | refine s_op ?_ ?_ | exact True.intro) | ((with_reducible first | refine dw_reg0 ?_ | refine dw_regB ?_); (conv => arg 3; whnf)) | (refine Spl.go (fun hq he => ?_) (fun hq he => ?_) <;> first | (exfalso; clear hq; omega) | ((try (first | (conv => arg 8; simp only [hq]) | (conv => arg 4; simp only [hq]))); clear hq)) | ((with_reducible first | refine c_split (fun hq => ?_) (fun hq => ?_) | refine q_split (fun hq => ?_) (fun hq => ?_)) <;> (try (first | (conv => arg 8; simp only [hq]) | (conv => arg 4; simp only [hq])))) | (with_reducible refine fin_0 ?_ (by first | rfl | (conv => lhs; simp only [go_sem, bytesD, beq_self_eq_true, bne_self_eq_false, hn0])) ?_) | exact Sub.refl _ | omega)
        refine c_doesE (q1) ?_ ?_ ?_
        · ((try (conv => rhs; simp (disch := omega) only [go_sem, bytesD, beq_self_eq_true, bne_self_eq_false])); try rfl)
        · first | rfl | (conv => lhs; simp only [go_sem, bytesD, beq_self_eq_true, bne_self_eq_false])
        repeat' (first | with_reducible refine acc_none ?_ | (conv in hold _ => simp (disch := omega) only [go_sem, bytesD, beq_self_eq_true, bne_self_eq_false]) | refine Stp.go ?_ | (with_reducible first | refine it_pos rfl ?_ | refine it_neg (by decide) ?_ | refine st_nil rfl ?_ | refine s_op ?_ ?_ | exact True.intro) | ((with_reducible first | refine dw_reg0 ?_ | refine dw_regB ?_); (conv => arg 3; whnf)) | (refine Spl.go (fun hq he => ?_) (fun hq he => ?_) <;> first | (exfalso; clear hq; omega) | ((try (first | (conv => arg 8; simp only [hq]) | (conv => arg 4; simp only [hq]))); clear hq)) | ((with_reducible first | refine c_split (fun hq => ?_) (fun hq => ?_) | refine q_split (fun hq => ?_) (fun hq => ?_)) <;> (try (first | (conv => arg 8; simp only [hq]) | (conv => arg 4; simp only [hq])))) | (with_reducible refine fin_0 ?_ (by first | rfl | (conv => lhs; simp only [go_sem, bytesD, beq_self_eq_true, bne_self_eq_false])) ?_) | exact Sub.refl _ | omega)
        refine c_doesE (t1) ?_ ?_ ?_
        · ((try (conv => rhs; simp (disch := omega) only [go_sem, bytesD, beq_self_eq_true, bne_self_eq_false])); try rfl)
        · first | rfl | (conv => lhs; simp only [go_sem, bytesD, beq_self_eq_true, bne_self_eq_false])
        repeat' (first | with_reducible refine acc_none ?_ | (conv in hold _ => simp (disch := omega) only [go_sem, bytesD, beq_self_eq_true, bne_self_eq_false]) | refine Stp.go ?_ | (with_reducible first | refine it_pos rfl ?_ | refine it_neg (by decide) ?_ | refine st_nil rfl ?_ | refine s_op ?_ ?_ | exact True.intro) | ((with_reducible first | refine dw_reg0 ?_ | refine dw_regB ?_); (conv => arg 3; whnf)) | (refine Spl.go (fun hq he => ?_) (fun hq he => ?_) <;> first | (exfalso; clear hq; omega) | ((try (first | (conv => arg 8; simp only [hq]) | (conv => arg 4; simp only [hq]))); clear hq)) | ((with_reducible first | refine c_split (fun hq => ?_) (fun hq => ?_) | refine q_split (fun hq => ?_) (fun hq => ?_)) <;> (try (first | (conv => arg 8; simp only [hq]) | (conv => arg 4; simp only [hq])))) | (with_reducible refine fin_0 ?_ (by first | rfl | (conv => lhs; simp only [go_sem, bytesD, beq_self_eq_true, bne_self_eq_false])) ?_) | exact Sub.refl _ | omega)
        refine c_doesE (q2) ?_ ?_ ?_
        · ((try (conv => rhs; simp (disch := omega) only [go_sem, bytesD, beq_self_eq_true, bne_self_eq_false])); try rfl)
        · first | rfl | (conv => lhs; simp only [go_sem, bytesD, beq_self_eq_true, bne_self_eq_false])
        repeat' (first | with_reducible refine acc_none ?_ | (conv in hold _ => simp (disch := omega) only [go_sem, bytesD, beq_self_eq_true, bne_self_eq_false]) | refine Stp.go ?_ | (with_reducible first | refine it_pos rfl ?_ | refine it_neg (by decide) ?_ | refine st_nil rfl ?_ | refine s_op ?_ ?_ | exact True.intro) | ((with_reducible first | refine dw_reg0 ?_ | refine dw_regB ?_); (conv => arg 3; whnf)) | (refine Spl.go (fun hq he => ?_) (fun hq he => ?_) <;> first | (exfalso; clear hq; omega) | ((try (first | (conv => arg 8; simp only [hq]) | (conv => arg 4; simp only [hq]))); clear hq)) | ((with_reducible first | refine c_split (fun hq => ?_) (fun hq => ?_) | refine q_split (fun hq => ?_) (fun hq => ?_)) <;> (try (first | (conv => arg 8; simp only [hq]) | (conv => arg 4; simp only [hq])))) | (with_reducible refine fin_0 ?_ (by first | rfl | (conv => lhs; simp only [go_sem, bytesD, beq_self_eq_true, bne_self_eq_false])) ?_) | exact Sub.refl _ | omega)
        refine c_doesE (t2) ?_ ?_ ?_
        · ((try (conv => rhs; simp (disch := omega) only [go_sem, bytesD, beq_self_eq_true, bne_self_eq_false])); try rfl)
        · first | rfl | (conv => lhs; simp only [go_sem, bytesD, beq_self_eq_true, bne_self_eq_false])
        repeat' (first | with_reducible refine acc_none ?_ | (conv in hold _ => simp (disch := omega) only [go_sem, bytesD, beq_self_eq_true, bne_self_eq_false]) | refine Stp.go ?_ | (with_reducible first | refine it_pos rfl ?_ | refine it_neg (by decide) ?_ | refine st_nil rfl ?_ | refine s_op ?_ ?_ | exact True.intro) | ((with_reducible first | refine dw_reg0 ?_ | refine dw_regB ?_); (conv => arg 3; whnf)) | (refine Spl.go (fun hq he => ?_) (fun hq he => ?_) <;> first | (exfalso; clear hq; omega) | ((try (first | (conv => arg 8; simp only [hq]) | (conv => arg 4; simp only [hq]))); clear hq)) | ((with_reducible first | refine c_split (fun hq => ?_) (fun hq => ?_) | refine q_split (fun hq => ?_) (fun hq => ?_)) <;> (try (first | (conv => arg 8; simp only [hq]) | (conv => arg 4; simp only [hq])))) | (with_reducible refine fin_0 ?_ (by first | rfl | (conv => lhs; simp only [go_sem, bytesD, beq_self_eq_true, bne_self_eq_false])) ?_) | exact Sub.refl _ | omega)
        refine c_doesE (q3) ?_ ?_ ?_
        · ((try (conv => rhs; simp (disch := omega) only [go_sem, bytesD, beq_self_eq_true, bne_self_eq_false])); try rfl)
        · first | rfl | (conv => lhs; simp only [go_sem, bytesD, beq_self_eq_true, bne_self_eq_false])
        repeat' (first | with_reducible refine acc_none ?_ | (conv in hold _ => simp (disch := omega) only [go_sem, bytesD, beq_self_eq_true, bne_self_eq_false]) | refine Stp.go ?_ | (with_reducible first | refine it_pos rfl ?_ | refine it_neg (by decide) ?_ | refine st_nil rfl ?_ | refine s_op ?_ ?_ | exact True.intro) | ((with_reducible first | refine dw_reg0 ?_ | refine dw_regB ?_); (conv => arg 3; whnf)) | (refine Spl.go (fun hq he => ?_) (fun hq he => ?_) <;> first | (exfalso; clear hq; omega) | ((try (first | (conv => arg 8; simp only [hq]) | (conv => arg 4; simp only [hq]))); clear hq)) | ((with_reducible first | refine c_split (fun hq => ?_) (fun hq => ?_) | refine q_split (fun hq => ?_) (fun hq => ?_)) <;> (try (first | (conv => arg 8; simp only [hq]) | (conv => arg 4; simp only [hq])))) | (with_reducible refine fin_0 ?_ (by first | rfl | (conv => lhs; simp only [go_sem, bytesD, beq_self_eq_true, bne_self_eq_false])) ?_) | exact Sub.refl _ | omega)
        refine c_doesE (t3) ?_ ?_ ?_
        · ((try (conv => rhs; simp (disch := omega) only [go_sem, bytesD, beq_self_eq_true, bne_self_eq_false])); try rfl)
        · first | rfl | (conv => lhs; simp only [go_sem, bytesD, beq_self_eq_true, bne_self_eq_false])
        repeat' (first | with_reducible refine acc_none ?_ | (conv in hold _ => simp (disch := omega) only [go_sem, bytesD, beq_self_eq_true, bne_self_eq_false]) | refine Stp.go ?_ | (with_reducible first | refine it_pos rfl ?_ | refine it_neg (by decide) ?_ | refine st_nil rfl ?_ | refine s_op ?_ ?_ | exact True.intro) | ((with_reducible first | refine dw_reg0 ?_ | refine dw_regB ?_); (conv => arg 3; whnf)) | (refine Spl.go (fun hq he => ?_) (fun hq he => ?_) <;> first | (exfalso; clear hq; omega) | ((try (first | (conv => arg 8; simp only [hq]) | (conv => arg 4; simp only [hq]))); clear hq)) | ((with_reducible first | refine c_split (fun hq => ?_) (fun hq => ?_) | refine q_split (fun hq => ?_) (fun hq => ?_)) <;> (try (first | (conv => arg 8; simp only [hq]) | (conv => arg 4; simp only [hq])))) | (with_reducible refine fin_0 ?_ (by first | rfl | (conv => lhs; simp only [go_sem, bytesD, beq_self_eq_true, bne_self_eq_false])) ?_) | exact Sub.refl _ | omega)
    · refine does0 c_laws_FnLessThan mixed (Nat.le_of_ble_eq_true rfl) ?_
      conv => arg 3; whnf
      repeat' (first | with_reducible refine acc_none ?_ | (conv in hold _ => simp (disch := omega) only [go_sem, bytesD, beq_self_eq_true, bne_self_eq_false]) | refine Stp.go ?_ | (with_reducible first | refine it_pos rfl ?_ | refine it_neg (by decide) ?_ | refine st_nil rfl ?_ | refine s_op ?_ ?_ | exact True.intro) | ((with_reducible first | refine dw_reg0 ?_ | refine dw_regB ?_); (conv => arg 3; whnf)) | (refine Spl.go (fun hq he => ?_) (fun hq he => ?_) <;> first | (exfalso; clear hq; omega) | ((try (first | (conv => arg 8; simp only [hq]) | (conv => arg 4; simp only [hq]))); clear hq)) | ((with_reducible first | refine c_split (fun hq => ?_) (fun hq => ?_) | refine q_split (fun hq => ?_) (fun hq => ?_)) <;> (try (first | (conv => arg 8; simp only [hq]) | (conv => arg 4; simp only [hq])))) | (with_reducible refine fin_0 ?_ (by first | rfl | (conv => lhs; simp only [go_sem, bytesD, beq_self_eq_true, bne_self_eq_false])) ?_) | exact Sub.refl _ | omega)
      refine c_doesE (hdr) ?_ ?_ ?_
      · ((try (conv => rhs; simp (disch := omega) only [go_sem, bytesD, beq_self_eq_true, bne_self_eq_false])); try rfl)
      · first | rfl | (conv => lhs; simp only [go_sem, bytesD, beq_self_eq_true, bne_self_eq_false])
      repeat' (first | with_reducible refine acc_none ?_ | (conv in hold _ => simp (disch := omega) only [go_sem, bytesD, beq_self_eq_true, bne_self_eq_false]) | refine Stp.go ?_ | (with_reducible first | refine it_pos rfl ?_ | refine it_neg (by decide) ?_ | refine st_nil rfl ?_ | refine s_op ?_ ?_ | exact True.intro) | ((with_reducible first | refine dw_reg0 ?_ | refine dw_regB ?_); (conv => arg 3; whnf)) | (refine Spl.go (fun hq he => ?_) (fun hq he => ?_) <;> first | (exfalso; clear hq; omega) | ((try (first | (conv => arg 8; simp only [hq]) | (conv => arg 4; simp only [hq]))); clear hq)) | ((with_reducible first | refine c_split (fun hq => ?_) (fun hq => ?_) | refine q_split (fun hq => ?_) (fun hq => ?_)) <;> (try (first | (conv => arg 8; simp only [hq]) | (conv => arg 4; simp only [hq])))) | (with_reducible refine fin_0 ?_ (by first | rfl | (conv => lhs; simp only [go_sem, bytesD, beq_self_eq_true, bne_self_eq_false])) ?_) | exact Sub.refl _ | omega)
      refine c_doesE (h1) ?_ ?_ ?_
      · ((try (conv => rhs; simp (disch := omega) only [go_sem, bytesD, beq_self_eq_true, bne_self_eq_false])); try rfl)
      · first | rfl | (conv => lhs; simp only [go_sem, bytesD, beq_self_eq_true, bne_self_eq_false])
      repeat' (first | with_reducible refine acc_none ?_ | (conv in hold _ => simp (disch := omega) only [go_sem, bytesD, beq_self_eq_true, bne_self_eq_false]) | refine Stp.go ?_ | (with_reducible first | refine it_pos rfl ?_ | refine it_neg (by decide) ?_ | refine st_nil rfl ?_ | refine s_op ?_ ?_ | exact True.intro) | ((with_reducible first | refine dw_reg0 ?_ | refine dw_regB ?_); (conv => arg 3; whnf)) | (refine Spl.go (fun hq he => ?_) (fun hq he => ?_) <;> first | (exfalso; clear hq; omega) | ((try (first | (conv => arg 8; simp only [hq]) | (conv => arg 4; simp only [hq]))); clear hq)) | ((with_reducible first | refine c_split (fun hq => ?_) (fun hq => ?_) | refine q_split (fun hq => ?_) (fun hq => ?_)) <;> (try (first | (conv => arg 8; simp only [hq]) | (conv => arg 4; simp only [hq])))) | (with_reducible refine fin_0 ?_ (by first | rfl | (conv => lhs; simp only [go_sem, bytesD, beq_self_eq_true, bne_self_eq_false])) ?_) | exact Sub.refl _ | omega)
      refine c_doesE (h2) ?_ ?_ ?_
      · ((try (conv => rhs; simp (disch := omega) only [go_sem, bytesD, beq_self_eq_true, bne_self_eq_false])); try rfl)
      · first | rfl | (conv => lhs; simp only [go_sem, bytesD, beq_self_eq_true, bne_self_eq_false])
      repeat' (first | with_reducible refine acc_none ?_ | (conv in hold _ => simp (disch := omega) only [go_sem, bytesD, beq_self_eq_true, bne_self_eq_false]) | refine Stp.go ?_ | (with_reducible first | refine it_pos rfl ?_ | refine it_neg (by decide) ?_ | refine st_nil rfl ?_ | refine s_op ?_ ?_ | exact True.intro) | ((with_reducible first | refine dw_reg0 ?_ | refine dw_regB ?_); (conv => arg 3; whnf)) | (refine Spl.go (fun hq he => ?_) (fun hq he => ?_) <;> first | (exfalso; clear hq; omega) | ((try (first | (conv => arg 8; simp only [hq]) | (conv => arg 4; simp only [hq]))); clear hq)) | ((with_reducible first | refine c_split (fun hq => ?_) (fun hq => ?_) | refine q_split (fun hq => ?_) (fun hq => ?_)) <;> (try (first | (conv => arg 8; simp only [hq]) | (conv => arg 4; simp only [hq])))) | (with_reducible refine fin_0 ?_ (by first | rfl | (conv => lhs; simp only [go_sem, bytesD, beq_self_eq_true, bne_self_eq_false])) ?_) | exact Sub.refl _ | omega)
      all_goals (exfalso; exact hk ⟨by omega, by assumption⟩)
  · have h1 := impl_f (by omega) hv
    have h2 := spec_f (by omega) hv
    refine does0 c_laws_FnLessThan mixed (Nat.le_of_ble_eq_true rfl) ?_
    conv => arg 3; whnf
    repeat' (first | with_reducible refine acc_none ?_ | (conv in hold _ => simp (disch := omega) only [go_sem, bytesD, beq_self_eq_true, bne_self_eq_false]) | refine Stp.go ?_ | (with_reducible first | refine it_pos rfl ?_ | refine it_neg (by decide) ?_ | refine st_nil rfl ?_ | refine s_op ?_ ?_ | exact True.intro) | ((with_reducible first | refine dw_reg0 ?_ | refine dw_regB ?_); (conv => arg 3; whnf)) | (refine Spl.go (fun hq he => ?_) (fun hq he => ?_) <;> first | (exfalso; clear hq; omega) | ((try (first | (conv => arg 8; simp only [hq]) | (conv => arg 4; simp only [hq]))); clear hq)) | ((with_reducible first | refine c_split (fun hq => ?_) (fun hq => ?_) | refine q_split (fun hq => ?_) (fun hq => ?_)) <;> (try (first | (conv => arg 8; simp only [hq]) | (conv => arg 4; simp only [hq])))) | (with_reducible refine fin_0 ?_ (by first | rfl | (conv => lhs; simp only [go_sem, bytesD, beq_self_eq_true, bne_self_eq_false])) ?_) | exact Sub.refl _ | omega)
    refine c_doesE (hdr) ?_ ?_ ?_
    · ((try (conv => rhs; simp (disch := omega) only [go_sem, bytesD, beq_self_eq_true, bne_self_eq_false])); try rfl)
    · first | rfl | (conv => lhs; simp only [go_sem, bytesD, beq_self_eq_true, bne_self_eq_false])
    repeat' (first | with_reducible refine acc_none ?_ | (conv in hold _ => simp (disch := omega) only [go_sem, bytesD, beq_self_eq_true, bne_self_eq_false]) | refine Stp.go ?_ | (with_reducible first | refine it_pos rfl ?_ | refine it_neg (by decide) ?_ | refine st_nil rfl ?_ | refine s_op ?_ ?_ | exact True.intro) | ((with_reducible first | refine dw_reg0 ?_ | refine dw_regB ?_); (conv => arg 3; whnf)) | (refine Spl.go (fun hq he => ?_) (fun hq he => ?_) <;> first | (exfalso; clear hq; omega) | ((try (first | (conv => arg 8; simp only [hq]) | (conv => arg 4; simp only [hq]))); clear hq)) | ((with_reducible first | refine c_split (fun hq => ?_) (fun hq => ?_) | refine q_split (fun hq => ?_) (fun hq => ?_)) <;> (try (first | (conv => arg 8; simp only [hq]) | (conv => arg 4; simp only [hq])))) | (with_reducible refine fin_0 ?_ (by first | rfl | (conv => lhs; simp only [go_sem, bytesD, beq_self_eq_true, bne_self_eq_false])) ?_) | exact Sub.refl _ | omega)
    refine c_doesE (h1) ?_ ?_ ?_
    · ((try (conv => rhs; simp (disch := omega) only [go_sem, bytesD, beq_self_eq_true, bne_self_eq_false])); try rfl)
    · first | rfl | (conv => lhs; simp only [go_sem, bytesD, beq_self_eq_true, bne_self_eq_false])
    repeat' (first | with_reducible refine acc_none ?_ | (conv in hold _ => simp (disch := omega) only [go_sem, bytesD, beq_self_eq_true, bne_self_eq_false]) | refine Stp.go ?_ | (with_reducible first | refine it_pos rfl ?_ | refine it_neg (by decide) ?_ | refine st_nil rfl ?_ | refine s_op ?_ ?_ | exact True.intro) | ((with_reducible first | refine dw_reg0 ?_ | refine dw_regB ?_); (conv => arg 3; whnf)) | (refine Spl.go (fun hq he => ?_) (fun hq he => ?_) <;> first | (exfalso; clear hq; omega) | ((try (first | (conv => arg 8; simp only [hq]) | (conv => arg 4; simp only [hq]))); clear hq)) | ((with_reducible first | refine c_split (fun hq => ?_) (fun hq => ?_) | refine q_split (fun hq => ?_) (fun hq => ?_)) <;> (try (first | (conv => arg 8; simp only [hq]) | (conv => arg 4; simp only [hq])))) | (with_reducible refine fin_0 ?_ (by first | rfl | (conv => lhs; simp only [go_sem, bytesD, beq_self_eq_true, bne_self_eq_false])) ?_) | exact Sub.refl _ | omega)
    refine c_doesE (h2) ?_ ?_ ?_
    · ((try (conv => rhs; simp (disch := omega) only [go_sem, bytesD, beq_self_eq_true, bne_self_eq_false])); try rfl)
    · first | rfl | (conv => lhs; simp only [go_sem, bytesD, beq_self_eq_true, bne_self_eq_false])
    repeat' (first | with_reducible refine acc_none ?_ | (conv in hold _ => simp (disch := omega) only [go_sem, bytesD, beq_self_eq_true, bne_self_eq_false]) | refine Stp.go ?_ | (with_reducible first | refine it_pos rfl ?_ | refine it_neg (by decide) ?_ | refine st_nil rfl ?_ | refine s_op ?_ ?_ | exact True.intro) | ((with_reducible first | refine dw_reg0 ?_ | refine dw_regB ?_); (conv => arg 3; whnf)) | (refine Spl.go (fun hq he => ?_) (fun hq he => ?_) <;> first | (exfalso; clear hq; omega) | ((try (first | (conv => arg 8; simp only [hq]) | (conv => arg 4; simp only [hq]))); clear hq)) | ((with_reducible first | refine c_split (fun hq => ?_) (fun hq => ?_) | refine q_split (fun hq => ?_) (fun hq => ?_)) <;> (try (first | (conv => arg 8; simp only [hq]) | (conv => arg 4; simp only [hq])))) | (with_reducible refine fin_0 ?_ (by first | rfl | (conv => lhs; simp only [go_sem, bytesD, beq_self_eq_true, bne_self_eq_false])) ?_) | exact Sub.refl _ | omega)
theorem walk_FnLessThan (a : Option Addr) (len cap : Nat) (zs : List Int) (w : World) (h : IsRow .u8 w a len cap zs) :
    Calls Try.prog 8 #[.slice a len cap] w fun e W' => e = .returned (.bool true) ∧ Below w.heap.size w W' := walk_of does_FnLessThan a len cap zs w h
end Go.Proofs.Ytpcebjlkckgplaa
