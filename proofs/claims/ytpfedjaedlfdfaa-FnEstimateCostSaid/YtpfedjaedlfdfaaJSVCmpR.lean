/-
  The fields of plans, in both packages. No condition.
-/
import Derived.Test.YtpfedjaedlfdfaaJSVSzV
import Derived.Test.YtpfedjaedlfdfaaKSDca
import Derived.Test.YtpfedjaedlfdfaaJSVPl
import Derived.Test.YtpfedjaedlfdfaaKSVEvI
import Derived.Test.YtpfedjaedlfdfaaJSVEvS
import Derived.Test.YtpfedjaedlfdfaaKSVVal
import Derived.Test.YtpfedjaedlfdfaaJSVCall
import Derived.Test.YtpfedjaedlfdfaaKSVTbW
set_option maxHeartbeats 4000000
set_option maxRecDepth 100000
namespace Go.Proofs.Ytpfedjaedlfdfaa
open Go.RowKit
/-- A plan has the fields of its kind, and no others. -/
def fields (p : Pl) : Prop := (1 ≤ p.k ∧ p.k ≤ 8) ∧ (p.k = 1 → p.ks.length = 0) ∧ (p.k = 4 ∨ p.k = 5 ∨ p.k = 6 → p.ks.length = 2) ∧ (p.k = 2 ∨ p.k = 3 ∨ p.k = 7 ∨ p.k = 8 → p.ks.length = 1) ∧
  (p.k = 2 ∨ p.k = 4 ∨ p.k = 5 → p.es.length = 1) ∧ (p.k = 1 ∨ p.k = 6 ∨ p.k = 7 ∨ p.k = 8 → p.es.length = 0) ∧ (p.t = 0 ∨ p.k = 1) ∧ (p.cs.length = 0 ∨ p.k = 8)
noncomputable instance fieldsDec (p : Pl) : Decidable (fields p) := Classical.propDecidable _
theorem onlyFields_ok (p : Pl) : Does Try.prog 80 [] [pD p] (Bo (decide (fields p))) [] := by
  have hr := inRange_ok p.k 1 8
  by_cases hk : 1 ≤ p.k ∧ p.k ≤ 8
  · rw [decide_eq_true hk] at hr
    refine does0 c_spec_onlyFields mixed (Nat.le_of_ble_eq_true rfl) ?_
    conv => arg 3; whnf
    repeat' (first|with_reducible refine acc_none ?_ | (conv in hold _=>simp (disch:=omega) only [go_sem])|refine Stp.go ?_|(with_reducible first|refine it_pos rfl ?_|refine it_neg (by decide) ?_|refine st_nil rfl ?_|refine s_op ?_ ?_|exact trivial)|((with_reducible first|refine dw_reg0 ?_|refine dw_regB ?_);(conv=>arg 3;whnf))|(refine Spl.go (fun hq he=>?_) (fun hq he=>?_)<;>first|(exfalso;clear hq;omega)|((try first|(conv=>arg 8;simp only [hq])|(conv=>arg 4;simp only [hq]));clear hq))|((with_reducible first|refine c_split (fun hq=>?_) (fun hq=>?_)|refine q_split (fun hq=>?_) (fun hq=>?_))<;>(try first|(conv=>arg 8;simp only [hq])|(conv=>arg 4;simp only [hq])))|(with_reducible refine fin_0 ?_ (by first|rfl|(conv=>lhs;simp only [go_sem])) ?_)|exact Sub.refl _|omega)
    all_goals
      refine c_doesE (hr) ?_ ?_ ?_
      · ((try (conv=>rhs;simp (disch:=omega) only [go_sem])); try rfl)
      · first|rfl|(conv=>lhs;simp only [go_sem])
      repeat' (first|with_reducible refine acc_none ?_ | (conv in hold _=>simp (disch:=omega) only [go_sem])|refine Stp.go ?_|(with_reducible first|refine it_pos rfl ?_|refine it_neg (by decide) ?_|refine st_nil rfl ?_|refine s_op ?_ ?_|exact trivial)|((with_reducible first|refine dw_reg0 ?_|refine dw_regB ?_);(conv=>arg 3;whnf))|(refine Spl.go (fun hq he=>?_) (fun hq he=>?_)<;>first|(exfalso;clear hq;omega)|((try first|(conv=>arg 8;simp only [hq])|(conv=>arg 4;simp only [hq]));clear hq))|((with_reducible first|refine c_split (fun hq=>?_) (fun hq=>?_)|refine q_split (fun hq=>?_) (fun hq=>?_))<;>(try first|(conv=>arg 8;simp only [hq])|(conv=>arg 4;simp only [hq])))|(with_reducible refine fin_0 ?_ (by first|rfl|(conv=>lhs;simp only [go_sem])) ?_)|exact Sub.refl _|omega)
    all_goals first
      | exact sub_f (fun h => by unfold fields at h; omega)
      | exact sub_iff ⟨fun _ => by unfold fields; omega, fun _ => rfl⟩
      | exact sub_iff ⟨fun h' => by unfold fields; simp at h'; omega, fun h' => by unfold fields at h'; simp; omega⟩
  · rw [decide_eq_false hk] at hr
    refine does0 c_spec_onlyFields mixed (Nat.le_of_ble_eq_true rfl) ?_
    conv => arg 3; whnf
    repeat' (first
      | with_reducible refine acc_none ?_ | (conv in hold _=>simp (disch:=omega) only [go_sem])|refine Stp.go ?_|(with_reducible first|refine it_pos rfl ?_|refine it_neg (by decide) ?_|refine st_nil rfl ?_|refine s_op ?_ ?_|exact trivial)|((with_reducible first|refine dw_reg0 ?_|refine dw_regB ?_);(conv=>arg 3;whnf))|(refine Spl.go (fun hq he=>?_) (fun hq he=>?_)<;>first|(exfalso;clear hq;omega)|((try first|(conv=>arg 8;simp only [hq])|(conv=>arg 4;simp only [hq]));clear hq))|((with_reducible first|refine c_split (fun hq=>?_) (fun hq=>?_)|refine q_split (fun hq=>?_) (fun hq=>?_))<;>(try first|(conv=>arg 8;simp only [hq])|(conv=>arg 4;simp only [hq])))|(with_reducible refine fin_0 ?_ (by first|rfl|(conv=>lhs;simp only [go_sem])) ?_)
      | (with_reducible show evC _ _ _ _ _ _ _ _ _ _ _ _
         first
         | (refine c_doesE (hr) ?_ ?_ ?_
            · ((try (conv=>rhs;simp (disch:=omega) only [go_sem])); try rfl)
            · first|rfl|(conv=>lhs;simp only [go_sem])))|exact Sub.refl _|omega)
    exact sub_f (fun h => hk h.1)
/-- What the program asks besides. -/
def fieldsI (p : Pl) : Prop := fields p ∧ (p.k = 3 → 1 ≤ p.es.length ∧ p.es.length ≤ 6)
noncomputable instance fieldsIDec (p : Pl) : Decidable (fieldsI p) := Classical.propDecidable _
theorem shapeOf_ok (k : Int) (h : 1 ≤ k ∧ k ≤ 8) : Does Try.prog 84 [] [I k] (.tup [.agg [I (if k = 2 ∨ k = 3 ∨ k = 4 ∨ k = 5 then 1 else 0), I (if k = 3 then 6 else if k = 2 ∨ k = 4 ∨ k = 5 then 1 else 0), I (if k = 1 then 0 else if k = 4 ∨ k = 5 ∨ k = 6 then 2 else 1)], Bo true]) [] := by
  refine does0 c_impl_shapeOf mixed (Nat.le_of_ble_eq_true rfl) ?_
  conv => arg 3; whnf
  repeat' (first|with_reducible refine acc_none ?_ | (conv in hold _=>simp (disch:=omega) only [go_sem])|refine Stp.go ?_|(with_reducible first|refine it_pos rfl ?_|refine it_neg (by decide) ?_|refine st_nil rfl ?_|refine s_op ?_ ?_|exact trivial)|((with_reducible first|refine dw_reg0 ?_|refine dw_regB ?_);(conv=>arg 3;whnf))|(refine Spl.go (fun hq he=>?_) (fun hq he=>?_)<;>first|(exfalso;clear hq;omega)|((try first|(conv=>arg 8;simp only [hq])|(conv=>arg 4;simp only [hq]));clear hq))|((with_reducible first|refine c_split (fun hq=>?_) (fun hq=>?_)|refine q_split (fun hq=>?_) (fun hq=>?_))<;>(try first|(conv=>arg 8;simp only [hq])|(conv=>arg 4;simp only [hq])))|(with_reducible refine fin_0 ?_ (by first|rfl|(conv=>lhs;simp only [go_sem])) ?_)|exact Sub.refl _|omega)
  all_goals exact Sub.of_eq (by subst he; rfl)
theorem shapeOf_no (k : Int) (h : ¬ (1 ≤ k ∧ k ≤ 8)) : Does Try.prog 84 [] [I k] (.tup [.agg [I 0, I 0, I 0], Bo false]) [] := by
  refine does0 c_impl_shapeOf mixed (Nat.le_of_ble_eq_true rfl) ?_
  conv => arg 3; whnf
  repeat' (first|with_reducible refine acc_none ?_ | (conv in hold _=>simp (disch:=omega) only [go_sem])|refine Stp.go ?_|(with_reducible first|refine it_pos rfl ?_|refine it_neg (by decide) ?_|refine st_nil rfl ?_|refine s_op ?_ ?_|exact trivial)|((with_reducible first|refine dw_reg0 ?_|refine dw_regB ?_);(conv=>arg 3;whnf))|(refine Spl.go (fun hq he=>?_) (fun hq he=>?_)<;>first|(exfalso;clear hq;omega)|((try first|(conv=>arg 8;simp only [hq])|(conv=>arg 4;simp only [hq]));clear hq))|((with_reducible first|refine c_split (fun hq=>?_) (fun hq=>?_)|refine q_split (fun hq=>?_) (fun hq=>?_))<;>(try first|(conv=>arg 8;simp only [hq])|(conv=>arg 4;simp only [hq])))|(with_reducible refine fin_0 ?_ (by first|rfl|(conv=>lhs;simp only [go_sem])) ?_)|exact Sub.refl _|omega)
theorem hasOwnFields_ok (p : Pl) : Does Try.prog 56 [] [pD p] (Bo (decide (fieldsI p))) [] := by
  by_cases hk : 1 ≤ p.k ∧ p.k ≤ 8
  · have hs := shapeOf_ok p.k hk
    refine does0 c_impl_hasOwnFields mixed (Nat.le_of_ble_eq_true rfl) ?_
    conv => arg 3; whnf
    repeat' (first
      | with_reducible refine acc_none ?_ | (conv in hold _=>simp (disch:=omega) only [go_sem])|refine Stp.go ?_|(with_reducible first|refine it_pos rfl ?_|refine it_neg (by decide) ?_|refine st_nil rfl ?_|refine s_op ?_ ?_|exact trivial)|((with_reducible first|refine dw_reg0 ?_|refine dw_regB ?_);(conv=>arg 3;whnf))|(refine Spl.go (fun hq he=>?_) (fun hq he=>?_)<;>first|(exfalso;clear hq;omega)|((try first|(conv=>arg 8;simp only [hq])|(conv=>arg 4;simp only [hq]));clear hq))|((with_reducible first|refine c_split (fun hq=>?_) (fun hq=>?_)|refine q_split (fun hq=>?_) (fun hq=>?_))<;>(try first|(conv=>arg 8;simp only [hq])|(conv=>arg 4;simp only [hq])))|(with_reducible refine fin_0 ?_ (by first|rfl|(conv=>lhs;simp only [go_sem])) ?_)
      | (with_reducible show evC _ _ _ _ _ _ _ _ _ _ _ _
         first
         | (refine c_doesE (hs) ?_ ?_ ?_
            · ((try (conv=>rhs;simp (disch:=omega) only [go_sem])); try rfl)
            · first|rfl|(conv=>lhs;simp only [go_sem])))|exact Sub.refl _|omega)
    all_goals first
      | exact sub_f (fun h => by unfold fieldsI fields at h; omega)
      | exact sub_iff ⟨fun _ => by unfold fieldsI fields; omega, fun _ => rfl⟩
      | exact sub_iff ⟨fun h' => by unfold fieldsI fields; simp at h'; omega, fun h' => by unfold fieldsI fields at h'; simp; omega⟩
      | (by_cases h0 : p.cs.length = 0
         · exact Sub.of_eq (by rw [h0, decide_eq_true (show fieldsI p by unfold fieldsI fields; omega)]; rfl)
         · exact Sub.of_eq (by rw [decide_eq_false (fun h : fieldsI p => by unfold fieldsI fields at h; omega), beq_eq_false_iff_ne.2 (by omega)]))
  · have hs := shapeOf_no p.k hk
    refine does0 c_impl_hasOwnFields mixed (Nat.le_of_ble_eq_true rfl) ?_
    conv => arg 3; whnf
    repeat' (first
      | with_reducible refine acc_none ?_ | (conv in hold _=>simp (disch:=omega) only [go_sem])|refine Stp.go ?_|(with_reducible first|refine it_pos rfl ?_|refine it_neg (by decide) ?_|refine st_nil rfl ?_|refine s_op ?_ ?_|exact trivial)|((with_reducible first|refine dw_reg0 ?_|refine dw_regB ?_);(conv=>arg 3;whnf))|(refine Spl.go (fun hq he=>?_) (fun hq he=>?_)<;>first|(exfalso;clear hq;omega)|((try first|(conv=>arg 8;simp only [hq])|(conv=>arg 4;simp only [hq]));clear hq))|((with_reducible first|refine c_split (fun hq=>?_) (fun hq=>?_)|refine q_split (fun hq=>?_) (fun hq=>?_))<;>(try first|(conv=>arg 8;simp only [hq])|(conv=>arg 4;simp only [hq])))|(with_reducible refine fin_0 ?_ (by first|rfl|(conv=>lhs;simp only [go_sem])) ?_)
      | (with_reducible show evC _ _ _ _ _ _ _ _ _ _ _ _
         first
         | (refine c_doesE (hs) ?_ ?_ ?_
            · ((try (conv=>rhs;simp (disch:=omega) only [go_sem])); try rfl)
            · first|rfl|(conv=>lhs;simp only [go_sem])))|exact Sub.refl _|omega)
    exact sub_f (fun h => hk h.1.1)
end Go.Proofs.Ytpfedjaedlfdfaa
set_option maxHeartbeats 4000000
set_option maxRecDepth 100000
set_option linter.unusedVariables false
set_option linter.unusedSimpArgs false
namespace Go.Proofs.Ytpfedjaedlfdfaa
open Go.RowKit
/-- The program's truths: 0, 1 for unknown, 2. -/
def itr (v : V) : Int := if v.b = true then 1 else if v.n = 0 then 0 else 2
theorem truth_of_ok (v : V) : Does Try.prog 161 [] [vD v] (I (itr v)) [] := by
  unfold itr
  refine does0 c_impl_Value_truth mixed (Nat.le_of_ble_eq_true rfl) ?_
  conv => arg 3; whnf
  repeat' (first|with_reducible refine acc_none ?_ | (conv in hold _=>simp (disch:=omega) only [go_sem])|refine Stp.go ?_|(with_reducible first|refine it_pos rfl ?_|refine it_neg (by decide) ?_|refine st_nil rfl ?_|refine s_op ?_ ?_|exact trivial)|((with_reducible first|refine dw_reg0 ?_|refine dw_regB ?_);(conv=>arg 3;whnf))|(refine Spl.go (fun hq he=>?_) (fun hq he=>?_)<;>first|(exfalso;clear hq;omega)|((try first|(conv=>arg 8;simp only [hq])|(conv=>arg 4;simp only [hq]));clear hq))|((with_reducible first|refine c_split (fun hq=>?_) (fun hq=>?_)|refine q_split (fun hq=>?_) (fun hq=>?_))<;>(try first|(conv=>arg 8;simp only [hq])|(conv=>arg 4;simp only [hq])))|(with_reducible refine fin_0 ?_ (by first|rfl|(conv=>lhs;simp only [go_sem])) ?_)|exact Sub.refl _|omega)
  · rw [if_pos hq]; exact Sub.refl _
  · rw [if_neg (by rw [hq]; decide), if_pos he]; exact Sub.refl _
  · rw [if_neg (by rw [hq]; decide), if_neg he]; exact Sub.refl _
end Go.Proofs.Ytpfedjaedlfdfaa
set_option maxHeartbeats 4000000
set_option maxRecDepth 100000
set_option linter.unusedVariables false
set_option linter.unusedSimpArgs false
namespace Go.Proofs.Ytpfedjaedlfdfaa
open Go.RowKit
def keyV (v : V) : Int := if v.b = true then -10000 else v.n
theorem cmpV_key {a b : V} (ha : a.ok) (hb : b.ok) : (cmpV a b = 0 ∧ keyV a = keyV b) ∨ (cmpV a b = -1 ∧ keyV a < keyV b) ∨ (cmpV a b = 1 ∧ keyV b < keyV a) := by
  have h1 := ha.nul
  have h2 := hb.nul
  have h3 := ha.lo
  have h4 := hb.lo
  unfold cmpV keyV
  cases hab : a.b <;> cases hbb : b.b <;> simp [hab, hbb] at h1 h2 ⊢
  all_goals (repeat' split) <;> omega
theorem cmpR_trans : ∀ (a b c : List V), a.length = b.length → b.length = c.length → (∀ v, v ∈ a → v.ok) → (∀ v, v ∈ b → v.ok) → (∀ v, v ∈ c → v.ok) → cmpR a b ≤ 0 → (cmpR b c ≤ 0 → cmpR a c ≤ 0) ∧ (cmpR b c < 0 → cmpR a c < 0)
  | [], [], [], _, _, _, _, _, _ => ⟨fun h => h, fun h => h⟩
  | [], [], _ :: _, _, h, _, _, _, _ => by simp at h
  | [], _ :: _, _, h, _, _, _, _, _ => by simp at h
  | _ :: _, [], _, h, _, _, _, _, _ => by simp at h
  | _ :: _, _ :: _, [], _, h, _, _, _, _ => by simp at h
  | x :: a, y :: b, z :: c, h, h', ha, hb, hc, hab => by
    have hx := ha x (List.mem_cons_self ..)
    have hy := hb y (List.mem_cons_self ..)
    have hz := hc z (List.mem_cons_self ..)
    have ih := cmpR_trans a b c (by simpa using h) (by simpa using h') (fun v hv => ha v (List.mem_cons_of_mem _ hv)) (fun v hv => hb v (List.mem_cons_of_mem _ hv)) (fun v hv => hc v (List.mem_cons_of_mem _ hv))
    have k1 := cmpV_key hx hy
    have k2 := cmpV_key hy hz
    have k3 := cmpV_key hx hz
    rw [cmpR] at hab
    rw [cmpR, cmpR]
    by_cases e1 : cmpV x y = 0
    · rw [if_pos e1] at hab
      have ih := ih hab
      by_cases e2 : cmpV y z = 0
      · rw [if_pos e2, if_pos (show cmpV x z = 0 by omega)]
        exact ih
      · rw [if_neg e2, if_neg (show ¬ cmpV x z = 0 by omega)]
        constructor <;> intro h <;> omega
    · rw [if_neg e1] at hab
      by_cases e2 : cmpV y z = 0
      · rw [if_pos e2, if_neg (show ¬ cmpV x z = 0 by omega)]
        constructor <;> intro h <;> omega
      · rw [if_neg e2]
        by_cases e3 : cmpV x z = 0
        · rw [if_pos e3]
          constructor <;> intro h <;> omega
        · rw [if_neg e3]
          constructor <;> intro h <;> omega
theorem cmpV_eq {a b : V} (h : cmpV a b = 0) : a = b := by
  unfold cmpV at h
  split at h
  · rename_i h1
    cases a; cases b
    simp at h1
    obtain ⟨rfl, rfl⟩ := h1
    rfl
  · split at h <;> omega
theorem cmpR_eq : ∀ {a b : List V}, cmpR a b = 0 → a = b
  | [], [], _ => rfl
  | [], _ :: l, h => by change ((0 : Nat) : Int) - ((l.length + 1 : Nat) : Int) = 0 at h; omega
  | _ :: l, [], h => by change ((l.length + 1 : Nat) : Int) - ((0 : Nat) : Int) = 0 at h; omega
  | x :: a, y :: b, h => by
    rw [cmpR] at h
    by_cases e : cmpV x y = 0
    · rw [if_pos e] at h
      rw [cmpV_eq e, cmpR_eq h]
    · rw [if_neg e] at h
      exact (e h).elim
/-- Halving. -/
def stepB (p : Nat → Bool) (s : Nat × Nat) : Nat × Nat := if s.1 < s.2 then (if p ((s.1 + s.2) / 2) then (s.1, (s.1 + s.2) / 2) else ((s.1 + s.2) / 2 + 1, s.2)) else s
def itB (p : Nat → Bool) (n : Nat) : Nat → Nat × Nat
  | 0 => (0, n)
  | i + 1 => stepB p (itB p n i)
theorem itB_end {p : Nat → Bool} {n i : Nat} (h : ¬ (itB p n i).1 < (itB p n i).2) : ∀ d, itB p n (i + d) = itB p n i
  | 0 => rfl
  | d + 1 => by
    rw [← Nat.add_assoc, itB, itB_end h d]
    unfold stepB
    rw [if_neg h]
theorem itB_inv {p : Nat → Bool} {n : Nat} (hp : ∀ i j, i ≤ j → j < n → p i = true → p j = true) : ∀ i, ((itB p n i).1 ≤ (itB p n i).2 ∧ (itB p n i).2 ≤ n ∧ (itB p n i).2 - (itB p n i).1 + i ≤ max n i) ∧ (∀ j, j < (itB p n i).1 → p j = false) ∧ (∀ j, (itB p n i).2 ≤ j → j < n → p j = true)
  | 0 => ⟨⟨Nat.zero_le _, Nat.le_refl _, by show n - 0 + 0 ≤ max n 0; omega⟩, fun j hj => absurd hj (Nat.not_lt_zero j), fun j (h1 : n ≤ j) h2 => by omega⟩
  | i + 1 => by
    obtain ⟨⟨h1, h2, h3⟩, h4, h5⟩ := itB_inv hp i
    rw [itB]
    generalize itB p n i = s at h1 h2 h3 h4 h5
    obtain ⟨lo, hi⟩ := s
    simp only at h1 h2 h3 h4 h5
    unfold stepB
    by_cases hlt : lo < hi
    · simp only [hlt, if_true]
      cases hm : p ((lo + hi) / 2) with
      | true =>
        simp only [if_true]
        refine ⟨⟨by omega, by omega, by omega⟩, h4, fun j hj hjn => ?_⟩
        exact hp _ j hj hjn hm
      | false =>
        simp only [Bool.false_eq_true, if_false]
        refine ⟨⟨by omega, by omega, by omega⟩, fun j hj => ?_, h5⟩
        cases hj' : p j with
        | false => rfl
        | true => rw [hp j ((lo + hi) / 2) (by omega) (by omega) hj'] at hm; cases hm
    · simp only [hlt, if_false]
      exact ⟨⟨h1, h2, by omega⟩, h4, h5⟩
end Go.Proofs.Ytpfedjaedlfdfaa
