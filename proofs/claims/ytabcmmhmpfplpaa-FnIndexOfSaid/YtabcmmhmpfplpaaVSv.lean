/-
  Values sorted and found by the library. No condition.
-/
import Derived.Test.YtabcmmhmpfplpaaDca
import Derived.Test.YtabcmmhmpfplpaaDcc
import Derived.Test.YtabcmmhmpfplpaaVIns
import Derived.Test.YtabcmmhmpfplpaaVLen
import Derived.Test.YtabcmmhmpfplpaaVCntM
set_option maxHeartbeats 4000000
set_option maxRecDepth 100000
set_option linter.unusedVariables false
set_option linter.unusedSimpArgs false
namespace Go.Proofs.Ytabcmmhmpfplpaa
open Go.RowKit

theorem pdq_val {f : FuncId} (hf : enters Try.prog f = true) {c : V → V → Int} {R : V → V → Prop} (l0 sorted : List V) (hn : l0.length ≤ 12) (hO : InsOK c R l0) (hc : ∀ x y, x ∈ l0 → y ∈ l0 → Does Try.prog f [] [vD x, vD y] (I (c x y)) []) (hu : ∀ l : List V, l.Perm l0 → l.Pairwise R → l = sorted) (k : Int) :
    Does Try.prog 78 [.row 2 (l0.map vD)] [.own 1000000 2 l0.length, I 0, I l0.length, I k, .fn f []] (.tup []) [.row 2 (sorted.map vD)] := by
  have h := insSort_val hf l0 sorted (by omega) hO hc hu
  refine does c_slices_pdqsortCmpFunc_loop_example_queryoptimizer_impl_Value_ mixed (Nat.le_of_ble_eq_true rfl) 1 rfl ?_
  conv => arg 3; whnf
  repeat' (first | with_reducible refine acc_none ?_ | (conv in hold _ => simp (disch := omega) only [go_sem]) | refine Stp.go ?_ | (with_reducible first | refine it_pos rfl ?_ | refine it_neg (by decide) ?_ | refine st_nil rfl ?_ | refine s_op ?_ ?_ | exact True.intro) | ((with_reducible first | refine dw_reg0 ?_ | refine dw_regB ?_); (conv => arg 3; whnf)) | (refine Spl.go (fun hq he => ?_) (fun hq he => ?_) <;> first | (exfalso; clear hq; omega) | ((try (first | (conv => arg 8; simp only [hq]) | (conv => arg 4; simp only [hq]))); clear hq)) | ((with_reducible first | refine c_split (fun hq => ?_) (fun hq => ?_) | refine q_split (fun hq => ?_) (fun hq => ?_)) <;> (try (first | (conv => arg 8; simp only [hq]) | (conv => arg 4; simp only [hq])))) | (with_reducible refine fin_0 ?_ (by first | rfl | (conv => lhs; simp only [go_sem])) ?_) | exact Sub.refl _ | omega)
  refine dw_for (c := 1) (l := fun i => [(0, .own 1000000 2 l0.length), (1, I 0), (2, I l0.length), (3, I k), (4, .fn f []), (1000000, .row 2 (l0.map vD))]) 0 (fun _ => True) 0 trivial (Wk.list [1000000] rfl rfl ?_) (fun i hi _ => ?_) (Nat.zero_le _)
  · repeat' (first | (conv in hold _ => simp (disch := omega) only [go_sem]) | exact True.intro | exact Sub.refl _ | omega)
  · repeat' (first | with_reducible refine acc_none ?_ | (conv in hold _ => simp (disch := omega) only [go_sem]) | refine Stp.go ?_ | (with_reducible first | refine it_pos rfl ?_ | refine it_neg (by decide) ?_ | refine st_nil rfl ?_ | refine s_op ?_ ?_ | exact True.intro) | ((with_reducible first | refine dw_reg0 ?_ | refine dw_regB ?_); (conv => arg 3; whnf)) | (refine Spl.go (fun hq he => ?_) (fun hq he => ?_) <;> first | (exfalso; clear hq; omega) | ((try (first | (conv => arg 8; simp only [hq]) | (conv => arg 4; simp only [hq]))); clear hq)) | ((with_reducible first | refine c_split (fun hq => ?_) (fun hq => ?_) | refine q_split (fun hq => ?_) (fun hq => ?_)) <;> (try (first | (conv => arg 8; simp only [hq]) | (conv => arg 4; simp only [hq])))) | (with_reducible refine fin_0 ?_ (by first | rfl | (conv => lhs; simp only [go_sem])) ?_) | exact Sub.refl _ | omega)
    refine c_doesR [1000000] (h) (callOK_of rfl (Nat.le_of_ble_eq_true rfl) rfl ?_ ?_) ?_ ?_
    · repeat' (first | (conv in hold _ => simp (disch := omega) only [go_sem]) | exact True.intro | exact Sub.refl _ | omega)
    · repeat' (first | (conv in hold _ => simp (disch := omega) only [go_sem]) | exact True.intro | exact Sub.refl _ | omega)
    · ((conv => rhs; simp (disch := omega) only [go_sem]); try rfl)
    repeat' (first | with_reducible refine acc_none ?_ | (conv in hold _ => simp (disch := omega) only [go_sem]) | refine Stp.go ?_ | (with_reducible first | refine it_pos rfl ?_ | refine it_neg (by decide) ?_ | refine st_nil rfl ?_ | refine s_op ?_ ?_ | exact True.intro) | ((with_reducible first | refine dw_reg0 ?_ | refine dw_regB ?_); (conv => arg 3; whnf)) | (refine Spl.go (fun hq he => ?_) (fun hq he => ?_) <;> first | (exfalso; clear hq; omega) | ((try (first | (conv => arg 8; simp only [hq]) | (conv => arg 4; simp only [hq]))); clear hq)) | ((with_reducible first | refine c_split (fun hq => ?_) (fun hq => ?_) | refine q_split (fun hq => ?_) (fun hq => ?_)) <;> (try (first | (conv => arg 8; simp only [hq]) | (conv => arg 4; simp only [hq])))) | (with_reducible refine fin_0 ?_ (by first | rfl | (conv => lhs; simp only [go_sem])) ?_) | exact Sub.refl _ | omega)
    refine fin_L [1000000] ?_ ?_ rfl ?_
    repeat' (first | (conv in hold _ => simp (disch := omega) only [go_sem]) | exact True.intro | exact Sub.refl _ | omega)
theorem sort_val {f : FuncId} (hf : enters Try.prog f = true) {c : V → V → Int} {R : V → V → Prop} (l0 sorted : List V) (hn : l0.length ≤ 12) (hO : InsOK c R l0) (hc : ∀ x y, x ∈ l0 → y ∈ l0 → Does Try.prog f [] [vD x, vD y] (I (c x y)) []) (hu : ∀ l : List V, l.Perm l0 → l.Pairwise R → l = sorted) :
    Does Try.prog 58 [.row 2 (l0.map vD)] [.own 1000000 2 l0.length, .fn f []] (.tup []) [.row 2 (sorted.map vD)] := by
  have hw : IntKind.u64.wrap (l0.length : Int) = (l0.length : Int) := by
    simp [IntKind.wrap, IntKind.bits, IntKind.signed]
    omega
  have h1 := len_ok l0.length (by omega)
  have h2 := pdq_val hf l0 sorted hn hO hc hu (Lib.bitLen l0.length)
  refine does c_slices_SortFunc___loop_example_queryoptimizer_impl_Value_loop_example_queryoptimizer_impl_Value_ mixed (Nat.le_of_ble_eq_true rfl) 1 rfl ?_
  conv => arg 3; whnf
  repeat' (first | with_reducible refine acc_none ?_ | (conv in hold _ => simp (disch := omega) only [go_sem, hw]) | refine Stp.go ?_ | (with_reducible first | refine it_pos rfl ?_ | refine it_neg (by decide) ?_ | refine st_nil rfl ?_ | refine s_op ?_ ?_ | exact True.intro) | ((with_reducible first | refine dw_reg0 ?_ | refine dw_regB ?_); (conv => arg 3; whnf)) | (refine Spl.go (fun hq he => ?_) (fun hq he => ?_) <;> first | (exfalso; clear hq; omega) | ((try (first | (conv => arg 8; simp only [hq]) | (conv => arg 4; simp only [hq]))); clear hq)) | ((with_reducible first | refine c_split (fun hq => ?_) (fun hq => ?_) | refine q_split (fun hq => ?_) (fun hq => ?_)) <;> (try (first | (conv => arg 8; simp only [hq]) | (conv => arg 4; simp only [hq])))) | (with_reducible refine fin_0 ?_ (by first | rfl | (conv => lhs; simp only [go_sem, hw])) ?_) | exact Sub.refl _ | omega)
  refine c_doesE (h1) ?_ ?_ ?_
  · ((try (conv => rhs; simp (disch := omega) only [go_sem, hw])); try rfl)
  · first | rfl | (conv => lhs; simp only [go_sem, hw])
  repeat' (first | with_reducible refine acc_none ?_ | (conv in hold _ => simp (disch := omega) only [go_sem, hw]) | refine Stp.go ?_ | (with_reducible first | refine it_pos rfl ?_ | refine it_neg (by decide) ?_ | refine st_nil rfl ?_ | refine s_op ?_ ?_ | exact True.intro) | ((with_reducible first | refine dw_reg0 ?_ | refine dw_regB ?_); (conv => arg 3; whnf)) | (refine Spl.go (fun hq he => ?_) (fun hq he => ?_) <;> first | (exfalso; clear hq; omega) | ((try (first | (conv => arg 8; simp only [hq]) | (conv => arg 4; simp only [hq]))); clear hq)) | ((with_reducible first | refine c_split (fun hq => ?_) (fun hq => ?_) | refine q_split (fun hq => ?_) (fun hq => ?_)) <;> (try (first | (conv => arg 8; simp only [hq]) | (conv => arg 4; simp only [hq])))) | (with_reducible refine fin_0 ?_ (by first | rfl | (conv => lhs; simp only [go_sem, hw])) ?_) | exact Sub.refl _ | omega)
  refine c_doesR [1000000] (h2) (callOK_of rfl (Nat.le_of_ble_eq_true rfl) rfl ?_ ?_) ?_ ?_
  · repeat' (first | (conv in hold _ => simp (disch := omega) only [go_sem]) | exact True.intro | exact Sub.refl _ | omega)
  · repeat' (first | (conv in hold _ => simp (disch := omega) only [go_sem]) | exact True.intro | exact Sub.refl _ | omega)
  · ((conv => rhs; simp (disch := omega) only [go_sem]); try rfl)
  repeat' (first | with_reducible refine acc_none ?_ | (conv in hold _ => simp (disch := omega) only [go_sem]) | refine Stp.go ?_ | (with_reducible first | refine it_pos rfl ?_ | refine it_neg (by decide) ?_ | refine st_nil rfl ?_ | refine s_op ?_ ?_ | exact True.intro) | ((with_reducible first | refine dw_reg0 ?_ | refine dw_regB ?_); (conv => arg 3; whnf)) | (refine Spl.go (fun hq he => ?_) (fun hq he => ?_) <;> first | (exfalso; clear hq; omega) | ((try (first | (conv => arg 8; simp only [hq]) | (conv => arg 4; simp only [hq]))); clear hq)) | ((with_reducible first | refine c_split (fun hq => ?_) (fun hq => ?_) | refine q_split (fun hq => ?_) (fun hq => ?_)) <;> (try (first | (conv => arg 8; simp only [hq]) | (conv => arg 4; simp only [hq])))) | (with_reducible refine fin_0 ?_ (by first | rfl | (conv => lhs; simp only [go_sem])) ?_) | exact Sub.refl _ | omega)
  refine fin_L [1000000] ?_ ?_ rfl ?_
  repeat' (first | (conv in hold _ => simp (disch := omega) only [go_sem]) | exact True.intro | exact Sub.refl _ | omega)
theorem cmpV_tr {a b c : V} (ha : a.ok) (hb : b.ok) (hc : c.ok) (h1 : cmpV a b ≤ 0) (h2 : cmpV b c ≤ 0) : cmpV a c ≤ 0 := by
  have k1 := cmpV_key ha hb
  have k2 := cmpV_key hb hc
  have k3 := cmpV_key ha hc
  omega
/-- Values in order: the list that the library's sort leaves. -/
theorem sort_vals (l0 : List V) (hn : l0.length ≤ 12) (hok : ∀ v, v ∈ l0 → v.ok) : ∃ s : List V, s.Perm l0 ∧ s.Pairwise (fun a b => cmpV a b ≤ 0) ∧
    Does Try.prog 58 [.row 2 (l0.map vD)] [.own 1000000 2 l0.length, .fn 49 []] (.tup []) [.row 2 (s.map vD)] := by
  have hle : ∀ a b c : V, (decide (keyV a ≤ keyV b)) = true → (decide (keyV b ≤ keyV c)) = true → (decide (keyV a ≤ keyV c)) = true := fun a b c h1 h2 => by
    simp only [decide_eq_true_eq] at *
    omega
  have htot : ∀ a b : V, (decide (keyV a ≤ keyV b) || decide (keyV b ≤ keyV a)) = true := fun a b => by
    simp only [Bool.or_eq_true, decide_eq_true_eq]
    omega
  have hp := List.mergeSort_perm l0 (fun a b => decide (keyV a ≤ keyV b))
  have hs := List.pairwise_mergeSort hle htot l0
  generalize l0.mergeSort (fun a b => decide (keyV a ≤ keyV b)) = s at hp hs
  have hsm : ∀ v, v ∈ s → v.ok := fun v hv => hok v (hp.mem_iff.1 hv)
  have hpw : s.Pairwise (fun a b => cmpV a b ≤ 0) := List.Pairwise.imp_of_mem (fun {a b} ha hb h => by
    have := of_decide_eq_true h
    have := cmpV_key (hsm a ha) (hsm b hb)
    omega) hs
  refine ⟨s, hp, hpw, sort_val (by kernel_rfl) (c := cmpV) (R := fun a b => cmpV a b ≤ 0) l0 s hn ⟨fun i j x y _ hx hy h => by omega, fun i j x y _ hx hy h => ?_, fun x y z hx hy hz h1 h2 => cmpV_tr (hok x hx) (hok y hy) (hok z hz) h1 h2⟩ (fun x y hx hy => Value_compare_ok x y (hok x hx) (hok y hy)) (fun l hl hlp => ?_)⟩
  · have := cmpV_anti (hok x (List.mem_of_getElem? hx)) (hok y (List.mem_of_getElem? hy))
    omega
  · refine List.Perm.eq_of_pairwise (le := fun a b => cmpV a b ≤ 0) ?_ hlp hpw (hl.trans hp.symm)
    intro a b ha hb h1 h2
    have := cmpV_anti (hok a (hl.mem_iff.1 ha)) (hsm b hb)
    exact cmpV_eq (by omega)
end Go.Proofs.Ytabcmmhmpfplpaa
