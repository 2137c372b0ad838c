/-
  Values sorted and found by the library. No condition.
-/
import Derived.Test.YtjjcokmnebkbiaaDca
import Derived.Test.YtjjcokmnebkbiaaDcb
import Derived.Test.YtjjcokmnebkbiaaVIns
import Derived.Test.YtjjcokmnebkbiaaVLen
import Derived.Test.YtjjcokmnebkbiaaJVTbI
import Derived.Test.YtjjcokmnebkbiaaVDraw
import Derived.Test.YtjjcokmnebkbiaaVLib
import Derived.Test.YtjjcokmnebkbiaaVSort
import Derived.Test.YtjjcokmnebkbiaaVLays
set_option maxHeartbeats 4000000
set_option maxRecDepth 100000
set_option linter.unusedVariables false
set_option linter.unusedSimpArgs false
namespace Go.Proofs.Ytjjcokmnebkbiaa
open Go.RowKit

theorem pdq_val {f : FuncId} (hf : enters Try.prog f = true) {c : V → V → Int} {R : V → V → Prop} (l0 sorted : List V) (hn : l0.length ≤ 12) (hO : InsOK c R l0) (hc : ∀ x y, x ∈ l0 → y ∈ l0 → Does Try.prog f [] [vD x, vD y] (I (c x y)) []) (hu : ∀ l : List V, l.Perm l0 → l.Pairwise R → l = sorted) (k : Int) :
    Does Try.prog 52 [.row 2 (l0.map vD)] [.own 1000000 2 l0.length, I 0, I l0.length, I k, .fn f []] (.tup []) [.row 2 (sorted.map vD)] := by
  have h := insSort_val hf l0 sorted (by omega) hO hc hu
  refine does c_slices_pdqsortCmpFunc_loop_example_queryoptimizer_impl_Value_ mixed (Nat.le_of_ble_eq_true rfl) 1 rfl ?_
  conv => arg 3; whnf
  repeat' (first | with_reducible refine acc_none ?_ | (conv in hold _ => simp (disch := omega) only [go_sem]) | refine Stp.go ?_ | (with_reducible first | refine it_pos rfl ?_ | refine it_neg (by decide) ?_ | refine st_nil rfl ?_ | refine s_op ?_ ?_ | exact True.intro) | ((with_reducible first | refine dw_reg0 ?_ | refine dw_regB ?_); (conv => arg 3; whnf)) | (refine Spl.go (fun hq he => ?_) (fun hq he => ?_) <;> first | (exfalso; clear hq; omega) | ((try (first | (conv => arg 8; simp only [hq]) | (conv => arg 4; simp only [hq]))); clear hq)) | ((with_reducible first | refine c_split (fun hq => ?_) (fun hq => ?_) | refine q_split (fun hq => ?_) (fun hq => ?_)) <;> (try (first | (conv => arg 8; simp only [hq]) | (conv => arg 4; simp only [hq])))) | (with_reducible refine fin_0 ?_ (by first | rfl | (conv => lhs; simp only [go_sem])) ?_) | exact Sub.refl _ | omega)
  refine dw_for (c := 1) (l := fun i => [(0, .own 1000000 2 l0.length), (1, I 0), (2, I l0.length), (3, I k), (4, .fn f []), (1000000, .row 2 (l0.map vD))]) 0 (fun _ => True) 0 trivial (Wk.list [1000000] rfl rfl ?_) (fun i hi _ => ?_) (Nat.zero_le _)
  · repeat' (first | (conv in hold _ => simp (disch := omega) only [go_sem]) | exact True.intro | exact Sub.refl _ | omega)
  · repeat' (first | with_reducible refine acc_none ?_ | (conv in hold _ => simp (disch := omega) only [go_sem]) | refine Stp.go ?_ | (with_reducible first | refine it_pos rfl ?_ | refine it_neg (by decide) ?_ | refine st_nil rfl ?_ | refine s_op ?_ ?_ | exact True.intro) | ((with_reducible first | refine dw_reg0 ?_ | refine dw_regB ?_); (conv => arg 3; whnf)) | (refine Spl.go (fun hq he => ?_) (fun hq he => ?_) <;> first | (exfalso; clear hq; omega) | ((try (first | (conv => arg 8; simp only [hq]) | (conv => arg 4; simp only [hq]))); clear hq)) | ((with_reducible first | refine c_split (fun hq => ?_) (fun hq => ?_) | refine q_split (fun hq => ?_) (fun hq => ?_)) <;> (try (first | (conv => arg 8; simp only [hq]) | (conv => arg 4; simp only [hq])))) | (with_reducible refine fin_0 ?_ (by first | rfl | (conv => lhs; simp only [go_sem])) ?_) | exact Sub.refl _ | omega)
    refine c_doesR [1000000] (h) (callOK_of rfl (Nat.le_of_ble_eq_true rfl) rfl ?_ ?_) ?_ ?_
    · repeat' (first | (conv in hold _ => simp (disch := omega) only [go_sem]) | exact True.intro | exact Sub.refl _ | omega)
    · repeat' (first | (conv in hold _ => simp (disch := omega) only [go_sem]) | exact True.intro | exact Sub.refl _ | omega)
    · ((conv => rhs; simp (disch := omega) only [go_sem]); try rfl)
    repeat' (first | with_reducible refine acc_none ?_ | (conv in hold _ => simp (disch := omega) only [go_sem]) | refine Stp.go ?_ | (with_reducible first | refine it_pos rfl ?_ | refine it_neg (by decide) ?_ | refine st_nil rfl ?_ | refine s_op ?_ ?_ | exact True.intro) | ((with_reducible first | refine dw_reg0 ?_ | refine dw_regB ?_); (conv => arg 3; whnf)) | (refine Spl.go (fun hq he => ?_) (fun hq he => ?_) <;> first | (exfalso; clear hq; omega) | ((try (first | (conv => arg 8; simp only [hq]) | (conv => arg 4; simp only [hq]))); clear hq)) | ((with_reducible first | refine c_split (fun hq => ?_) (fun hq => ?_) | refine q_split (fun hq => ?_) (fun hq => ?_)) <;> (try (first | (conv => arg 8; simp only [hq]) | (conv => arg 4; simp only [hq])))) | (with_reducible refine fin_0 ?_ (by first | rfl | (conv => lhs; simp only [go_sem])) ?_) | exact Sub.refl _ | omega)
    refine fin_L [1000000] ?_ ?_ rfl ?_
    repeat' (first | (conv in hold _ => simp (disch := omega) only [go_sem]) | exact True.intro | exact Sub.refl _ | omega)
theorem sort_val {f : FuncId} (hf : enters Try.prog f = true) {c : V → V → Int} {R : V → V → Prop} (l0 sorted : List V) (hn : l0.length ≤ 12) (hO : InsOK c R l0) (hc : ∀ x y, x ∈ l0 → y ∈ l0 → Does Try.prog f [] [vD x, vD y] (I (c x y)) []) (hu : ∀ l : List V, l.Perm l0 → l.Pairwise R → l = sorted) :
    Does Try.prog 36 [.row 2 (l0.map vD)] [.own 1000000 2 l0.length, .fn f []] (.tup []) [.row 2 (sorted.map vD)] := by
  have hw : IntKind.u64.wrap (l0.length : Int) = (l0.length : Int) := by
    simp [IntKind.wrap, IntKind.bits, IntKind.signed]
    omega
  have h1 := len_ok l0.length (by omega)
  have h2 := pdq_val hf l0 sorted hn hO hc hu (Lib.bitLen l0.length)
  refine does c_slices_SortFunc___loop_example_queryoptimizer_impl_Value_loop_example_queryoptimizer_impl_Value_ mixed (Nat.le_of_ble_eq_true rfl) 1 rfl ?_
  conv => arg 3; whnf
  repeat' (first | with_reducible refine acc_none ?_ | (conv in hold _ => simp (disch := omega) only [go_sem, hw]) | refine Stp.go ?_ | (with_reducible first | refine it_pos rfl ?_ | refine it_neg (by decide) ?_ | refine st_nil rfl ?_ | refine s_op ?_ ?_ | exact True.intro) | ((with_reducible first | refine dw_reg0 ?_ | refine dw_regB ?_); (conv => arg 3; whnf)) | (refine Spl.go (fun hq he => ?_) (fun hq he => ?_) <;> first | (exfalso; clear hq; omega) | ((try (first | (conv => arg 8; simp only [hq]) | (conv => arg 4; simp only [hq]))); clear hq)) | ((with_reducible first | refine c_split (fun hq => ?_) (fun hq => ?_) | refine q_split (fun hq => ?_) (fun hq => ?_)) <;> (try (first | (conv => arg 8; simp only [hq]) | (conv => arg 4; simp only [hq])))) | (with_reducible refine fin_0 ?_ (by first | rfl | (conv => lhs; simp only [go_sem, hw])) ?_) | exact Sub.refl _ | omega)
  refine c_doesE (h1) ?_ ?_ ?_
  · ((try (conv => rhs; simp (disch := omega) only [go_sem, hw])); try rfl)
  · first | rfl | (conv => lhs; simp only [go_sem, hw])
  repeat' (first | with_reducible refine acc_none ?_ | (conv in hold _ => simp (disch := omega) only [go_sem, hw]) | refine Stp.go ?_ | (with_reducible first | refine it_pos rfl ?_ | refine it_neg (by decide) ?_ | refine st_nil rfl ?_ | refine s_op ?_ ?_ | exact True.intro) | ((with_reducible first | refine dw_reg0 ?_ | refine dw_regB ?_); (conv => arg 3; whnf)) | (refine Spl.go (fun hq he => ?_) (fun hq he => ?_) <;> first | (exfalso; clear hq; omega) | ((try (first | (conv => arg 8; simp only [hq]) | (conv => arg 4; simp only [hq]))); clear hq)) | ((with_reducible first | refine c_split (fun hq => ?_) (fun hq => ?_) | refine q_split (fun hq => ?_) (fun hq => ?_)) <;> (try (first | (conv => arg 8; simp only [hq]) | (conv => arg 4; simp only [hq])))) | (with_reducible refine fin_0 ?_ (by first | rfl | (conv => lhs; simp only [go_sem, hw])) ?_) | exact Sub.refl _ | omega)
  refine c_doesR [1000000] (h2) (callOK_of rfl (Nat.le_of_ble_eq_true rfl) rfl ?_ ?_) ?_ ?_
  · repeat' (first | (conv in hold _ => simp (disch := omega) only [go_sem]) | exact True.intro | exact Sub.refl _ | omega)
  · repeat' (first | (conv in hold _ => simp (disch := omega) only [go_sem]) | exact True.intro | exact Sub.refl _ | omega)
  · ((conv => rhs; simp (disch := omega) only [go_sem]); try rfl)
  repeat' (first | with_reducible refine acc_none ?_ | (conv in hold _ => simp (disch := omega) only [go_sem]) | refine Stp.go ?_ | (with_reducible first | refine it_pos rfl ?_ | refine it_neg (by decide) ?_ | refine st_nil rfl ?_ | refine s_op ?_ ?_ | exact True.intro) | ((with_reducible first | refine dw_reg0 ?_ | refine dw_regB ?_); (conv => arg 3; whnf)) | (refine Spl.go (fun hq he => ?_) (fun hq he => ?_) <;> first | (exfalso; clear hq; omega) | ((try (first | (conv => arg 8; simp only [hq]) | (conv => arg 4; simp only [hq]))); clear hq)) | ((with_reducible first | refine c_split (fun hq => ?_) (fun hq => ?_) | refine q_split (fun hq => ?_) (fun hq => ?_)) <;> (try (first | (conv => arg 8; simp only [hq]) | (conv => arg 4; simp only [hq])))) | (with_reducible refine fin_0 ?_ (by first | rfl | (conv => lhs; simp only [go_sem])) ?_) | exact Sub.refl _ | omega)
  refine fin_L [1000000] ?_ ?_ rfl ?_
  repeat' (first | (conv in hold _ => simp (disch := omega) only [go_sem]) | exact True.intro | exact Sub.refl _ | omega)
theorem cmpV_tr {a b c : V} (ha : a.ok) (hb : b.ok) (hc : c.ok) (h1 : cmpV a b ≤ 0) (h2 : cmpV b c ≤ 0) : cmpV a c ≤ 0 := by
  have k1 := cmpV_key ha hb
  have k2 := cmpV_key hb hc
  have k3 := cmpV_key ha hc
  omega
/-- Values in order: the list that the library's sort leaves. -/
theorem sort_vals (l0 : List V) (hn : l0.length ≤ 12) (hok : ∀ v, v ∈ l0 → v.ok) : ∃ s : List V, s.Perm l0 ∧ s.Pairwise (fun a b => cmpV a b ≤ 0) ∧
    Does Try.prog 36 [.row 2 (l0.map vD)] [.own 1000000 2 l0.length, .fn 29 []] (.tup []) [.row 2 (s.map vD)] := by
  have hle : ∀ a b c : V, (decide (keyV a ≤ keyV b)) = true → (decide (keyV b ≤ keyV c)) = true → (decide (keyV a ≤ keyV c)) = true := fun a b c h1 h2 => by
    simp only [decide_eq_true_eq] at *
    omega
  have htot : ∀ a b : V, (decide (keyV a ≤ keyV b) || decide (keyV b ≤ keyV a)) = true := fun a b => by
    simp only [Bool.or_eq_true, decide_eq_true_eq]
    omega
  have hp := List.mergeSort_perm l0 (fun a b => decide (keyV a ≤ keyV b))
  have hs := List.pairwise_mergeSort hle htot l0
  generalize l0.mergeSort (fun a b => decide (keyV a ≤ keyV b)) = s at hp hs
  have hsm : ∀ v, v ∈ s → v.ok := fun v hv => hok v (hp.mem_iff.1 hv)
  have hpw : s.Pairwise (fun a b => cmpV a b ≤ 0) := List.Pairwise.imp_of_mem (fun {a b} ha hb h => by
    have := of_decide_eq_true h
    have := cmpV_key (hsm a ha) (hsm b hb)
    omega) hs
  refine ⟨s, hp, hpw, sort_val (by kernel_rfl) (c := cmpV) (R := fun a b => cmpV a b ≤ 0) l0 s hn ⟨fun i j x y _ hx hy h => by omega, fun i j x y _ hx hy h => ?_, fun x y z hx hy hz h1 h2 => cmpV_tr (hok x hx) (hok y hy) (hok z hz) h1 h2⟩ (fun x y hx hy => Value_compare_ok x y (hok x hx) (hok y hy)) (fun l hl hlp => ?_)⟩
  · have := cmpV_anti (hok x (List.mem_of_getElem? hx)) (hok y (List.mem_of_getElem? hy))
    omega
  · refine List.Perm.eq_of_pairwise (le := fun a b => cmpV a b ≤ 0) ?_ hlp hpw (hl.trans hp.symm)
    intro a b ha hb h1 h2
    have := cmpV_anti (hok a (hl.mem_iff.1 ha)) (hsm b hb)
    exact cmpV_eq (by omega)
end Go.Proofs.Ytjjcokmnebkbiaa
set_option maxHeartbeats 4000000
set_option maxRecDepth 100000
set_option linter.unusedVariables false
set_option linter.unusedSimpArgs false
namespace Go.Proofs.Ytjjcokmnebkbiaa
open Go.RowKit

theorem copyRow_ok (vs : List V) (hl : vs.length < 2000000) : Does Try.prog 48 [] [rowD vs] (rowD vs) [] := by
  refine does0 c_spec_copyRow mixed (Nat.le_of_ble_eq_true rfl) ?_
  conv => arg 3; whnf
  repeat' (first | with_reducible refine acc_none ?_ | (conv in hold _ => simp (disch := omega) only [go_sem]) | refine Stp.go ?_ | (with_reducible first | refine it_pos rfl ?_ | refine it_neg (by decide) ?_ | refine st_nil rfl ?_ | refine s_op ?_ ?_ | exact True.intro) | ((with_reducible first | refine dw_reg0 ?_ | refine dw_regB ?_); (conv => arg 3; whnf)) | (refine Spl.go (fun hq he => ?_) (fun hq he => ?_) <;> first | (exfalso; clear hq; omega) | ((try (first | (conv => arg 8; simp only [hq]) | (conv => arg 4; simp only [hq]))); clear hq)) | ((with_reducible first | refine c_split (fun hq => ?_) (fun hq => ?_) | refine q_split (fun hq => ?_) (fun hq => ?_)) <;> (try (first | (conv => arg 8; simp only [hq]) | (conv => arg 4; simp only [hq])))) | exact Sub.refl _ | omega)
  refine fin_wk (wk_frz 2 2000005 (by decide) (by decide) rfl ?_) ?_
  rotate_left
  (conv in hold _ => simp (disch := omega) only [go_sem, take_all])
  · refine fin_L [] ?_ ?_ rfl ?_
    repeat' (first | (conv in hold _ => simp (disch := omega) only [go_sem]) | exact True.intro | exact Sub.refl _ | omega)
  · exact vals_pur _
theorem map_rowD_append (a b : List (List V)) : (a ++ b).map rowD = a.map rowD ++ b.map rowD := List.map_append
theorem insertRow_own (rs : List (List V)) (r : List V) (w : Nat) (hw : w < 1000) (hl : rs.length ≤ 400) (hs : RsW w (r :: rs)) (ha : Asc rs) : Does Try.prog 32 [] [rowsD rs, rowD r] (.own 1000000 1 (ins r rs).length) [.row 1 ((ins r rs).map rowD)] := by
  have hr := hs r (List.mem_cons_self ..)
  have hcp := copyRow_ok r (by omega)
  let p : Nat → Bool := fun j => decide (0 < cmpR (rs.getD j []) r)
  have hat : ∀ (j : Nat) (x : List V), rs[j]? = some x → p j = decide (0 < cmpR x r) := fun j x hj => by
    show decide (0 < cmpR (rs.getD j []) r) = _
    rw [List.getD_eq_getElem?_getD, hj]
    rfl
  have hp : ∀ i j, i ≤ j → j < rs.length → p i = true → p j = true := fun i j hij hj hi => by
    have e1 := List.getElem?_eq_getElem (l := rs) (i := i) (by omega)
    have e2 := List.getElem?_eq_getElem hj
    rw [hat _ _ e1] at hi
    rw [hat _ _ e2]
    have g1 := hs _ (List.mem_cons_of_mem _ (List.getElem_mem (l := rs) (n := i) (by omega)))
    have g2 := hs _ (List.mem_cons_of_mem _ (List.getElem_mem hj))
    by_cases hij' : i = j
    · subst hij'; exact hi
    · have h1 := asc_at ha (show i < j by omega) e1 e2
      have hi := of_decide_eq_true hi
      refine decide_eq_true ?_
      have h2 := cmpR_anti _ r (by omega) g1.2 hr.2
      have h3 := cmpR_anti _ r (by omega) g2.2 hr.2
      have h4 := (cmpR_trans r _ _ (by omega) (by omega) hr.2 g1.2 g2.2 (by omega)).1 h1
      by_cases h5 : cmpR r rs[j] = 0
      · have e := cmpR_eq h5
        have h6 := cmpR_anti rs[i] rs[j] (by omega) g1.2 g2.2
        unfold leR at h1
        rw [← e] at h1
        omega
      · omega
  clear_value p
  have hinv := itB_inv (p := p) (n := rs.length) hp
  have hend := hinv rs.length
  have hee : (itB p rs.length rs.length).1 = (itB p rs.length rs.length).2 := by omega
  have hres : ins r rs = rs.take (itB p rs.length rs.length).1 ++ r :: rs.drop (itB p rs.length rs.length).1 := by
    refine ins_at r rs _ (by omega) (fun j x hj hx => ?_) (fun x hx => ?_)
    · have h1 := hend.2.1 j hj
      rw [hat j x hx] at h1
      have := of_decide_eq_false h1
      omega
    · have h1 := hend.2.2 _ (by omega) (List.getElem?_eq_some_iff.1 hx).1
      rw [hat _ x hx] at h1
      have := of_decide_eq_true h1
      omega
  have hil : (ins r rs).length = rs.length + 1 := (ins_perm r rs).length_eq
  rw [hil]
  refine does c_spec_insertRow mixed (Nat.le_of_ble_eq_true rfl) 0 rfl ?_
  conv => arg 3; whnf
  repeat' (first | with_reducible refine acc_none ?_ | (conv in hold _ => simp (disch := omega) only [go_sem]) | refine Stp.go ?_ | (with_reducible first | refine it_pos rfl ?_ | refine it_neg (by decide) ?_ | refine st_nil rfl ?_ | refine s_op ?_ ?_ | exact True.intro) | ((with_reducible first | refine dw_reg0 ?_ | refine dw_regB ?_); (conv => arg 3; whnf)) | (refine Spl.go (fun hq he => ?_) (fun hq he => ?_) <;> first | (exfalso; clear hq; omega) | ((try (first | (conv => arg 8; simp only [hq]) | (conv => arg 4; simp only [hq]))); clear hq)) | ((with_reducible first | refine c_split (fun hq => ?_) (fun hq => ?_) | refine q_split (fun hq => ?_) (fun hq => ?_)) <;> (try (first | (conv => arg 8; simp only [hq]) | (conv => arg 4; simp only [hq])))) | (with_reducible refine fin_0 ?_ (by first | rfl | (conv => lhs; simp only [go_sem])) ?_) | exact Sub.refl _ | omega)
  refine dw_for (c := 0) (l := fun i => [(0, rowsD rs), (1, rowD r), (5, I (itB p rs.length i).1), (6, I (itB p rs.length i).2)]) rs.length (fun _ => True) 0 trivial (Wk.list [] rfl rfl ?_) (fun i hi _ => ?_) (Nat.zero_le _)
  · repeat' (first | (conv in hold _ => simp (disch := omega) only [go_sem]) | exact True.intro | exact Sub.refl _ | omega)
    exact ⟨rfl, rfl⟩
  · have hi3 := hinv i
    have hnx : itB p rs.length (i + 1) = stepB p (itB p rs.length i) := rfl
    have hstop := itB_end (p := p) (n := rs.length) (i := i)
    by_cases hlt : (itB p rs.length i).1 < (itB p rs.length i).2
    · generalize itB p rs.length i = s at hi3 hnx hstop hlt
      obtain ⟨lo, hi'⟩ := s
      simp only at hi3 hstop hlt
      have hmid : ((lo : Int) + (hi' : Int)).tdiv 2 = (((lo + hi') / 2 : Nat) : Int) := by
        rw [Int.tdiv_eq_ediv_of_nonneg (by omega)]
        omega
      have hw' : IntKind.i64.wrap (((lo + hi') / 2 : Nat) : Int) = (((lo + hi') / 2 : Nat) : Int) := wrap64 (by omega) (by omega)
      have hx := List.getElem?_eq_getElem (l := rs) (i := (lo + hi') / 2) (by omega)
      generalize rs[(lo + hi') / 2]'(by omega) = x at hx
      have hxl := hs x (List.mem_cons_of_mem _ (List.mem_of_getElem? hx))
      have hc := compareRows_spec x r (by omega) (by omega)
      have hatm := hat _ x hx
      have hmr : (lo + hi') / 2 < rs.length := by omega
      unfold stepB at hnx
      simp only [hlt, if_true] at hnx
      generalize (lo + hi') / 2 = m at hmid hw' hx hatm hmr hnx
      by_cases hm : cmpR x r ≤ 0
      · rw [decide_eq_false (by omega)] at hatm
        rw [hatm] at hnx
        simp only [Bool.false_eq_true, if_false] at hnx
        repeat' (first
          | with_reducible refine acc_none ?_ | (conv in hold _ => simp (disch := omega) only [go_sem, hmid, hw', List.getElem?_map, hx, Option.map_some]) | refine Stp.go ?_ | (with_reducible first | refine it_pos rfl ?_ | refine it_neg (by decide) ?_ | refine st_nil rfl ?_ | refine s_op ?_ ?_ | exact True.intro) | ((with_reducible first | refine dw_reg0 ?_ | refine dw_regB ?_); (conv => arg 3; whnf)) | (refine Spl.go (fun hq he => ?_) (fun hq he => ?_) <;> first | (exfalso; clear hq; omega) | ((try (first | (conv => arg 8; simp only [hq]) | (conv => arg 4; simp only [hq]))); clear hq)) | ((with_reducible first | refine c_split (fun hq => ?_) (fun hq => ?_) | refine q_split (fun hq => ?_) (fun hq => ?_)) <;> (try (first | (conv => arg 8; simp only [hq]) | (conv => arg 4; simp only [hq])))) | (with_reducible refine fin_0 ?_ (by first | rfl | (conv => lhs; simp only [go_sem, hmid, hw', List.getElem?_map, hx, Option.map_some])) ?_)
          | (with_reducible show evC _ _ _ _ _ _ _ _ _ _ _ _
             first
             | (refine c_doesE (hc) ?_ ?_ ?_
                · ((try (conv => rhs; simp (disch := omega) only [go_sem, hmid, hw', List.getElem?_map, hx, Option.map_some])); try rfl)
                · first | rfl | (conv => lhs; simp only [go_sem, hmid, hw', List.getElem?_map, hx, Option.map_some])))
          | exact Sub.refl _ | omega)
        refine ⟨by omega, trivial, Wk.list [] rfl rfl ?_⟩
        repeat' (first | (conv in hold _ => simp (disch := omega) only [go_sem, hnx]) | exact True.intro | exact Sub.refl _ | omega)
      · rw [decide_eq_true (by omega)] at hatm
        rw [hatm] at hnx
        simp only [if_true] at hnx
        repeat' (first
          | with_reducible refine acc_none ?_ | (conv in hold _ => simp (disch := omega) only [go_sem, hmid, hw', List.getElem?_map, hx, Option.map_some]) | refine Stp.go ?_ | (with_reducible first | refine it_pos rfl ?_ | refine it_neg (by decide) ?_ | refine st_nil rfl ?_ | refine s_op ?_ ?_ | exact True.intro) | ((with_reducible first | refine dw_reg0 ?_ | refine dw_regB ?_); (conv => arg 3; whnf)) | (refine Spl.go (fun hq he => ?_) (fun hq he => ?_) <;> first | (exfalso; clear hq; omega) | ((try (first | (conv => arg 8; simp only [hq]) | (conv => arg 4; simp only [hq]))); clear hq)) | ((with_reducible first | refine c_split (fun hq => ?_) (fun hq => ?_) | refine q_split (fun hq => ?_) (fun hq => ?_)) <;> (try (first | (conv => arg 8; simp only [hq]) | (conv => arg 4; simp only [hq])))) | (with_reducible refine fin_0 ?_ (by first | rfl | (conv => lhs; simp only [go_sem, hmid, hw', List.getElem?_map, hx, Option.map_some])) ?_)
          | (with_reducible show evC _ _ _ _ _ _ _ _ _ _ _ _
             first
             | (refine c_doesE (hc) ?_ ?_ ?_
                · ((try (conv => rhs; simp (disch := omega) only [go_sem, hmid, hw', List.getElem?_map, hx, Option.map_some])); try rfl)
                · first | rfl | (conv => lhs; simp only [go_sem, hmid, hw', List.getElem?_map, hx, Option.map_some])))
          | exact Sub.refl _ | omega)
        refine ⟨by omega, trivial, Wk.list [] rfl rfl ?_⟩
        repeat' (first | (conv in hold _ => simp (disch := omega) only [go_sem, hnx]) | exact True.intro | exact Sub.refl _ | omega)
    · have he1 := hstop hlt (rs.length - i)
      rw [show i + (rs.length - i) = rs.length by omega] at he1
      rw [he1] at hres
      generalize itB p rs.length i = s at hi3 hlt hres
      obtain ⟨lo, hi'⟩ := s
      simp only at hi3 hlt hres
      rw [hres]
      have t1 : (rs.map rowD).take lo = (rs.take lo).map rowD := List.map_take.symm
      have t2 : (rs.map rowD).take rs.length = rs.map rowD := take_all rowD rs
      have t3 : (rs.map rowD).drop lo = (rs.drop lo).map rowD := List.map_drop.symm
      have t4 : (rs.take lo).length = lo := by rw [List.length_take]; omega
      have t5 : (rs.drop lo).length = rs.length - lo := List.length_drop
      have t6 : ((rs.take lo).map rowD).take lo = (rs.take lo).map rowD := List.take_of_length_le (by rw [List.length_map, t4]; exact Nat.le_refl _)
      have t7 : ((rs.take lo).map rowD).length = lo := by rw [List.length_map, t4]
      have t8 : ((rs.take lo).map rowD ++ [rowD r]).length = lo + 1 := by rw [List.length_append, t7]; rfl
      have t9 : ((rs.take lo).map rowD ++ [rowD r]).take (lo + 1) = (rs.take lo).map rowD ++ [rowD r] := List.take_of_length_le (by rw [t8]; exact Nat.le_refl _)
      have ta : lo + 1 + (rs.length - lo) = rs.length + 1 := by omega
      have tb : ((rs.map rowD).take rs.length).drop lo = (rs.drop lo).map rowD := by rw [t2, t3]
      rw [rowD] at t8 t9
      repeat' (first
        | with_reducible refine acc_none ?_ | (conv in hold _ => simp (disch := omega) only [go_sem, t1, t2, t3, t4, t5, t6, t7, List.length_map, t8, t9]) | refine Stp.go ?_ | (with_reducible first | refine it_pos rfl ?_ | refine it_neg (by decide) ?_ | refine st_nil rfl ?_ | refine s_op ?_ ?_ | exact True.intro) | ((with_reducible first | refine dw_reg0 ?_ | refine dw_regB ?_); (conv => arg 3; whnf)) | (refine Spl.go (fun hq he => ?_) (fun hq he => ?_) <;> first | (exfalso; clear hq; omega) | ((try (first | (conv => arg 8; simp only [hq]) | (conv => arg 4; simp only [hq]))); clear hq)) | ((with_reducible first | refine c_split (fun hq => ?_) (fun hq => ?_) | refine q_split (fun hq => ?_) (fun hq => ?_)) <;> (try (first | (conv => arg 8; simp only [hq]) | (conv => arg 4; simp only [hq])))) | (with_reducible refine fin_0 ?_ (by first | rfl | (conv => lhs; simp only [go_sem, t1, t2, t3, t4, t5, t6, t7, List.length_map, t8, t9])) ?_)
        | (with_reducible show evC _ _ _ _ _ _ _ _ _ _ _ _
           first
           | (refine c_doesE (hcp) ?_ ?_ ?_
              · ((try (conv => rhs; simp (disch := omega) only [go_sem, t1, t2, t3, t4, t5, t6, t7, List.length_map, t8, t9])); try rfl)
              · first | rfl | (conv => lhs; simp only [go_sem, t1, t2, t3, t4, t5, t6, t7, List.length_map, t8, t9])))
        | exact Sub.refl _ | omega)
      refine fin_L [2000042] ?_ ?_ rfl ?_
      repeat' (first | (conv in hold _ => simp (disch := omega) only [go_sem, ta, List.map_append, List.map_cons]) | exact True.intro | exact Sub.refl _ | omega)
      refine congrArg (D.row 1) ?_
      have hren : ∀ l : List (List V), D.renL [2000042] (l.map rowD) = l.map rowD := rows_ren [2000042]
      have e5 : List.map rowD (rs.take lo) ++ D.sl 2 (List.map vD r) :: List.map rowD (rs.drop lo) = (rs.take lo ++ r :: rs.drop lo).map rowD := by rw [List.map_append, List.map_cons]; rfl
      rw [e5, hren, ← e5, List.append_assoc]
      rfl
end Go.Proofs.Ytjjcokmnebkbiaa
set_option linter.unusedVariables false
namespace Go.Proofs.Ytjjcokmnebkbiaa
open Go.RowKit

theorem asc_of_tOk {t : Ta} (h : tOk t) : Asc t.rows := by
  refine List.pairwise_iff_getElem.2 (fun i j hi hj hij => ?_)
  have := tOk_le h (j - i) i t.rows[i] t.rows[j] (List.getElem?_eq_getElem hi) (by rw [show i + (j - i) = j by omega]; exact List.getElem?_eq_getElem hj)
  exact this
theorem rsw_of_tOk {t : Ta} (h : tOk t) : RsW t.w.toNat t.rows := fun r hr => by
  obtain ⟨i, hi⟩ := List.mem_iff_getElem?.1 hr
  have := h.2 i r hi
  exact ⟨by have := this.1.2; omega, this.1.1.2⟩
theorem tOk_of {w : Nat} {rs : List (List V)} (hw : 1 ≤ w ∧ w ≤ 6) (hl : rs.length ≤ 400) (h : RsW w rs) (ha : Asc rs) : tOk ⟨w, rs⟩ := by
  refine ⟨⟨⟨by show (1 : Int) ≤ w; omega, by show (w : Int) ≤ 6; omega⟩, hl⟩, fun i r hr => ?_⟩
  have hm := h r (List.mem_of_getElem? hr)
  refine ⟨⟨⟨⟨by omega, by omega⟩, hm.2⟩, by show (r.length : Int) = w; omega⟩, fun q h0 hq => ?_⟩
  exact asc_at ha (show i - 1 < i by omega) hq hr
end Go.Proofs.Ytjjcokmnebkbiaa
set_option linter.unusedVariables false
namespace Go.Proofs.Ytjjcokmnebkbiaa
open Go.RowKit

theorem cntE_perm {row : List V} {l m : List (List V)} (h : l.Perm m) : cntE row l = cntE row m := by
  unfold cntE
  exact (h.filter _).length_eq
theorem cntE_pos {row : List V} {l : List (List V)} : 0 < cntE row l ↔ row ∈ l := by
  unfold cntE
  rw [List.length_pos_iff_exists_mem]
  constructor
  · rintro ⟨a, ha⟩
    have h := List.mem_filter.1 ha
    have e : a = row := cmpR_eq (by simpa using h.2)
    exact e ▸ h.1
  · intro h
    exact ⟨row, List.mem_filter.2 ⟨h, by simpa using cmpR_self row⟩⟩
theorem cntE_same (row : List V) (l : List (List V)) : cntE row (row :: l) = cntE row l + 1 := by
  unfold cntE
  rw [List.filter_cons, if_pos (by simpa using cmpR_self row), List.length_cons]
theorem cntE_ne {row x : List V} (h : x ≠ row) (l : List (List V)) : cntE row (x :: l) = cntE row l := by
  unfold cntE
  rw [List.filter_cons, if_neg (fun e => h (cmpR_eq (by simpa using e)))]
theorem cntE_two' (row x : List V) (l m : List (List V)) (h : cntE row (x :: l) = cntE row (x :: m)) : cntE row l = cntE row m := by
  by_cases e : x = row
  · subst e
    rw [cntE_same, cntE_same] at h
    omega
  · rwa [cntE_ne e, cntE_ne e] at h
theorem perm_of_cnt : ∀ {l m : List (List V)}, (∀ r, cntE r l = cntE r m) → l.Perm m
  | [], m, h => by
    cases m with
    | nil => exact List.Perm.refl _
    | cons x m =>
      have := h x
      rw [cntE_same] at this
      have h0 : cntE x [] = 0 := rfl
      omega
  | x :: l, m, h => by
    have hx : x ∈ m := by
      rw [← cntE_pos, ← h x, cntE_same]
      omega
    obtain ⟨s, t, rfl⟩ := List.append_of_mem hx
    have hp : (s ++ x :: t).Perm (x :: (s ++ t)) := List.perm_middle
    refine List.Perm.trans (List.Perm.cons x (perm_of_cnt fun r => ?_)) hp.symm
    have := h r
    rw [cntE_perm hp] at this
    exact cntE_two' r x l (s ++ t) this
/-- Sorted lists with the same counts are equal. -/
theorem asc_unique {w : Nat} {l m : List (List V)} (hm : RsW w m) (al : Asc l) (am : Asc m) (h : ∀ r, cntE r l = cntE r m) : l = m := by
  rw [srt_unique hm (perm_of_cnt h) al, srt_of_asc hm am]
theorem asc_sub {l m : List (List V)} (h : l.Sublist m) (am : Asc m) : Asc l := am.sublist h
theorem rsw_sub {w : Nat} {l m : List (List V)} (h : l.Sublist m) (hm : RsW w m) : RsW w l := fun r hr => hm r (h.subset hr)
theorem rsw_app {w : Nat} {l m : List (List V)} (hl : RsW w l) (hm : RsW w m) : RsW w (l ++ m) := fun r hr => by
  rcases List.mem_append.1 hr with h | h
  · exact hl r h
  · exact hm r h
theorem cntE_srt (row : List V) (l : List (List V)) : cntE row (srt l) = cntE row l := cntE_perm (srt_perm l)
theorem nil_of_cnt {l : List (List V)} (h : ∀ r, cntE r l = 0) : l = [] := by
  cases l with
  | nil => rfl
  | cons x l =>
    have := h x
    rw [cntE_same] at this
    omega
theorem cnt_sum_len {l m : List (List V)} (h : ∀ r, cntE r l = cntE r m) : l.length = m.length := (perm_of_cnt h).length_eq
end Go.Proofs.Ytjjcokmnebkbiaa
set_option maxHeartbeats 4000000
set_option maxRecDepth 100000
set_option linter.unusedVariables false
set_option linter.unusedSimpArgs false
namespace Go.Proofs.Ytjjcokmnebkbiaa
open Go.RowKit

def okR (w : Nat) (r : List V) : Prop := r.length = w ∧ ∀ v, v ∈ r → v.ok
theorem ord_rows (w : Nat) : OrdOn cmpR (okR w) where
  irrefl a _ := by have := cmpR_self a; omega
  trans a b c ha hb hc h1 h2 := (cmpR_trans a b c (by have := ha.1; have := hb.1; omega) (by have := hb.1; have := hc.1; omega) ha.2 hb.2 hc.2 (by omega)).2 h2
  ntrans a b c ha hb hc h1 h2 := by
    have e1 := cmpR_anti a b (by have := ha.1; have := hb.1; omega) ha.2 hb.2
    have e2 := cmpR_anti b c (by have := hb.1; have := hc.1; omega) hb.2 hc.2
    have e3 := cmpR_anti a c (by have := ha.1; have := hc.1; omega) ha.2 hc.2
    have := (cmpR_trans c b a (by have := hc.1; have := hb.1; omega) (by have := hb.1; have := ha.1; omega) hc.2 hb.2 ha.2 (by omega)).1 (by omega)
    omega
theorem sortL_srt {w : Nat} {rs : List (List V)} (h : RsW w rs) : sortL cmpR rs = srt rs := by
  have hp := sortL_perm (ord_rows w) rs h
  refine srt_unique h hp ?_
  refine List.Pairwise.imp_of_mem ?_ (sortL_asc (ord_rows w) rs h)
  intro a b ha hb hab
  have ga := h a (hp.mem_iff.1 ha)
  have gb := h b (hp.mem_iff.1 hb)
  have := cmpR_anti a b (by omega) ga.2 gb.2
  unfold leR
  omega
end Go.Proofs.Ytjjcokmnebkbiaa
