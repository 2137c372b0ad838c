/-
  Marks of an expression; ColumnsOf with an answer of one's own. No condition.
-/
import Derived.Test.YtclkehekhdfnnaaDca
import Derived.Test.YtclkehekhdfnnaaDcb
import Derived.Test.YtclkehekhdfnnaaVMkE
import Derived.Test.YtclkehekhdfnnaaVOwn
import Derived.Test.YtclkehekhdfnnaaVColsB
import Derived.Test.YtclkehekhdfnnaaVColsC
set_option maxHeartbeats 4000000
set_option maxRecDepth 100000
set_option linter.unusedVariables false
set_option linter.unusedSimpArgs false
namespace Go.Proofs.Ytclkehekhdfnnaa
open Go.RowKit

theorem kD_oneM (κ s : Nat) (es : List D) : type_of% ((D.one.eq_def (kD κ s es)).symm.trans (kD_one κ s es)) := (D.one.eq_def (kD κ s es)).symm.trans (kD_one κ s es)
attribute [go_sem] kD_oneM
theorem RCalls.top {P : Program} {f : FuncId} {pre post : List It} {ds : List D} {t t' : Nat} {r : D} (h : RCalls P f pre ds post t r) (ht : t ≤ t') : RCalls P f pre ds post t' r := by
  intro w F m B xs h1 h2 h3 h4 h5 h6
  refine (h w F m B xs h1 h2 h3 h4 h5 h6).mono ?_
  rintro e w' ⟨x, F', m', B', q1, q2, q3, q4, q5, q6, q7, q8, q9⟩
  exact ⟨x, F', m', B', q1, q2, q3, q4, q5, q6, fun κ hκ => q7 κ (by omega), q8, q9⟩
theorem ownL_nil {w : World} {m : Names} : ∀ {l : List It}, (∀ it, it ∈ l → it.es = []) → OwnL l w m noBlocks
  | [], _ => fun _ hb => hb
  | it :: l, hl => ⟨noBlocks, noBlocks, .inl ⟨hl it (List.mem_cons_self ..), fun _ hb => hb⟩, ownL_nil (fun x hx => hl x (List.mem_cons_of_mem _ hx)), fun _ hb => hb.elim, fun b => ⟨fun h => h.elim, fun h => h.elim id id⟩⟩
/-- A call that is handed trees without memory. -/
theorem rcalls_nilP {P : Program} {f : FuncId} {pre post : List It} {ds : List D} {r : D} (h : Does P f [] ds r []) (hds : D.purL ds = true) (hr : r.pur = true) (hp : ∀ it, it ∈ post → it.es = []) : RCalls P f pre ds post pre.length r := by
  intro w F m B xs hwf hO hBF hmn hxl hfz
  refine (h w F noNames xs hxl (Nat.zero_le _) hwf (fun i d x hd hx => (hfz i d x hd hx).pure (D.purL_iff.1 hds d (List.mem_of_getElem? hd)) noNames) (fun i d hd => by simp at hd) (fun _ _ => rfl) (fun i j b hi => by simp at hi)).mono ?_
  rintro e w' ⟨x, F', m', rfl, c, wf', _, _, hx, _⟩
  have hT : ∀ b, ¬ (∃ i, i < ([] : List D).length ∧ noNames (nb + i) = some (some b)) := fun b ⟨i, hi, _⟩ => by simp at hi
  exact ⟨x, F', m, noBlocks, rfl, c.mono (fun b hb => (hT b hb).elim), wf', fun _ hb => hb.elim, fun _ _ hb => hb.elim, fun κ hκ => rfl, fun κ hκ => hmn κ hκ, hx.pure hr m, ownL_nil hp⟩
theorem markExpr_rc (e : E) (k : Int) (hk : 0 ≤ k ∧ k + 4 * eszL e.ks ≤ 1099511627776) (hl : eszL e.ks ≤ 1048576) : RCalls Try.prog 14 [⟨0, 5, e.ks.map eD⟩] [eK 0 e, I k] [⟨0, 5, (mkEL e.ks k).map eD⟩] 1 (I (k + 4 * eszL e.ks)) := by
  by_cases h0 : e.ks = []
  · have hn := markExprS_nil k
    have h : Does Try.prog 14 [] [eD e, I k] (I k) [] := by
      rw [eD_eq, h0]
      refine does0 c_laws_markExpr mixed (Nat.le_of_ble_eq_true rfl) ?_
      conv => arg 3; whnf
      repeat' (first | with_reducible refine acc_none ?_ | (conv in hold _ => simp (disch := omega) only [go_sem]) | refine Stp.go ?_ | (with_reducible first | refine it_pos rfl ?_ | refine it_neg (by decide) ?_ | refine st_nil rfl ?_ | refine s_op ?_ ?_ | exact True.intro) | ((with_reducible first | refine dw_reg0 ?_ | refine dw_regB ?_); (conv => arg 3; whnf)) | (refine Spl.go (fun hq he => ?_) (fun hq he => ?_) <;> first | (exfalso; clear hq; omega) | ((try (first | (conv => arg 8; simp only [hq]) | (conv => arg 4; simp only [hq]))); clear hq)) | ((with_reducible first | refine c_split (fun hq => ?_) (fun hq => ?_) | refine q_split (fun hq => ?_) (fun hq => ?_)) <;> (try (first | (conv => arg 8; simp only [hq]) | (conv => arg 4; simp only [hq])))) | (with_reducible refine fin_0 ?_ (by first | rfl | (conv => lhs; simp only [go_sem])) ?_) | exact Sub.refl _ | omega)
      refine c_doesE (hn) ?_ ?_ ?_
      · ((try (conv => rhs; simp (disch := omega) only [go_sem])); try rfl)
      · first | rfl | (conv => lhs; simp only [go_sem])
      repeat' (first | with_reducible refine acc_none ?_ | (conv in hold _ => simp (disch := omega) only [go_sem]) | refine Stp.go ?_ | (with_reducible first | refine it_pos rfl ?_ | refine it_neg (by decide) ?_ | refine st_nil rfl ?_ | refine s_op ?_ ?_ | exact True.intro) | ((with_reducible first | refine dw_reg0 ?_ | refine dw_regB ?_); (conv => arg 3; whnf)) | (refine Spl.go (fun hq he => ?_) (fun hq he => ?_) <;> first | (exfalso; clear hq; omega) | ((try (first | (conv => arg 8; simp only [hq]) | (conv => arg 4; simp only [hq]))); clear hq)) | ((with_reducible first | refine c_split (fun hq => ?_) (fun hq => ?_) | refine q_split (fun hq => ?_) (fun hq => ?_)) <;> (try (first | (conv => arg 8; simp only [hq]) | (conv => arg 4; simp only [hq])))) | (with_reducible refine fin_0 ?_ (by first | rfl | (conv => lhs; simp only [go_sem])) ?_) | exact Sub.refl _ | omega)
    rw [eK_leaf h0, h0]
    have h2 := rcalls_nilP (pre := [⟨0, 5, []⟩]) (post := [⟨0, 5, []⟩]) h (by rw [D.purL, eD_pur]; rfl) rfl (fun it hit => by obtain rfl := List.mem_singleton.1 hit; rfl)
    rw [show k + 4 * ((eszL [] : Nat) : Int) = k by rw [eszL]; omega]
    exact h2
  · have hms := markExprS_rc e h0 k hk hl
    have hm0 : e.ks.map eD ≠ [] := fun h => h0 (List.map_eq_nil_iff.1 h)
    have hkD : kD 0 5 (e.ks.map eD) = .kow 0 5 e.ks.length := by unfold kD; rw [if_neg hm0, List.length_map]
    let fm : Fm := ⟨fun _ => 1, fun i => if i = 0 then [⟨0, 5, e.ks.map eD⟩] else [⟨0, 5, (mkEL e.ks k).map eD⟩]⟩
    refine rcalls_of c_laws_markExpr mixed fm 0 1 (fun κ => if κ = 0 then 0 else 2000000) (Nat.le_of_ble_eq_true rfl) rfl rfl (List.Perm.refl _) (List.Perm.refl _) (fun it hit _ => ?_) (fun κ h => ?_) (fun κ hκ => ?_) (Nat.le_refl _) (by omega) (fun m0 => ?_)
    · obtain rfl := List.mem_singleton.1 hit
      exact Nat.zero_lt_one
    · have h : κ < 1 := h
      obtain rfl : κ = 0 := by omega
      rfl
    · show nb ≤ if κ = 0 then _ else 2000000
      rw [if_neg (by omega)]; decide
    · rw [eK, hkD]
      conv => arg 3; whnf
      repeat' ((fail_if_success (with_reducible first | refine s_call ?_ | refine s_cal ?_ | refine s_inv ?_)); first | with_reducible refine acc_none ?_ | (conv in hold _ => simp (disch := omega) only [go_sem]) | refine Stp.go ?_ | (with_reducible first | refine it_pos rfl ?_ | refine it_neg (by decide) ?_ | refine st_nil rfl ?_ | refine s_op ?_ ?_ | exact True.intro) | ((with_reducible first | refine dw_reg0 ?_ | refine dw_regB ?_); (conv => arg 3; whnf)) | (refine Spl.go (fun hq he => ?_) (fun hq he => ?_) <;> first | (exfalso; clear hq; omega) | ((try (first | (conv => arg 8; simp only [hq]) | (conv => arg 4; simp only [hq]))); clear hq)) | ((with_reducible first | refine c_split (fun hq => ?_) (fun hq => ?_) | refine q_split (fun hq => ?_) (fun hq => ?_)) <;> (try (first | (conv => arg 8; simp only [hq]) | (conv => arg 4; simp only [hq])))) | (with_reducible refine fin_0 ?_ (by first | rfl | (conv => lhs; simp only [go_sem])) ?_) | exact Sub.refl _ | omega)
      refine s_rcall (fm := fm) (p := 1) (m0 := m0) (k := 0) 1 [0] [] hms (by ((conv => lhs; simp (disch := omega) only [go_sem]); try rfl)) (by ((conv => lhs; simp (disch := omega) only [go_sem]); try rfl)) rfl (rr := I (k + 4 * eszL e.ks)) rfl rfl rfl rfl (fun κ h => ?_) (Nat.le_refl _) (List.Perm.refl _) (List.Perm.refl _) (fun it hit _ => ?_) (fun it hit _ => ?_) (fun it hit _ => (by cases hit)) (Nat.le_refl _) rfl (show 1 ≤ 900000 by omega) (show 1 ≤ 900000 by omega) ?_
      · obtain rfl := List.mem_singleton.1 h
        exact Nat.zero_lt_one
      · obtain rfl := List.mem_singleton.1 hit
        exact Nat.zero_lt_one
      · obtain rfl := List.mem_singleton.1 hit
        exact Nat.zero_lt_one
      · repeat' (first | with_reducible refine acc_none ?_ | (conv in hold _ => simp (disch := omega) only [go_sem]) | refine Stp.go ?_ | (with_reducible first | refine it_pos rfl ?_ | refine it_neg (by decide) ?_ | refine st_nil rfl ?_ | refine s_op ?_ ?_ | exact True.intro) | ((with_reducible first | refine dw_reg0 ?_ | refine dw_regB ?_); (conv => arg 3; whnf)) | (refine Spl.go (fun hq he => ?_) (fun hq he => ?_) <;> first | (exfalso; clear hq; omega) | ((try (first | (conv => arg 8; simp only [hq]) | (conv => arg 4; simp only [hq]))); clear hq)) | ((with_reducible first | refine c_split (fun hq => ?_) (fun hq => ?_) | refine q_split (fun hq => ?_) (fun hq => ?_)) <;> (try (first | (conv => arg 8; simp only [hq]) | (conv => arg 4; simp only [hq])))) | (with_reducible refine fin_0 ?_ (by first | rfl | (conv => lhs; simp only [go_sem])) ?_) | exact Sub.refl _ | omega)
        refine fin_RC (by ((conv => lhs; simp (disch := omega) only [go_sem]); try rfl)) ?_ (by ((conv => lhs; simp (disch := omega) only [go_sem]); try rfl))
        repeat' (first | (conv in hold _ => simp (disch := omega) only [go_sem]) | exact True.intro | exact Sub.refl _ | omega)
theorem ColumnsOf_own (e : E) (h : eOk e 6 8) : Does Try.prog 11 [] [eD e] (.own 1000000 1 (colsL (occ e) 6).length) [.row 1 (colsL (occ e) 6)] := by
  have hve := implValidExpr_ok e 6
  rw [decide_eq_true ⟨by decide, h⟩] at hve
  have huc := usedColumns_ok e 8 h
  refine does c_impl_ColumnsOf mixed (Nat.le_of_ble_eq_true rfl) 0 rfl ?_
  conv => arg 3; whnf
  repeat' (first | with_reducible refine acc_none ?_ | (conv in hold _ => simp (disch := omega) only [go_sem]) | refine Stp.go ?_ | (with_reducible first | refine it_pos rfl ?_ | refine it_neg (by decide) ?_ | refine st_nil rfl ?_ | refine s_op ?_ ?_ | exact True.intro) | ((with_reducible first | refine dw_reg0 ?_ | refine dw_regB ?_); (conv => arg 3; whnf)) | (refine Spl.go (fun hq he => ?_) (fun hq he => ?_) <;> first | (exfalso; clear hq; omega) | ((try (first | (conv => arg 8; simp only [hq]) | (conv => arg 4; simp only [hq]))); clear hq)) | ((with_reducible first | refine c_split (fun hq => ?_) (fun hq => ?_) | refine q_split (fun hq => ?_) (fun hq => ?_)) <;> (try (first | (conv => arg 8; simp only [hq]) | (conv => arg 4; simp only [hq])))) | (with_reducible refine fin_0 ?_ (by first | rfl | (conv => lhs; simp only [go_sem])) ?_) | exact Sub.refl _ | omega)
  refine c_doesE (hve) ?_ ?_ ?_
  · ((try (conv => rhs; simp (disch := omega) only [go_sem])); try rfl)
  · first | rfl | (conv => lhs; simp only [go_sem])
  repeat' (first | with_reducible refine acc_none ?_ | (conv in hold _ => simp (disch := omega) only [go_sem]) | refine Stp.go ?_ | (with_reducible first | refine it_pos rfl ?_ | refine it_neg (by decide) ?_ | refine st_nil rfl ?_ | refine s_op ?_ ?_ | exact True.intro) | ((with_reducible first | refine dw_reg0 ?_ | refine dw_regB ?_); (conv => arg 3; whnf)) | (refine Spl.go (fun hq he => ?_) (fun hq he => ?_) <;> first | (exfalso; clear hq; omega) | ((try (first | (conv => arg 8; simp only [hq]) | (conv => arg 4; simp only [hq]))); clear hq)) | ((with_reducible first | refine c_split (fun hq => ?_) (fun hq => ?_) | refine q_split (fun hq => ?_) (fun hq => ?_)) <;> (try (first | (conv => arg 8; simp only [hq]) | (conv => arg 4; simp only [hq])))) | (with_reducible refine fin_0 ?_ (by first | rfl | (conv => lhs; simp only [go_sem])) ?_) | exact Sub.refl _ | omega)
  refine c_doesE (huc) ?_ ?_ ?_
  · ((try (conv => rhs; simp (disch := omega) only [go_sem])); try rfl)
  · first | rfl | (conv => lhs; simp only [go_sem])
  repeat' (first | with_reducible refine acc_none ?_ | (conv in hold _ => simp (disch := omega) only [go_sem]) | refine Stp.go ?_ | (with_reducible first | refine it_pos rfl ?_ | refine it_neg (by decide) ?_ | refine st_nil rfl ?_ | refine s_op ?_ ?_ | exact True.intro) | ((with_reducible first | refine dw_reg0 ?_ | refine dw_regB ?_); (conv => arg 3; whnf)) | (refine Spl.go (fun hq he => ?_) (fun hq he => ?_) <;> first | (exfalso; clear hq; omega) | ((try (first | (conv => arg 8; simp only [hq]) | (conv => arg 4; simp only [hq]))); clear hq)) | ((with_reducible first | refine c_split (fun hq => ?_) (fun hq => ?_) | refine q_split (fun hq => ?_) (fun hq => ?_)) <;> (try (first | (conv => arg 8; simp only [hq]) | (conv => arg 4; simp only [hq])))) | (with_reducible refine fin_0 ?_ (by first | rfl | (conv => lhs; simp only [go_sem])) ?_) | exact Sub.refl _ | omega)
  refine dw_for (c := 1) (l := fun i => [(3, .own 1000000 1 (colsL (occ e) i).length), (10, .agg (useL (occ e))), (11, I i), (1000000, .row 1 (colsL (occ e) i))]) 6 (fun _ => True) 0 trivial ((wk_row 3 2000019 1 (by decide) (by decide) rfl rfl).trans (Wk.list [2000019] rfl rfl ?_)) (fun i hi _ => ?_) (Nat.zero_le _)
  · repeat' (first | (conv in hold _ => simp (disch := omega) only [go_sem]) | exact True.intro | exact Sub.refl _ | omega)
    exact ⟨rfl, rfl, rfl⟩
  · have hlen := colsL_len (occ e) i
    by_cases h6 : i < 6
    · repeat' (first | with_reducible refine acc_none ?_ | (conv in hold _ => simp (disch := omega) only [go_sem]) | refine Stp.go ?_ | (with_reducible first | refine it_pos rfl ?_ | refine it_neg (by decide) ?_ | refine st_nil rfl ?_ | refine s_op ?_ ?_ | exact True.intro) | ((with_reducible first | refine dw_reg0 ?_ | refine dw_regB ?_); (conv => arg 3; whnf)) | (refine Spl.go (fun hq he => ?_) (fun hq he => ?_) <;> first | (exfalso; clear hq; omega) | ((try (first | (conv => arg 8; simp only [hq]) | (conv => arg 4; simp only [hq]))); clear hq)) | ((with_reducible first | refine c_split (fun hq => ?_) (fun hq => ?_) | refine q_split (fun hq => ?_) (fun hq => ?_)) <;> (try (first | (conv => arg 8; simp only [hq]) | (conv => arg 4; simp only [hq])))) | (with_reducible refine fin_0 ?_ (by first | rfl | (conv => lhs; simp only [go_sem])) ?_) | exact Sub.refl _ | omega)
      · refine ⟨h6, trivial, Wk.list [2000019] rfl rfl ?_⟩
        repeat' (first | (conv in hold _ => simp (disch := omega) only [go_sem, List.take_length]) | exact True.intro | exact Sub.refl _ | omega)
        rw [colsL_t hq, List.length_append]
        exact ⟨rfl, rfl⟩
      · refine ⟨h6, trivial, Wk.list [1000000] rfl rfl ?_⟩
        repeat' (first | (conv in hold _ => simp (disch := omega) only [go_sem]) | exact True.intro | exact Sub.refl _ | omega)
        rw [colsL_f hq]
        exact ⟨rfl, rfl⟩
    · obtain rfl : i = 6 := by omega
      repeat' (first | with_reducible refine acc_none ?_ | (conv in hold _ => simp (disch := omega) only [go_sem]) | refine Stp.go ?_ | (with_reducible first | refine it_pos rfl ?_ | refine it_neg (by decide) ?_ | refine st_nil rfl ?_ | refine s_op ?_ ?_ | exact True.intro) | ((with_reducible first | refine dw_reg0 ?_ | refine dw_regB ?_); (conv => arg 3; whnf)) | (refine Spl.go (fun hq he => ?_) (fun hq he => ?_) <;> first | (exfalso; clear hq; omega) | ((try (first | (conv => arg 8; simp only [hq]) | (conv => arg 4; simp only [hq]))); clear hq)) | ((with_reducible first | refine c_split (fun hq => ?_) (fun hq => ?_) | refine q_split (fun hq => ?_) (fun hq => ?_)) <;> (try (first | (conv => arg 8; simp only [hq]) | (conv => arg 4; simp only [hq])))) | exact Sub.refl _ | omega)
      refine fin_L [1000000] ?_ ?_ rfl ?_
      repeat' (first | (conv in hold _ => simp (disch := omega) only [go_sem, List.take_length]) | exact True.intro | exact Sub.refl _ | omega)
theorem ColumnsOf_none (e : E) (h : ¬ eOk e 6 8) : Does Try.prog 11 [] [eD e] .nul [] := by
  have hve := implValidExpr_ok e 6
  rw [decide_eq_false (fun h2 => h h2.2)] at hve
  refine does0 c_impl_ColumnsOf mixed (Nat.le_of_ble_eq_true rfl) ?_
  conv => arg 3; whnf
  repeat' (first | with_reducible refine acc_none ?_ | (conv in hold _ => simp (disch := omega) only [go_sem]) | refine Stp.go ?_ | (with_reducible first | refine it_pos rfl ?_ | refine it_neg (by decide) ?_ | refine st_nil rfl ?_ | refine s_op ?_ ?_ | exact True.intro) | ((with_reducible first | refine dw_reg0 ?_ | refine dw_regB ?_); (conv => arg 3; whnf)) | (refine Spl.go (fun hq he => ?_) (fun hq he => ?_) <;> first | (exfalso; clear hq; omega) | ((try (first | (conv => arg 8; simp only [hq]) | (conv => arg 4; simp only [hq]))); clear hq)) | ((with_reducible first | refine c_split (fun hq => ?_) (fun hq => ?_) | refine q_split (fun hq => ?_) (fun hq => ?_)) <;> (try (first | (conv => arg 8; simp only [hq]) | (conv => arg 4; simp only [hq])))) | (with_reducible refine fin_0 ?_ (by first | rfl | (conv => lhs; simp only [go_sem])) ?_) | exact Sub.refl _ | omega)
  refine c_doesE (hve) ?_ ?_ ?_
  · ((try (conv => rhs; simp (disch := omega) only [go_sem])); try rfl)
  · first | rfl | (conv => lhs; simp only [go_sem])
  repeat' (first | with_reducible refine acc_none ?_ | (conv in hold _ => simp (disch := omega) only [go_sem]) | refine Stp.go ?_ | (with_reducible first | refine it_pos rfl ?_ | refine it_neg (by decide) ?_ | refine st_nil rfl ?_ | refine s_op ?_ ?_ | exact True.intro) | ((with_reducible first | refine dw_reg0 ?_ | refine dw_regB ?_); (conv => arg 3; whnf)) | (refine Spl.go (fun hq he => ?_) (fun hq he => ?_) <;> first | (exfalso; clear hq; omega) | ((try (first | (conv => arg 8; simp only [hq]) | (conv => arg 4; simp only [hq]))); clear hq)) | ((with_reducible first | refine c_split (fun hq => ?_) (fun hq => ?_) | refine q_split (fun hq => ?_) (fun hq => ?_)) <;> (try (first | (conv => arg 8; simp only [hq]) | (conv => arg 4; simp only [hq])))) | (with_reducible refine fin_0 ?_ (by first | rfl | (conv => lhs; simp only [go_sem])) ?_) | exact Sub.refl _ | omega)
theorem ColumnsOf_noneS (e : E) (h : ¬ eOk e 6 8) : Does Try.prog 9 [] [eD e] .nul [] := by
  have hve := ValidExpr_ok e 6 (by decide)
  rw [decide_eq_false (fun h2 => h h2.2)] at hve
  refine does0 c_spec_ColumnsOf mixed (Nat.le_of_ble_eq_true rfl) ?_
  conv => arg 3; whnf
  repeat' (first | with_reducible refine acc_none ?_ | (conv in hold _ => simp (disch := omega) only [go_sem]) | refine Stp.go ?_ | (with_reducible first | refine it_pos rfl ?_ | refine it_neg (by decide) ?_ | refine st_nil rfl ?_ | refine s_op ?_ ?_ | exact True.intro) | ((with_reducible first | refine dw_reg0 ?_ | refine dw_regB ?_); (conv => arg 3; whnf)) | (refine Spl.go (fun hq he => ?_) (fun hq he => ?_) <;> first | (exfalso; clear hq; omega) | ((try (first | (conv => arg 8; simp only [hq]) | (conv => arg 4; simp only [hq]))); clear hq)) | ((with_reducible first | refine c_split (fun hq => ?_) (fun hq => ?_) | refine q_split (fun hq => ?_) (fun hq => ?_)) <;> (try (first | (conv => arg 8; simp only [hq]) | (conv => arg 4; simp only [hq])))) | (with_reducible refine fin_0 ?_ (by first | rfl | (conv => lhs; simp only [go_sem])) ?_) | exact Sub.refl _ | omega)
  refine c_doesE (hve) ?_ ?_ ?_
  · ((try (conv => rhs; simp (disch := omega) only [go_sem])); try rfl)
  · first | rfl | (conv => lhs; simp only [go_sem])
  repeat' (first | with_reducible refine acc_none ?_ | (conv in hold _ => simp (disch := omega) only [go_sem]) | refine Stp.go ?_ | (with_reducible first | refine it_pos rfl ?_ | refine it_neg (by decide) ?_ | refine st_nil rfl ?_ | refine s_op ?_ ?_ | exact True.intro) | ((with_reducible first | refine dw_reg0 ?_ | refine dw_regB ?_); (conv => arg 3; whnf)) | (refine Spl.go (fun hq he => ?_) (fun hq he => ?_) <;> first | (exfalso; clear hq; omega) | ((try (first | (conv => arg 8; simp only [hq]) | (conv => arg 4; simp only [hq]))); clear hq)) | ((with_reducible first | refine c_split (fun hq => ?_) (fun hq => ?_) | refine q_split (fun hq => ?_) (fun hq => ?_)) <;> (try (first | (conv => arg 8; simp only [hq]) | (conv => arg 4; simp only [hq])))) | (with_reducible refine fin_0 ?_ (by first | rfl | (conv => lhs; simp only [go_sem])) ?_) | exact Sub.refl _ | omega)
/-- The columns, or none where the expression is not valid. -/
noncomputable def colsX (e : E) : List Int := open Classical in if eOk e 6 8 then (marked (occ e) 6).map fun j : Nat => (j : Int) else []
end Go.Proofs.Ytclkehekhdfnnaa
