/-
  Binding, as the model does it; what a bound expression is worth. No condition.
-/
import Derived.Test.YtnakdmodegfibaaDca
import Derived.Test.YtnakdmodegfibaaDcg
import Derived.Test.YtnakdmodegfibaaVBind
import Derived.Test.YtnakdmodegfibaaVVal
set_option maxHeartbeats 4000000
set_option maxRecDepth 100000
set_option linter.unusedVariables false
set_option linter.unusedSimpArgs false
namespace Go.Proofs.Ytnakdmodegfibaa
open Go.RowKit

theorem sub_bind {n : Nat} {vs : List V} : ∀ e : E, OkAt ((n : Int) + vs.length) e → rwE (subTop (cols n ++ consts vs)) e = rwE (bindTop n vs) e := by
  refine E.ind (fun e ih h => ?_)
  rw [rwE_eq, rwE_eq]
  have hl : rwL (subTop (cols n ++ consts vs)) e.ks = rwL (bindTop n vs) e.ks := by
    rw [rwL_map, rwL_map]
    exact List.map_congr_left (fun x hx => ih x hx (h.kid hx))
  rw [hl]
  by_cases hk : e.k = 1
  · obtain ⟨hc, hv, hks⟩ := h.col hk
    rw [hks, rwL, hv]
    unfold subTop
    rw [E.k_mk, if_pos hk, E.c_mk]
    by_cases hlt : (n : Int) ≤ e.c
    · rw [bindTop_col (e := .mk e.k e.c ⟨false, 0⟩ []) hk hlt, List.getD_eq_getElem?_getD, List.getElem?_append_right (by rw [cols_len]; omega), cols_len]
      obtain ⟨v, hv⟩ : ∃ v, vs[(e.c - n).toNat]? = some v := ⟨_, List.getElem?_eq_getElem (by omega)⟩
      rw [show e.c.toNat - n = (e.c - n).toNat by omega, consts_get hv]
      show _ = E.mk 2 0 (vs.getD (e.c - n).toNat _) []
      rw [List.getD_eq_getElem?_getD, hv]
      rfl
    · rw [bindTop_no (e := .mk e.k e.c ⟨false, 0⟩ []) (fun h => hlt h.2), List.getD_eq_getElem?_getD, List.getElem?_append_left (by rw [cols_len]; omega), cols_get (by omega)]
      show E.mk 1 _ _ _ = E.mk e.k e.c _ _
      rw [hk, show ((e.c.toNat : Nat) : Int) = e.c by omega]
  · unfold subTop
    rw [E.k_mk, if_neg hk, bindTop_no (e := .mk e.k e.c e.v (rwL (bindTop n vs) e.ks)) (fun h => hk h.1)]
theorem cols_small (n : Nat) : ∀ x, x ∈ cols n → esz x < 1000000 := by
  intro x hx
  obtain ⟨i, _, rfl⟩ := List.mem_map.1 hx
  rw [esz, eszL]
  decide
theorem consts_small (vs : List V) : ∀ x, x ∈ consts vs → esz x < 1000000 := by
  intro x hx
  obtain ⟨i, _, rfl⟩ := List.mem_map.1 hx
  rw [esz, eszL]
  decide
/-- Columns and constants. -/
def byD (n : Nat) (vs : List V) : List D := (cols n).map eN ++ (consts vs).map eD
theorem byD_len (n : Nat) (vs : List V) : (byD n vs).length = n + vs.length := by unfold byD; rw [List.length_append, List.length_map, List.length_map, cols_len, consts_len]
theorem byD_pur (n : Nat) (vs : List V) : D.purL (byD n vs) = true := by
  refine D.purL_iff.2 (fun d hd => ?_)
  rcases List.mem_append.1 hd with hd | hd
  · exact D.purL_iff.1 (eNs_pur _) d hd
  · exact D.purL_iff.1 (exprs_pur _) d hd
theorem byD_ren (L : List Nat) (n : Nat) (vs : List V) : D.renL L (byD n vs) = byD n vs := ren_pure.renL_pure L _ (byD_pur n vs)
theorem byD_next (n : Nat) {vs : List V} {i : Nat} {v : V} (h : vs[i]? = some v) : byD n (vs.take (i + 1)) = byD n (vs.take i) ++ [eD (.mk 2 0 v [])] := by
  unfold byD consts
  rw [take_next h, List.map_append, List.map_append, ← List.append_assoc]
  rfl
theorem byD_sub (n : Nat) (vs : List V) : Sub (.sl 5 (byD n vs)) (.sl 5 ((cols n ++ consts vs).map eD)) := by
  refine Sub.sl (by rw [byD_len, List.length_map, List.length_append, cols_len, consts_len]) (fun e he => ?_) ?_
  · obtain ⟨a, _, rfl⟩ := List.mem_map.1 he
    exact eD_cells a
  · rw [List.map_append]
    unfold byD
    rw [flat_append, flat_append]
    exact SubL.append (SubL.flat_map eN eD _ (fun e _ => eN_cells e)) (SubL.refl _)
theorem Bind_spec (e : E) (w : Int) (vs : List V) (hw : -1000 ≤ w ∧ w ≤ 1000) (hl : vs.length ≤ 100) :
    Does Try.prog 30 [] [eD e, I w, rowD vs] (.tup [eD (if bindOk w vs e then rwE (bindTop w vs) e else zE0), Bo (decide (bindOk w vs e))]) [] := by
  have hve := ValidExpr_any e (w + vs.length)
  refine does0 c_spec_Bind mixed (Nat.le_of_ble_eq_true rfl) ?_
  conv => arg 3; whnf
  repeat' (first | with_reducible refine acc_none ?_ | (conv in hold _ => simp (disch := omega) only [go_sem]) | refine Stp.go ?_ | (with_reducible first | refine it_pos rfl ?_ | refine it_neg (by decide) ?_ | refine st_nil rfl ?_ | refine s_op ?_ ?_ | exact True.intro) | ((with_reducible first | refine dw_reg0 ?_ | refine dw_regB ?_); (conv => arg 3; whnf)) | (refine Spl.go (fun hq he => ?_) (fun hq he => ?_) <;> first | (exfalso; clear hq; omega) | ((try (first | (conv => arg 8; simp only [hq]) | (conv => arg 4; simp only [hq]))); clear hq)) | ((with_reducible first | refine c_split (fun hq => ?_) (fun hq => ?_) | refine q_split (fun hq => ?_) (fun hq => ?_)) <;> (try (first | (conv => arg 8; simp only [hq]) | (conv => arg 4; simp only [hq])))) | (with_reducible refine fin_0 ?_ (by first | rfl | (conv => lhs; simp only [go_sem])) ?_) | exact Sub.refl _ | omega)
  refine dw_for (c := 2) (l := fun i => [(1, I w), (2, rowD vs), (3, .ref 1000000 0), (6, .ref 1000001 0), (7, Bo false), (8, I i), (1000000, .obj [I e.k, I e.c, Bo e.v.b, I e.v.n, .sl 5 (e.ks.map eD)]), (1000001, .obj [I 0, I 0, Bo false, I 0, .nul])]) vs.length (fun i => ∀ j v, j < i → vs[j]? = some v → v.ok) 0 (by omega) (Wk.list [2000003, 2000006] rfl rfl ?_) (fun i hi hJ => ?_) (Nat.zero_le _)
  · repeat' (first | (conv in hold _ => simp (disch := omega) only [go_sem]) | exact True.intro | exact Sub.refl _ | omega)
    exact rfl
  · rcases at_or_end hi with ⟨v, hv, hlt⟩ | rfl
    · by_cases hok : v.ok
      · have h1 := validValue_ok v
        rw [decide_eq_true hok] at h1
        repeat' (first | with_reducible refine acc_none ?_ | (conv in hold _ => simp (disch := omega) only [go_sem, List.getElem?_map, hv, Option.map_some]) | refine Stp.go ?_ | (with_reducible first | refine it_pos rfl ?_ | refine it_neg (by decide) ?_ | refine st_nil rfl ?_ | refine s_op ?_ ?_ | exact True.intro) | ((with_reducible first | refine dw_reg0 ?_ | refine dw_regB ?_); (conv => arg 3; whnf)) | (refine Spl.go (fun hq he => ?_) (fun hq he => ?_) <;> first | (exfalso; clear hq; omega) | ((try (first | (conv => arg 8; simp only [hq]) | (conv => arg 4; simp only [hq]))); clear hq)) | ((with_reducible first | refine c_split (fun hq => ?_) (fun hq => ?_) | refine q_split (fun hq => ?_) (fun hq => ?_)) <;> (try (first | (conv => arg 8; simp only [hq]) | (conv => arg 4; simp only [hq])))) | (with_reducible refine fin_0 ?_ (by first | rfl | (conv => lhs; simp only [go_sem, List.getElem?_map, hv, Option.map_some])) ?_) | exact Sub.refl _ | omega)
        refine c_doesE (h1) ?_ ?_ ?_
        · ((try (conv => rhs; simp (disch := omega) only [go_sem])); try rfl)
        · first | rfl | (conv => lhs; simp only [go_sem])
        repeat' (first | with_reducible refine acc_none ?_ | (conv in hold _ => simp (disch := omega) only [go_sem]) | refine Stp.go ?_ | (with_reducible first | refine it_pos rfl ?_ | refine it_neg (by decide) ?_ | refine st_nil rfl ?_ | refine s_op ?_ ?_ | exact True.intro) | ((with_reducible first | refine dw_reg0 ?_ | refine dw_regB ?_); (conv => arg 3; whnf)) | (refine Spl.go (fun hq he => ?_) (fun hq he => ?_) <;> first | (exfalso; clear hq; omega) | ((try (first | (conv => arg 8; simp only [hq]) | (conv => arg 4; simp only [hq]))); clear hq)) | ((with_reducible first | refine c_split (fun hq => ?_) (fun hq => ?_) | refine q_split (fun hq => ?_) (fun hq => ?_)) <;> (try (first | (conv => arg 8; simp only [hq]) | (conv => arg 4; simp only [hq])))) | (with_reducible refine fin_0 ?_ (by first | rfl | (conv => lhs; simp only [go_sem])) ?_) | exact Sub.refl _ | omega)
        refine ⟨hlt, upto_next hv hJ hok, Wk.list [1000000, 1000001] rfl rfl ?_⟩
        repeat' (first | (conv in hold _ => simp (disch := omega) only [go_sem]) | exact True.intro | exact Sub.refl _ | omega)
      · have h1 := validValue_ok v
        rw [decide_eq_false hok] at h1
        have hb : ¬ bindOk w vs e := fun h => hok (h.2.1 v (List.mem_of_getElem? hv))
        rw [if_neg hb, decide_eq_false hb]
        repeat' (first | with_reducible refine acc_none ?_ | (conv in hold _ => simp (disch := omega) only [go_sem, List.getElem?_map, hv, Option.map_some]) | refine Stp.go ?_ | (with_reducible first | refine it_pos rfl ?_ | refine it_neg (by decide) ?_ | refine st_nil rfl ?_ | refine s_op ?_ ?_ | exact True.intro) | ((with_reducible first | refine dw_reg0 ?_ | refine dw_regB ?_); (conv => arg 3; whnf)) | (refine Spl.go (fun hq he => ?_) (fun hq he => ?_) <;> first | (exfalso; clear hq; omega) | ((try (first | (conv => arg 8; simp only [hq]) | (conv => arg 4; simp only [hq]))); clear hq)) | ((with_reducible first | refine c_split (fun hq => ?_) (fun hq => ?_) | refine q_split (fun hq => ?_) (fun hq => ?_)) <;> (try (first | (conv => arg 8; simp only [hq]) | (conv => arg 4; simp only [hq])))) | (with_reducible refine fin_0 ?_ (by first | rfl | (conv => lhs; simp only [go_sem, List.getElem?_map, hv, Option.map_some])) ?_) | exact Sub.refl _ | omega)
        refine c_doesE (h1) ?_ ?_ ?_
        · ((try (conv => rhs; simp (disch := omega) only [go_sem])); try rfl)
        · first | rfl | (conv => lhs; simp only [go_sem])
        repeat' (first | with_reducible refine acc_none ?_ | (conv in hold _ => simp (disch := omega) only [go_sem]) | refine Stp.go ?_ | (with_reducible first | refine it_pos rfl ?_ | refine it_neg (by decide) ?_ | refine st_nil rfl ?_ | refine s_op ?_ ?_ | exact True.intro) | ((with_reducible first | refine dw_reg0 ?_ | refine dw_regB ?_); (conv => arg 3; whnf)) | (refine Spl.go (fun hq he => ?_) (fun hq he => ?_) <;> first | (exfalso; clear hq; omega) | ((try (first | (conv => arg 8; simp only [hq]) | (conv => arg 4; simp only [hq]))); clear hq)) | ((with_reducible first | refine c_split (fun hq => ?_) (fun hq => ?_) | refine q_split (fun hq => ?_) (fun hq => ?_)) <;> (try (first | (conv => arg 8; simp only [hq]) | (conv => arg 4; simp only [hq])))) | (with_reducible refine fin_0 ?_ (by first | rfl | (conv => lhs; simp only [go_sem])) ?_) | exact Sub.refl _ | omega)
        exact zE0_tup
    · have hvs : valsOk vs := upto_all hJ
      by_cases h0 : 1 ≤ w
      · by_cases he : (1 ≤ w + vs.length ∧ w + vs.length ≤ 6) ∧ eOk e (w + vs.length) 8
        · obtain ⟨n, rfl⟩ := Int.eq_ofNat_of_zero_le (show 0 ≤ w by omega)
          have hb : bindOk n vs e := ⟨h0, hvs, he⟩
          rw [decide_eq_true he] at hve
          rw [if_pos hb, decide_eq_true hb, ← sub_bind e ⟨8, he.2⟩]
          have hcf := columnsFrom_ok n (by omega)
          have hsub : Does Try.prog 59 [] [eD e, .sl 5 (byD n vs)] (eD (rwE (subTop (cols n ++ consts vs)) e)) [] := (substitute_ok (cols n ++ consts vs) (fun x hx => by
            rcases List.mem_append.1 hx with hx | hx
            · exact cols_small n x hx
            · exact consts_small vs x hx) e ⟨8, by
            rw [List.length_append, cols_len, consts_len]
            exact he.2⟩).weak ⟨Sub.refl _, byD_sub n vs, trivial⟩ (Sub.refl _)
          repeat' (first | with_reducible refine acc_none ?_ | (conv in hold _ => simp (disch := omega) only [go_sem]) | refine Stp.go ?_ | (with_reducible first | refine it_pos rfl ?_ | refine it_neg (by decide) ?_ | refine st_nil rfl ?_ | refine s_op ?_ ?_ | exact True.intro) | ((with_reducible first | refine dw_reg0 ?_ | refine dw_regB ?_); (conv => arg 3; whnf)) | (refine Spl.go (fun hq he => ?_) (fun hq he => ?_) <;> first | (exfalso; clear hq; omega) | ((try (first | (conv => arg 8; simp only [hq]) | (conv => arg 4; simp only [hq]))); clear hq)) | ((with_reducible first | refine c_split (fun hq => ?_) (fun hq => ?_) | refine q_split (fun hq => ?_) (fun hq => ?_)) <;> (try (first | (conv => arg 8; simp only [hq]) | (conv => arg 4; simp only [hq])))) | (with_reducible refine fin_0 ?_ (by first | rfl | (conv => lhs; simp only [go_sem])) ?_) | exact Sub.refl _ | omega)
          refine c_doesE (hve) ?_ ?_ ?_
          · ((try (conv => rhs; simp (disch := omega) only [go_sem])); try rfl)
          · first | rfl | (conv => lhs; simp only [go_sem])
          repeat' (first | with_reducible refine acc_none ?_ | (conv in hold _ => simp (disch := omega) only [go_sem]) | refine Stp.go ?_ | (with_reducible first | refine it_pos rfl ?_ | refine it_neg (by decide) ?_ | refine st_nil rfl ?_ | refine s_op ?_ ?_ | exact True.intro) | ((with_reducible first | refine dw_reg0 ?_ | refine dw_regB ?_); (conv => arg 3; whnf)) | (refine Spl.go (fun hq he => ?_) (fun hq he => ?_) <;> first | (exfalso; clear hq; omega) | ((try (first | (conv => arg 8; simp only [hq]) | (conv => arg 4; simp only [hq]))); clear hq)) | ((with_reducible first | refine c_split (fun hq => ?_) (fun hq => ?_) | refine q_split (fun hq => ?_) (fun hq => ?_)) <;> (try (first | (conv => arg 8; simp only [hq]) | (conv => arg 4; simp only [hq])))) | (with_reducible refine fin_0 ?_ (by first | rfl | (conv => lhs; simp only [go_sem])) ?_) | exact Sub.refl _ | omega)
          refine c_doesR [3000001] (hcf) (callOK_of rfl (Nat.le_of_ble_eq_true rfl) rfl ?_ ?_) ?_ ?_
          · repeat' (first | (conv in hold _ => simp (disch := omega) only [go_sem]) | exact True.intro | exact Sub.refl _ | omega)
          · repeat' (first | (conv in hold _ => simp (disch := omega) only [go_sem]) | exact True.intro | exact Sub.refl _ | omega)
          · ((conv => rhs; simp (disch := omega) only [go_sem]); try rfl)
          repeat' (first | with_reducible refine acc_none ?_ | (conv in hold _ => simp (disch := omega) only [go_sem]) | refine Stp.go ?_ | (with_reducible first | refine it_pos rfl ?_ | refine it_neg (by decide) ?_ | refine st_nil rfl ?_ | refine s_op ?_ ?_ | exact True.intro) | ((with_reducible first | refine dw_reg0 ?_ | refine dw_regB ?_); (conv => arg 3; whnf)) | (refine Spl.go (fun hq he => ?_) (fun hq he => ?_) <;> first | (exfalso; clear hq; omega) | ((try (first | (conv => arg 8; simp only [hq]) | (conv => arg 4; simp only [hq]))); clear hq)) | ((with_reducible first | refine c_split (fun hq => ?_) (fun hq => ?_) | refine q_split (fun hq => ?_) (fun hq => ?_)) <;> (try (first | (conv => arg 8; simp only [hq]) | (conv => arg 4; simp only [hq])))) | (with_reducible refine fin_0 ?_ (by first | rfl | (conv => lhs; simp only [go_sem])) ?_) | exact Sub.refl _ | omega)
          refine dw_for (c := 3) (l := fun i => [(2, rowD vs), (3, .ref 1000000 0), (6, .ref 1000001 0), (9, .own 1000002 5 (n + i)), (10, I i), (1000000, .obj [I e.k, I e.c, Bo e.v.b, I e.v.n, .sl 5 (e.ks.map eD)]), (1000001, .obj [I 0, I 0, Bo false, I 0, .nul]), (1000002, .row 5 (byD n (vs.take i)))]) vs.length (fun _ => True) 0 trivial (Wk.list [1000000, 1000001, 3000001] rfl rfl ?_) (fun i hi _ => ?_) (Nat.zero_le _)
          · have hb0 : byD n [] = (cols n).map eN := List.append_nil _
            repeat' (first | (conv in hold _ => simp (disch := omega) only [go_sem, hb0]) | exact True.intro | exact Sub.refl _ | omega)
            exact rfl
          · have hbl := byD_len n (vs.take i)
            have htl : (vs.take i).length = i := by rw [List.length_take]; omega
            have hbt : (byD n (vs.take i)).take (n + i) = byD n (vs.take i) := List.take_of_length_le (by omega)
            rcases at_or_end hi with ⟨v, hv, hlt⟩ | rfl
            · have hc := constant_ok v
              have hnx := byD_next n hv
              repeat' (first | with_reducible refine acc_none ?_ | (conv in hold _ => simp (disch := omega) only [go_sem, List.getElem?_map, hv, Option.map_some]) | refine Stp.go ?_ | (with_reducible first | refine it_pos rfl ?_ | refine it_neg (by decide) ?_ | refine st_nil rfl ?_ | refine s_op ?_ ?_ | exact True.intro) | ((with_reducible first | refine dw_reg0 ?_ | refine dw_regB ?_); (conv => arg 3; whnf)) | (refine Spl.go (fun hq he => ?_) (fun hq he => ?_) <;> first | (exfalso; clear hq; omega) | ((try (first | (conv => arg 8; simp only [hq]) | (conv => arg 4; simp only [hq]))); clear hq)) | ((with_reducible first | refine c_split (fun hq => ?_) (fun hq => ?_) | refine q_split (fun hq => ?_) (fun hq => ?_)) <;> (try (first | (conv => arg 8; simp only [hq]) | (conv => arg 4; simp only [hq])))) | (with_reducible refine fin_0 ?_ (by first | rfl | (conv => lhs; simp only [go_sem, List.getElem?_map, hv, Option.map_some])) ?_) | exact Sub.refl _ | omega)
              refine c_doesE (hc) ?_ ?_ ?_
              · ((try (conv => rhs; simp (disch := omega) only [go_sem, hbt])); try rfl)
              · first | rfl | (conv => lhs; simp only [go_sem, hbt])
              repeat' (first | with_reducible refine acc_none ?_ | (conv in hold _ => simp (disch := omega) only [go_sem, hbt]) | refine Stp.go ?_ | (with_reducible first | refine it_pos rfl ?_ | refine it_neg (by decide) ?_ | refine st_nil rfl ?_ | refine s_op ?_ ?_ | exact True.intro) | ((with_reducible first | refine dw_reg0 ?_ | refine dw_regB ?_); (conv => arg 3; whnf)) | (refine Spl.go (fun hq he => ?_) (fun hq he => ?_) <;> first | (exfalso; clear hq; omega) | ((try (first | (conv => arg 8; simp only [hq]) | (conv => arg 4; simp only [hq]))); clear hq)) | ((with_reducible first | refine c_split (fun hq => ?_) (fun hq => ?_) | refine q_split (fun hq => ?_) (fun hq => ?_)) <;> (try (first | (conv => arg 8; simp only [hq]) | (conv => arg 4; simp only [hq])))) | (with_reducible refine fin_0 ?_ (by first | rfl | (conv => lhs; simp only [go_sem, hbt])) ?_) | exact Sub.refl _ | omega)
              refine ⟨hlt, trivial, Wk.list [1000000, 1000001, 2000051] rfl rfl ?_⟩
              repeat' (first | (conv in hold _ => simp (disch := omega) only [go_sem, hbt, byD_ren]) | exact True.intro | exact Sub.refl _ | omega)
              rw [hnx]
              exact ⟨congrArg (fun k => D.own 2000051 5 k) (by omega), rfl⟩
            · have e1 : vs.take vs.length = vs := List.take_length
              rw [e1] at hbt hbl
              repeat' ((fail_if_success (with_reducible first | refine s_call ?_ | refine s_cal ?_ | refine s_inv ?_)); first | with_reducible refine acc_none ?_ | (conv in hold _ => simp (disch := omega) only [go_sem, e1]) | refine Stp.go ?_ | (with_reducible first | refine it_pos rfl ?_ | refine it_neg (by decide) ?_ | refine st_nil rfl ?_ | refine s_op ?_ ?_ | exact True.intro) | ((with_reducible first | refine dw_reg0 ?_ | refine dw_regB ?_); (conv => arg 3; whnf)) | (refine Spl.go (fun hq he => ?_) (fun hq he => ?_) <;> first | (exfalso; clear hq; omega) | ((try (first | (conv => arg 8; simp only [hq]) | (conv => arg 4; simp only [hq]))); clear hq)) | ((with_reducible first | refine c_split (fun hq => ?_) (fun hq => ?_) | refine q_split (fun hq => ?_) (fun hq => ?_)) <;> (try (first | (conv => arg 8; simp only [hq]) | (conv => arg 4; simp only [hq])))) | (with_reducible refine fin_0 ?_ (by first | rfl | (conv => lhs; simp only [go_sem, e1])) ?_) | exact Sub.refl _ | omega)
              refine s_pre (pre_frz (t := 53) (g := 1000002) (by decide) (by decide) rfl ?_) ?_
              rotate_left
              repeat' (first | with_reducible refine acc_none ?_ | (conv in hold _ => simp (disch := omega) only [go_sem, e1, hbt, hbl, Nat.le_refl]) | refine Stp.go ?_ | (with_reducible first | refine it_pos rfl ?_ | refine it_neg (by decide) ?_ | refine st_nil rfl ?_ | refine s_op ?_ ?_ | exact True.intro) | ((with_reducible first | refine dw_reg0 ?_ | refine dw_regB ?_); (conv => arg 3; whnf)) | (refine Spl.go (fun hq he => ?_) (fun hq he => ?_) <;> first | (exfalso; clear hq; omega) | ((try (first | (conv => arg 8; simp only [hq]) | (conv => arg 4; simp only [hq]))); clear hq)) | ((with_reducible first | refine c_split (fun hq => ?_) (fun hq => ?_) | refine q_split (fun hq => ?_) (fun hq => ?_)) <;> (try (first | (conv => arg 8; simp only [hq]) | (conv => arg 4; simp only [hq])))) | (with_reducible refine fin_0 ?_ (by first | rfl | (conv => lhs; simp only [go_sem, e1, hbt, hbl, Nat.le_refl])) ?_) | exact Sub.refl _ | omega)
              · refine c_doesE (hsub) ?_ ?_ ?_
                · ((try (conv => rhs; simp (disch := omega) only [go_sem])); try rfl)
                · first | rfl | (conv => lhs; simp only [go_sem])
                repeat' (first | with_reducible refine acc_none ?_ | (conv in hold _ => simp (disch := omega) only [go_sem]) | refine Stp.go ?_ | (with_reducible first | refine it_pos rfl ?_ | refine it_neg (by decide) ?_ | refine st_nil rfl ?_ | refine s_op ?_ ?_ | exact True.intro) | ((with_reducible first | refine dw_reg0 ?_ | refine dw_regB ?_); (conv => arg 3; whnf)) | (refine Spl.go (fun hq he => ?_) (fun hq he => ?_) <;> first | (exfalso; clear hq; omega) | ((try (first | (conv => arg 8; simp only [hq]) | (conv => arg 4; simp only [hq]))); clear hq)) | ((with_reducible first | refine c_split (fun hq => ?_) (fun hq => ?_) | refine q_split (fun hq => ?_) (fun hq => ?_)) <;> (try (first | (conv => arg 8; simp only [hq]) | (conv => arg 4; simp only [hq])))) | (with_reducible refine fin_0 ?_ (by first | rfl | (conv => lhs; simp only [go_sem])) ?_) | exact Sub.refl _ | omega)
              · exact byD_pur n vs
        · have hb : ¬ bindOk w vs e := fun h => he h.2.2
          rw [decide_eq_false he] at hve
          rw [if_neg hb, decide_eq_false hb]
          repeat' (first | with_reducible refine acc_none ?_ | (conv in hold _ => simp (disch := omega) only [go_sem]) | refine Stp.go ?_ | (with_reducible first | refine it_pos rfl ?_ | refine it_neg (by decide) ?_ | refine st_nil rfl ?_ | refine s_op ?_ ?_ | exact True.intro) | ((with_reducible first | refine dw_reg0 ?_ | refine dw_regB ?_); (conv => arg 3; whnf)) | (refine Spl.go (fun hq he => ?_) (fun hq he => ?_) <;> first | (exfalso; clear hq; omega) | ((try (first | (conv => arg 8; simp only [hq]) | (conv => arg 4; simp only [hq]))); clear hq)) | ((with_reducible first | refine c_split (fun hq => ?_) (fun hq => ?_) | refine q_split (fun hq => ?_) (fun hq => ?_)) <;> (try (first | (conv => arg 8; simp only [hq]) | (conv => arg 4; simp only [hq])))) | (with_reducible refine fin_0 ?_ (by first | rfl | (conv => lhs; simp only [go_sem])) ?_) | exact Sub.refl _ | omega)
          refine c_doesE (hve) ?_ ?_ ?_
          · ((try (conv => rhs; simp (disch := omega) only [go_sem])); try rfl)
          · first | rfl | (conv => lhs; simp only [go_sem])
          repeat' (first | with_reducible refine acc_none ?_ | (conv in hold _ => simp (disch := omega) only [go_sem]) | refine Stp.go ?_ | (with_reducible first | refine it_pos rfl ?_ | refine it_neg (by decide) ?_ | refine st_nil rfl ?_ | refine s_op ?_ ?_ | exact True.intro) | ((with_reducible first | refine dw_reg0 ?_ | refine dw_regB ?_); (conv => arg 3; whnf)) | (refine Spl.go (fun hq he => ?_) (fun hq he => ?_) <;> first | (exfalso; clear hq; omega) | ((try (first | (conv => arg 8; simp only [hq]) | (conv => arg 4; simp only [hq]))); clear hq)) | ((with_reducible first | refine c_split (fun hq => ?_) (fun hq => ?_) | refine q_split (fun hq => ?_) (fun hq => ?_)) <;> (try (first | (conv => arg 8; simp only [hq]) | (conv => arg 4; simp only [hq])))) | (with_reducible refine fin_0 ?_ (by first | rfl | (conv => lhs; simp only [go_sem])) ?_) | exact Sub.refl _ | omega)
          exact zE0_tup
      · have hb : ¬ bindOk w vs e := fun h => h0 h.1
        rw [if_neg hb, decide_eq_false hb]
        repeat' (first | with_reducible refine acc_none ?_ | (conv in hold _ => simp (disch := omega) only [go_sem]) | refine Stp.go ?_ | (with_reducible first | refine it_pos rfl ?_ | refine it_neg (by decide) ?_ | refine st_nil rfl ?_ | refine s_op ?_ ?_ | exact True.intro) | ((with_reducible first | refine dw_reg0 ?_ | refine dw_regB ?_); (conv => arg 3; whnf)) | (refine Spl.go (fun hq he => ?_) (fun hq he => ?_) <;> first | (exfalso; clear hq; omega) | ((try (first | (conv => arg 8; simp only [hq]) | (conv => arg 4; simp only [hq]))); clear hq)) | ((with_reducible first | refine c_split (fun hq => ?_) (fun hq => ?_) | refine q_split (fun hq => ?_) (fun hq => ?_)) <;> (try (first | (conv => arg 8; simp only [hq]) | (conv => arg 4; simp only [hq])))) | (with_reducible refine fin_0 ?_ (by first | rfl | (conv => lhs; simp only [go_sem])) ?_) | exact Sub.refl _ | omega)
        exact zE0_tup
end Go.Proofs.Ytnakdmodegfibaa
