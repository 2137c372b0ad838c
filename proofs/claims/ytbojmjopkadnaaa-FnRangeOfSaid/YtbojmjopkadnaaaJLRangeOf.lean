/-
  The law that the range of a condition holds all rows that it is true for. No condition.
-/
import Derived.Test.YtbojmjopkadnaaaDcWRg
import Derived.Test.YtbojmjopkadnaaaDca
import Derived.Test.YtbojmjopkadnaaaKVRgD
import Derived.Test.YtbojmjopkadnaaaVLaw
import Derived.Test.YtbojmjopkadnaaaOpenC
import Derived.Test.YtbojmjopkadnaaaFacts
set_option maxHeartbeats 4000000
set_option maxRecDepth 100000
set_option linter.unusedVariables false
set_option linter.unusedSimpArgs false
namespace Go.Proofs.Ytbojmjopkadnaaa
open Go.RowKit

theorem does_FnRangeOf (cs : List Nat) (hc : ∀ b, b ∈ cs → b < 256) : Does Try.prog 7 [] [bytesD cs] (Bo true) [] := by
  obtain ⟨t, e, c, hdr, hn, hw, hez, hc2⟩ := DrawIndexed_ok cs hc
  have hsz := hn.sz (by omega) (by omega)
  have hlen := hn.len
  have hV := ValidTable_impl t (by omega)
  have h1 := RangeOf_impl 2 c e
  have h2 := RangeOf_spec 2 c e
  cases hr : rgV 2 c e with
  | none =>
    rw [hr] at h1 h2
    unfold rtD rgD at h1 h2
    refine does0 c_laws_FnRangeOf mixed (Nat.le_of_ble_eq_true rfl) ?_
    conv => arg 3; whnf
    repeat' (first | with_reducible refine acc_none ?_ | (conv in hold _ => simp (disch := omega) only [go_sem, bytesD, beq_self_eq_true, bne_self_eq_false]) | refine Stp.go ?_ | (with_reducible first | refine it_pos rfl ?_ | refine it_neg (by decide) ?_ | refine st_nil rfl ?_ | refine s_op ?_ ?_ | exact True.intro) | ((with_reducible first | refine dw_reg0 ?_ | refine dw_regB ?_); (conv => arg 3; whnf)) | (refine Spl.go (fun hq he => ?_) (fun hq he => ?_) <;> first | (exfalso; clear hq; omega) | ((try (first | (conv => arg 8; simp only [hq]) | (conv => arg 4; simp only [hq]))); clear hq)) | ((with_reducible first | refine c_split (fun hq => ?_) (fun hq => ?_) | refine q_split (fun hq => ?_) (fun hq => ?_)) <;> (try (first | (conv => arg 8; simp only [hq]) | (conv => arg 4; simp only [hq])))) | (with_reducible refine fin_0 ?_ (by first | rfl | (conv => lhs; simp only [go_sem, bytesD, beq_self_eq_true, bne_self_eq_false])) ?_) | exact Sub.refl _ | omega)
    refine c_doesE (hdr) ?_ ?_ ?_
    · ((try (conv => rhs; simp (disch := omega) only [go_sem, bytesD, beq_self_eq_true, bne_self_eq_false])); try rfl)
    · first | rfl | (conv => lhs; simp only [go_sem, bytesD, beq_self_eq_true, bne_self_eq_false])
    repeat' (first | with_reducible refine acc_none ?_ | (conv in hold _ => simp (disch := omega) only [go_sem, bytesD, beq_self_eq_true, bne_self_eq_false]) | refine Stp.go ?_ | (with_reducible first | refine it_pos rfl ?_ | refine it_neg (by decide) ?_ | refine st_nil rfl ?_ | refine s_op ?_ ?_ | exact True.intro) | ((with_reducible first | refine dw_reg0 ?_ | refine dw_regB ?_); (conv => arg 3; whnf)) | (refine Spl.go (fun hq he => ?_) (fun hq he => ?_) <;> first | (exfalso; clear hq; omega) | ((try (first | (conv => arg 8; simp only [hq]) | (conv => arg 4; simp only [hq]))); clear hq)) | ((with_reducible first | refine c_split (fun hq => ?_) (fun hq => ?_) | refine q_split (fun hq => ?_) (fun hq => ?_)) <;> (try (first | (conv => arg 8; simp only [hq]) | (conv => arg 4; simp only [hq])))) | (with_reducible refine fin_0 ?_ (by first | rfl | (conv => lhs; simp only [go_sem, bytesD, beq_self_eq_true, bne_self_eq_false])) ?_) | exact Sub.refl _ | omega)
    refine c_doesE (h1) ?_ ?_ ?_
    · ((try (conv => rhs; simp (disch := omega) only [go_sem, bytesD, beq_self_eq_true, bne_self_eq_false])); try rfl)
    · first | rfl | (conv => lhs; simp only [go_sem, bytesD, beq_self_eq_true, bne_self_eq_false])
    repeat' (first | with_reducible refine acc_none ?_ | (conv in hold _ => simp (disch := omega) only [go_sem, bytesD, beq_self_eq_true, bne_self_eq_false]) | refine Stp.go ?_ | (with_reducible first | refine it_pos rfl ?_ | refine it_neg (by decide) ?_ | refine st_nil rfl ?_ | refine s_op ?_ ?_ | exact True.intro) | ((with_reducible first | refine dw_reg0 ?_ | refine dw_regB ?_); (conv => arg 3; whnf)) | (refine Spl.go (fun hq he => ?_) (fun hq he => ?_) <;> first | (exfalso; clear hq; omega) | ((try (first | (conv => arg 8; simp only [hq]) | (conv => arg 4; simp only [hq]))); clear hq)) | ((with_reducible first | refine c_split (fun hq => ?_) (fun hq => ?_) | refine q_split (fun hq => ?_) (fun hq => ?_)) <;> (try (first | (conv => arg 8; simp only [hq]) | (conv => arg 4; simp only [hq])))) | (with_reducible refine fin_0 ?_ (by first | rfl | (conv => lhs; simp only [go_sem, bytesD, beq_self_eq_true, bne_self_eq_false])) ?_) | exact Sub.refl _ | omega)
    refine c_doesE (h2) ?_ ?_ ?_
    · ((try (conv => rhs; simp (disch := omega) only [go_sem, bytesD, beq_self_eq_true, bne_self_eq_false])); try rfl)
    · first | rfl | (conv => lhs; simp only [go_sem, bytesD, beq_self_eq_true, bne_self_eq_false])
    repeat' (first | with_reducible refine acc_none ?_ | (conv in hold _ => simp (disch := omega) only [go_sem, bytesD, beq_self_eq_true, bne_self_eq_false]) | refine Stp.go ?_ | (with_reducible first | refine it_pos rfl ?_ | refine it_neg (by decide) ?_ | refine st_nil rfl ?_ | refine s_op ?_ ?_ | exact True.intro) | ((with_reducible first | refine dw_reg0 ?_ | refine dw_regB ?_); (conv => arg 3; whnf)) | (refine Spl.go (fun hq he => ?_) (fun hq he => ?_) <;> first | (exfalso; clear hq; omega) | ((try (first | (conv => arg 8; simp only [hq]) | (conv => arg 4; simp only [hq]))); clear hq)) | ((with_reducible first | refine c_split (fun hq => ?_) (fun hq => ?_) | refine q_split (fun hq => ?_) (fun hq => ?_)) <;> (try (first | (conv => arg 8; simp only [hq]) | (conv => arg 4; simp only [hq])))) | (with_reducible refine fin_0 ?_ (by first | rfl | (conv => lhs; simp only [go_sem, bytesD, beq_self_eq_true, bne_self_eq_false])) ?_) | exact Sub.refl _ | omega)
  | some r =>
    rw [hr] at h1 h2
    unfold rtD rgD at h1 h2
    by_cases htk : tOk t
    · rw [decide_eq_true htk] at hV
      by_cases hw2 : t.w = 2
      · have hwb : (t.w != 2) = false := by rw [hw2]; rfl
        have hv0 : ((1 ≤ (2 : Int) ∧ (2 : Int) ≤ 6) ∧ eOk e 2 8) ∧ (0 ≤ (c : Int) ∧ (c : Int) < 2) := by
          by_cases h : ((1 ≤ (2 : Int) ∧ (2 : Int) ≤ 6) ∧ eOk e 2 8) ∧ (0 ≤ (c : Int) ∧ (c : Int) < 2)
          · exact h
          · rw [show rgV 2 c e = none from if_neg h] at hr; cases hr
        have hra : (rgAll c (cj e)).2 = true ∧ (rgAll c (cj e)).1 = r := by
          rw [show rgV 2 c e = _ from if_pos hv0] at hr
          cases hb : (rgAll c (cj e)).2 with
          | true => rw [hb, if_pos rfl] at hr; exact ⟨rfl, Option.some.inj hr⟩
          | false => rw [hb, if_neg (by decide)] at hr; cases hr
        have hl4 : t.rows.length ≤ 400 := htk.1.2
        refine does0 c_laws_FnRangeOf mixed (Nat.le_of_ble_eq_true rfl) ?_
        conv => arg 3; whnf
        repeat' (first | with_reducible refine acc_none ?_ | (conv in hold _ => simp (disch := omega) only [go_sem, bytesD, beq_self_eq_true, bne_self_eq_false]) | refine Stp.go ?_ | (with_reducible first | refine it_pos rfl ?_ | refine it_neg (by decide) ?_ | refine st_nil rfl ?_ | refine s_op ?_ ?_ | exact True.intro) | ((with_reducible first | refine dw_reg0 ?_ | refine dw_regB ?_); (conv => arg 3; whnf)) | (refine Spl.go (fun hq he => ?_) (fun hq he => ?_) <;> first | (exfalso; clear hq; omega) | ((try (first | (conv => arg 8; simp only [hq]) | (conv => arg 4; simp only [hq]))); clear hq)) | ((with_reducible first | refine c_split (fun hq => ?_) (fun hq => ?_) | refine q_split (fun hq => ?_) (fun hq => ?_)) <;> (try (first | (conv => arg 8; simp only [hq]) | (conv => arg 4; simp only [hq])))) | (with_reducible refine fin_0 ?_ (by first | rfl | (conv => lhs; simp only [go_sem, bytesD, beq_self_eq_true, bne_self_eq_false])) ?_) | exact Sub.refl _ | omega)
        refine c_doesE (hdr) ?_ ?_ ?_
        · ((try (conv => rhs; simp (disch := omega) only [go_sem, bytesD, beq_self_eq_true, bne_self_eq_false])); try rfl)
        · first | rfl | (conv => lhs; simp only [go_sem, bytesD, beq_self_eq_true, bne_self_eq_false])
        repeat' (first | with_reducible refine acc_none ?_ | (conv in hold _ => simp (disch := omega) only [go_sem, bytesD, beq_self_eq_true, bne_self_eq_false]) | refine Stp.go ?_ | (with_reducible first | refine it_pos rfl ?_ | refine it_neg (by decide) ?_ | refine st_nil rfl ?_ | refine s_op ?_ ?_ | exact True.intro) | ((with_reducible first | refine dw_reg0 ?_ | refine dw_regB ?_); (conv => arg 3; whnf)) | (refine Spl.go (fun hq he => ?_) (fun hq he => ?_) <;> first | (exfalso; clear hq; omega) | ((try (first | (conv => arg 8; simp only [hq]) | (conv => arg 4; simp only [hq]))); clear hq)) | ((with_reducible first | refine c_split (fun hq => ?_) (fun hq => ?_) | refine q_split (fun hq => ?_) (fun hq => ?_)) <;> (try (first | (conv => arg 8; simp only [hq]) | (conv => arg 4; simp only [hq])))) | (with_reducible refine fin_0 ?_ (by first | rfl | (conv => lhs; simp only [go_sem, bytesD, beq_self_eq_true, bne_self_eq_false])) ?_) | exact Sub.refl _ | omega)
        refine c_doesE (h1) ?_ ?_ ?_
        · ((try (conv => rhs; simp (disch := omega) only [go_sem, bytesD, beq_self_eq_true, bne_self_eq_false])); try rfl)
        · first | rfl | (conv => lhs; simp only [go_sem, bytesD, beq_self_eq_true, bne_self_eq_false])
        repeat' (first | with_reducible refine acc_none ?_ | (conv in hold _ => simp (disch := omega) only [go_sem, bytesD, beq_self_eq_true, bne_self_eq_false]) | refine Stp.go ?_ | (with_reducible first | refine it_pos rfl ?_ | refine it_neg (by decide) ?_ | refine st_nil rfl ?_ | refine s_op ?_ ?_ | exact True.intro) | ((with_reducible first | refine dw_reg0 ?_ | refine dw_regB ?_); (conv => arg 3; whnf)) | (refine Spl.go (fun hq he => ?_) (fun hq he => ?_) <;> first | (exfalso; clear hq; omega) | ((try (first | (conv => arg 8; simp only [hq]) | (conv => arg 4; simp only [hq]))); clear hq)) | ((with_reducible first | refine c_split (fun hq => ?_) (fun hq => ?_) | refine q_split (fun hq => ?_) (fun hq => ?_)) <;> (try (first | (conv => arg 8; simp only [hq]) | (conv => arg 4; simp only [hq])))) | (with_reducible refine fin_0 ?_ (by first | rfl | (conv => lhs; simp only [go_sem, bytesD, beq_self_eq_true, bne_self_eq_false])) ?_) | exact Sub.refl _ | omega)
        refine c_doesE (h2) ?_ ?_ ?_
        · ((try (conv => rhs; simp (disch := omega) only [go_sem, bytesD, beq_self_eq_true, bne_self_eq_false])); try rfl)
        · first | rfl | (conv => lhs; simp only [go_sem, bytesD, beq_self_eq_true, bne_self_eq_false])
        repeat' (first | with_reducible refine acc_none ?_ | (conv in hold _ => simp (disch := omega) only [go_sem, bytesD, beq_self_eq_true, bne_self_eq_false]) | refine Stp.go ?_ | (with_reducible first | refine it_pos rfl ?_ | refine it_neg (by decide) ?_ | refine st_nil rfl ?_ | refine s_op ?_ ?_ | exact True.intro) | ((with_reducible first | refine dw_reg0 ?_ | refine dw_regB ?_); (conv => arg 3; whnf)) | (refine Spl.go (fun hq he => ?_) (fun hq he => ?_) <;> first | (exfalso; clear hq; omega) | ((try (first | (conv => arg 8; simp only [hq]) | (conv => arg 4; simp only [hq]))); clear hq)) | ((with_reducible first | refine c_split (fun hq => ?_) (fun hq => ?_) | refine q_split (fun hq => ?_) (fun hq => ?_)) <;> (try (first | (conv => arg 8; simp only [hq]) | (conv => arg 4; simp only [hq])))) | (with_reducible refine fin_0 ?_ (by first | rfl | (conv => lhs; simp only [go_sem, bytesD, beq_self_eq_true, bne_self_eq_false])) ?_) | exact Sub.refl _ | omega)
        refine c_doesE (hV) ?_ ?_ ?_
        · ((try (conv => rhs; simp (disch := omega) only [go_sem, bytesD, beq_self_eq_true, bne_self_eq_false, hwb])); try rfl)
        · first | rfl | (conv => lhs; simp only [go_sem, bytesD, beq_self_eq_true, bne_self_eq_false, hwb])
        repeat' (first | with_reducible refine acc_none ?_ | (conv in hold _ => simp (disch := omega) only [go_sem, bytesD, beq_self_eq_true, bne_self_eq_false, hwb]) | refine Stp.go ?_ | (with_reducible first | refine it_pos rfl ?_ | refine it_neg (by decide) ?_ | refine st_nil rfl ?_ | refine s_op ?_ ?_ | exact True.intro) | ((with_reducible first | refine dw_reg0 ?_ | refine dw_regB ?_); (conv => arg 3; whnf)) | (refine Spl.go (fun hq he => ?_) (fun hq he => ?_) <;> first | (exfalso; clear hq; omega) | ((try (first | (conv => arg 8; simp only [hq]) | (conv => arg 4; simp only [hq]))); clear hq)) | ((with_reducible first | refine c_split (fun hq => ?_) (fun hq => ?_) | refine q_split (fun hq => ?_) (fun hq => ?_)) <;> (try (first | (conv => arg 8; simp only [hq]) | (conv => arg 4; simp only [hq])))) | (with_reducible refine fin_0 ?_ (by first | rfl | (conv => lhs; simp only [go_sem, bytesD, beq_self_eq_true, bne_self_eq_false, hwb])) ?_) | exact Sub.refl _ | omega)
        refine dw_for (c := 3) (l := fun i => [(3, .ref 1000000 0), (4, .ref 1000001 0), (5, I c), (6, .ref 1000002 0), (10, I i), (1000000, .obj [I t.w, rowsD t.rows]), (1000001, .obj [I e.k, I e.c, Bo e.v.b, I e.v.n, .sl 5 (e.ks.map eD)]), (1000002, .obj [I r.1, I r.2])]) t.rows.length (fun _ => True) 0 trivial (Wk.list [2000003, 2000004, 2000006] rfl rfl ?_) (fun i hi _ => ?_) (Nat.zero_le _)
        · repeat' (first | (conv in hold _ => simp (disch := omega) only [go_sem, bytesD, beq_self_eq_true, bne_self_eq_false]) | exact True.intro | exact Sub.refl _ | omega)
          (repeat' apply And.intro) <;> rfl
        · rcases at_or_end hi with ⟨x, hx, hlt⟩ | rfl
          · have hxr := (htk.2 i x hx).1
            have hxl : x.length = 2 := by have := hxr.2; omega
            obtain ⟨v, hv⟩ : ∃ v, x[c]? = some v := ⟨_, List.getElem?_eq_getElem (by omega)⟩
            have hvo : v.ok := hxr.1.2 v (List.mem_of_getElem? hv)
            have hxo : rowOk x := hxr.1
            have hxT := isT_ok (e := e) (row := x) ⟨hxo, by rw [hxl]; exact hv0.1.2⟩
            cases hT : isT x e with
            | true =>
              have hso := rgAll_sound (w := 2) (d := 8) (col := c) (row := x) (v := v) hv hvo (cj e) ((-9999, 9999), false) (fun y hy => (cj_ok e 8 hv0.1.2 y hy).1) (by rw [← isT_cj e 8 hv0.1.2]; exact hT) ⟨hvo.lo, hvo.hi⟩ (fun h => by cases h)
              have hs1 : r.1 ≤ v.n ∧ v.n ≤ r.2 := by rw [← hra.2]; exact hso.1
              have hb : v.b = false := hso.2 hra.1
              obtain ⟨s1, s2⟩ := hs1
              rw [hT] at hxT
              repeat' (first | with_reducible refine acc_none ?_ | (conv in hold _ => simp (disch := omega) only [go_sem, bytesD, beq_self_eq_true, bne_self_eq_false, List.getElem?_map, hx, hv, Option.map_some, hb]) | refine Stp.go ?_ | (with_reducible first | refine it_pos rfl ?_ | refine it_neg (by decide) ?_ | refine st_nil rfl ?_ | refine s_op ?_ ?_ | exact True.intro) | ((with_reducible first | refine dw_reg0 ?_ | refine dw_regB ?_); (conv => arg 3; whnf)) | (refine Spl.go (fun hq he => ?_) (fun hq he => ?_) <;> first | (exfalso; clear hq; omega) | ((try (first | (conv => arg 8; simp only [hq]) | (conv => arg 4; simp only [hq]))); clear hq)) | ((with_reducible first | refine c_split (fun hq => ?_) (fun hq => ?_) | refine q_split (fun hq => ?_) (fun hq => ?_)) <;> (try (first | (conv => arg 8; simp only [hq]) | (conv => arg 4; simp only [hq])))) | (with_reducible refine fin_0 ?_ (by first | rfl | (conv => lhs; simp only [go_sem, bytesD, beq_self_eq_true, bne_self_eq_false, List.getElem?_map, hx, hv, Option.map_some, hb])) ?_) | exact Sub.refl _ | omega)
              refine c_doesE (hxT) ?_ ?_ ?_
              · ((try (conv => rhs; simp (disch := omega) only [go_sem, bytesD, beq_self_eq_true, bne_self_eq_false, hb])); try rfl)
              · first | rfl | (conv => lhs; simp only [go_sem, bytesD, beq_self_eq_true, bne_self_eq_false, hb])
              repeat' (first | with_reducible refine acc_none ?_ | (conv in hold _ => simp (disch := omega) only [go_sem, bytesD, beq_self_eq_true, bne_self_eq_false, hb]) | refine Stp.go ?_ | (with_reducible first | refine it_pos rfl ?_ | refine it_neg (by decide) ?_ | refine st_nil rfl ?_ | refine s_op ?_ ?_ | exact True.intro) | ((with_reducible first | refine dw_reg0 ?_ | refine dw_regB ?_); (conv => arg 3; whnf)) | (refine Spl.go (fun hq he => ?_) (fun hq he => ?_) <;> first | (exfalso; clear hq; omega) | ((try (first | (conv => arg 8; simp only [hq]) | (conv => arg 4; simp only [hq]))); clear hq)) | ((with_reducible first | refine c_split (fun hq => ?_) (fun hq => ?_) | refine q_split (fun hq => ?_) (fun hq => ?_)) <;> (try (first | (conv => arg 8; simp only [hq]) | (conv => arg 4; simp only [hq])))) | (with_reducible refine fin_0 ?_ (by first | rfl | (conv => lhs; simp only [go_sem, bytesD, beq_self_eq_true, bne_self_eq_false, hb])) ?_) | exact Sub.refl _ | omega)
              refine ⟨hlt, trivial, Wk.list [1000000, 1000001, 1000002] rfl rfl ?_⟩
              repeat' (first | (conv in hold _ => simp (disch := omega) only [go_sem, bytesD, beq_self_eq_true, bne_self_eq_false]) | exact True.intro | exact Sub.refl _ | omega)
            | false =>
              rw [hT] at hxT
              repeat' (first | with_reducible refine acc_none ?_ | (conv in hold _ => simp (disch := omega) only [go_sem, bytesD, beq_self_eq_true, bne_self_eq_false, List.getElem?_map, hx, hv, Option.map_some]) | refine Stp.go ?_ | (with_reducible first | refine it_pos rfl ?_ | refine it_neg (by decide) ?_ | refine st_nil rfl ?_ | refine s_op ?_ ?_ | exact True.intro) | ((with_reducible first | refine dw_reg0 ?_ | refine dw_regB ?_); (conv => arg 3; whnf)) | (refine Spl.go (fun hq he => ?_) (fun hq he => ?_) <;> first | (exfalso; clear hq; omega) | ((try (first | (conv => arg 8; simp only [hq]) | (conv => arg 4; simp only [hq]))); clear hq)) | ((with_reducible first | refine c_split (fun hq => ?_) (fun hq => ?_) | refine q_split (fun hq => ?_) (fun hq => ?_)) <;> (try (first | (conv => arg 8; simp only [hq]) | (conv => arg 4; simp only [hq])))) | (with_reducible refine fin_0 ?_ (by first | rfl | (conv => lhs; simp only [go_sem, bytesD, beq_self_eq_true, bne_self_eq_false, List.getElem?_map, hx, hv, Option.map_some])) ?_) | exact Sub.refl _ | omega)
              refine c_doesE (hxT) ?_ ?_ ?_
              · ((try (conv => rhs; simp (disch := omega) only [go_sem, bytesD, beq_self_eq_true, bne_self_eq_false])); try rfl)
              · first | rfl | (conv => lhs; simp only [go_sem, bytesD, beq_self_eq_true, bne_self_eq_false])
              repeat' (first | with_reducible refine acc_none ?_ | (conv in hold _ => simp (disch := omega) only [go_sem, bytesD, beq_self_eq_true, bne_self_eq_false]) | refine Stp.go ?_ | (with_reducible first | refine it_pos rfl ?_ | refine it_neg (by decide) ?_ | refine st_nil rfl ?_ | refine s_op ?_ ?_ | exact True.intro) | ((with_reducible first | refine dw_reg0 ?_ | refine dw_regB ?_); (conv => arg 3; whnf)) | (refine Spl.go (fun hq he => ?_) (fun hq he => ?_) <;> first | (exfalso; clear hq; omega) | ((try (first | (conv => arg 8; simp only [hq]) | (conv => arg 4; simp only [hq]))); clear hq)) | ((with_reducible first | refine c_split (fun hq => ?_) (fun hq => ?_) | refine q_split (fun hq => ?_) (fun hq => ?_)) <;> (try (first | (conv => arg 8; simp only [hq]) | (conv => arg 4; simp only [hq])))) | (with_reducible refine fin_0 ?_ (by first | rfl | (conv => lhs; simp only [go_sem, bytesD, beq_self_eq_true, bne_self_eq_false])) ?_) | exact Sub.refl _ | omega)
              refine ⟨hlt, trivial, Wk.list [1000000, 1000001, 1000002] rfl rfl ?_⟩
              repeat' (first | (conv in hold _ => simp (disch := omega) only [go_sem, bytesD, beq_self_eq_true, bne_self_eq_false]) | exact True.intro | exact Sub.refl _ | omega)
          · repeat' (first | with_reducible refine acc_none ?_ | (conv in hold _ => simp (disch := omega) only [go_sem, bytesD, beq_self_eq_true, bne_self_eq_false]) | refine Stp.go ?_ | (with_reducible first | refine it_pos rfl ?_ | refine it_neg (by decide) ?_ | refine st_nil rfl ?_ | refine s_op ?_ ?_ | exact True.intro) | ((with_reducible first | refine dw_reg0 ?_ | refine dw_regB ?_); (conv => arg 3; whnf)) | (refine Spl.go (fun hq he => ?_) (fun hq he => ?_) <;> first | (exfalso; clear hq; omega) | ((try (first | (conv => arg 8; simp only [hq]) | (conv => arg 4; simp only [hq]))); clear hq)) | ((with_reducible first | refine c_split (fun hq => ?_) (fun hq => ?_) | refine q_split (fun hq => ?_) (fun hq => ?_)) <;> (try (first | (conv => arg 8; simp only [hq]) | (conv => arg 4; simp only [hq])))) | (with_reducible refine fin_0 ?_ (by first | rfl | (conv => lhs; simp only [go_sem, bytesD, beq_self_eq_true, bne_self_eq_false])) ?_) | exact Sub.refl _ | omega)
      · have hwb : (t.w != 2) = true := by rw [bne_iff_ne]; exact hw2
        refine does0 c_laws_FnRangeOf mixed (Nat.le_of_ble_eq_true rfl) ?_
        conv => arg 3; whnf
        repeat' (first | with_reducible refine acc_none ?_ | (conv in hold _ => simp (disch := omega) only [go_sem, bytesD, beq_self_eq_true, bne_self_eq_false]) | refine Stp.go ?_ | (with_reducible first | refine it_pos rfl ?_ | refine it_neg (by decide) ?_ | refine st_nil rfl ?_ | refine s_op ?_ ?_ | exact True.intro) | ((with_reducible first | refine dw_reg0 ?_ | refine dw_regB ?_); (conv => arg 3; whnf)) | (refine Spl.go (fun hq he => ?_) (fun hq he => ?_) <;> first | (exfalso; clear hq; omega) | ((try (first | (conv => arg 8; simp only [hq]) | (conv => arg 4; simp only [hq]))); clear hq)) | ((with_reducible first | refine c_split (fun hq => ?_) (fun hq => ?_) | refine q_split (fun hq => ?_) (fun hq => ?_)) <;> (try (first | (conv => arg 8; simp only [hq]) | (conv => arg 4; simp only [hq])))) | (with_reducible refine fin_0 ?_ (by first | rfl | (conv => lhs; simp only [go_sem, bytesD, beq_self_eq_true, bne_self_eq_false])) ?_) | exact Sub.refl _ | omega)
        refine c_doesE (hdr) ?_ ?_ ?_
        · ((try (conv => rhs; simp (disch := omega) only [go_sem, bytesD, beq_self_eq_true, bne_self_eq_false])); try rfl)
        · first | rfl | (conv => lhs; simp only [go_sem, bytesD, beq_self_eq_true, bne_self_eq_false])
        repeat' (first | with_reducible refine acc_none ?_ | (conv in hold _ => simp (disch := omega) only [go_sem, bytesD, beq_self_eq_true, bne_self_eq_false]) | refine Stp.go ?_ | (with_reducible first | refine it_pos rfl ?_ | refine it_neg (by decide) ?_ | refine st_nil rfl ?_ | refine s_op ?_ ?_ | exact True.intro) | ((with_reducible first | refine dw_reg0 ?_ | refine dw_regB ?_); (conv => arg 3; whnf)) | (refine Spl.go (fun hq he => ?_) (fun hq he => ?_) <;> first | (exfalso; clear hq; omega) | ((try (first | (conv => arg 8; simp only [hq]) | (conv => arg 4; simp only [hq]))); clear hq)) | ((with_reducible first | refine c_split (fun hq => ?_) (fun hq => ?_) | refine q_split (fun hq => ?_) (fun hq => ?_)) <;> (try (first | (conv => arg 8; simp only [hq]) | (conv => arg 4; simp only [hq])))) | (with_reducible refine fin_0 ?_ (by first | rfl | (conv => lhs; simp only [go_sem, bytesD, beq_self_eq_true, bne_self_eq_false])) ?_) | exact Sub.refl _ | omega)
        refine c_doesE (h1) ?_ ?_ ?_
        · ((try (conv => rhs; simp (disch := omega) only [go_sem, bytesD, beq_self_eq_true, bne_self_eq_false])); try rfl)
        · first | rfl | (conv => lhs; simp only [go_sem, bytesD, beq_self_eq_true, bne_self_eq_false])
        repeat' (first | with_reducible refine acc_none ?_ | (conv in hold _ => simp (disch := omega) only [go_sem, bytesD, beq_self_eq_true, bne_self_eq_false]) | refine Stp.go ?_ | (with_reducible first | refine it_pos rfl ?_ | refine it_neg (by decide) ?_ | refine st_nil rfl ?_ | refine s_op ?_ ?_ | exact True.intro) | ((with_reducible first | refine dw_reg0 ?_ | refine dw_regB ?_); (conv => arg 3; whnf)) | (refine Spl.go (fun hq he => ?_) (fun hq he => ?_) <;> first | (exfalso; clear hq; omega) | ((try (first | (conv => arg 8; simp only [hq]) | (conv => arg 4; simp only [hq]))); clear hq)) | ((with_reducible first | refine c_split (fun hq => ?_) (fun hq => ?_) | refine q_split (fun hq => ?_) (fun hq => ?_)) <;> (try (first | (conv => arg 8; simp only [hq]) | (conv => arg 4; simp only [hq])))) | (with_reducible refine fin_0 ?_ (by first | rfl | (conv => lhs; simp only [go_sem, bytesD, beq_self_eq_true, bne_self_eq_false])) ?_) | exact Sub.refl _ | omega)
        refine c_doesE (h2) ?_ ?_ ?_
        · ((try (conv => rhs; simp (disch := omega) only [go_sem, bytesD, beq_self_eq_true, bne_self_eq_false])); try rfl)
        · first | rfl | (conv => lhs; simp only [go_sem, bytesD, beq_self_eq_true, bne_self_eq_false])
        repeat' (first | with_reducible refine acc_none ?_ | (conv in hold _ => simp (disch := omega) only [go_sem, bytesD, beq_self_eq_true, bne_self_eq_false]) | refine Stp.go ?_ | (with_reducible first | refine it_pos rfl ?_ | refine it_neg (by decide) ?_ | refine st_nil rfl ?_ | refine s_op ?_ ?_ | exact True.intro) | ((with_reducible first | refine dw_reg0 ?_ | refine dw_regB ?_); (conv => arg 3; whnf)) | (refine Spl.go (fun hq he => ?_) (fun hq he => ?_) <;> first | (exfalso; clear hq; omega) | ((try (first | (conv => arg 8; simp only [hq]) | (conv => arg 4; simp only [hq]))); clear hq)) | ((with_reducible first | refine c_split (fun hq => ?_) (fun hq => ?_) | refine q_split (fun hq => ?_) (fun hq => ?_)) <;> (try (first | (conv => arg 8; simp only [hq]) | (conv => arg 4; simp only [hq])))) | (with_reducible refine fin_0 ?_ (by first | rfl | (conv => lhs; simp only [go_sem, bytesD, beq_self_eq_true, bne_self_eq_false])) ?_) | exact Sub.refl _ | omega)
        refine c_doesE (hV) ?_ ?_ ?_
        · ((try (conv => rhs; simp (disch := omega) only [go_sem, bytesD, beq_self_eq_true, bne_self_eq_false, hwb])); try rfl)
        · first | rfl | (conv => lhs; simp only [go_sem, bytesD, beq_self_eq_true, bne_self_eq_false, hwb])
        repeat' (first | with_reducible refine acc_none ?_ | (conv in hold _ => simp (disch := omega) only [go_sem, bytesD, beq_self_eq_true, bne_self_eq_false, hwb]) | refine Stp.go ?_ | (with_reducible first | refine it_pos rfl ?_ | refine it_neg (by decide) ?_ | refine st_nil rfl ?_ | refine s_op ?_ ?_ | exact True.intro) | ((with_reducible first | refine dw_reg0 ?_ | refine dw_regB ?_); (conv => arg 3; whnf)) | (refine Spl.go (fun hq he => ?_) (fun hq he => ?_) <;> first | (exfalso; clear hq; omega) | ((try (first | (conv => arg 8; simp only [hq]) | (conv => arg 4; simp only [hq]))); clear hq)) | ((with_reducible first | refine c_split (fun hq => ?_) (fun hq => ?_) | refine q_split (fun hq => ?_) (fun hq => ?_)) <;> (try (first | (conv => arg 8; simp only [hq]) | (conv => arg 4; simp only [hq])))) | (with_reducible refine fin_0 ?_ (by first | rfl | (conv => lhs; simp only [go_sem, bytesD, beq_self_eq_true, bne_self_eq_false, hwb])) ?_) | exact Sub.refl _ | omega)
    · rw [decide_eq_false htk] at hV
      refine does0 c_laws_FnRangeOf mixed (Nat.le_of_ble_eq_true rfl) ?_
      conv => arg 3; whnf
      repeat' (first | with_reducible refine acc_none ?_ | (conv in hold _ => simp (disch := omega) only [go_sem, bytesD, beq_self_eq_true, bne_self_eq_false]) | refine Stp.go ?_ | (with_reducible first | refine it_pos rfl ?_ | refine it_neg (by decide) ?_ | refine st_nil rfl ?_ | refine s_op ?_ ?_ | exact True.intro) | ((with_reducible first | refine dw_reg0 ?_ | refine dw_regB ?_); (conv => arg 3; whnf)) | (refine Spl.go (fun hq he => ?_) (fun hq he => ?_) <;> first | (exfalso; clear hq; omega) | ((try (first | (conv => arg 8; simp only [hq]) | (conv => arg 4; simp only [hq]))); clear hq)) | ((with_reducible first | refine c_split (fun hq => ?_) (fun hq => ?_) | refine q_split (fun hq => ?_) (fun hq => ?_)) <;> (try (first | (conv => arg 8; simp only [hq]) | (conv => arg 4; simp only [hq])))) | (with_reducible refine fin_0 ?_ (by first | rfl | (conv => lhs; simp only [go_sem, bytesD, beq_self_eq_true, bne_self_eq_false])) ?_) | exact Sub.refl _ | omega)
      refine c_doesE (hdr) ?_ ?_ ?_
      · ((try (conv => rhs; simp (disch := omega) only [go_sem, bytesD, beq_self_eq_true, bne_self_eq_false])); try rfl)
      · first | rfl | (conv => lhs; simp only [go_sem, bytesD, beq_self_eq_true, bne_self_eq_false])
      repeat' (first | with_reducible refine acc_none ?_ | (conv in hold _ => simp (disch := omega) only [go_sem, bytesD, beq_self_eq_true, bne_self_eq_false]) | refine Stp.go ?_ | (with_reducible first | refine it_pos rfl ?_ | refine it_neg (by decide) ?_ | refine st_nil rfl ?_ | refine s_op ?_ ?_ | exact True.intro) | ((with_reducible first | refine dw_reg0 ?_ | refine dw_regB ?_); (conv => arg 3; whnf)) | (refine Spl.go (fun hq he => ?_) (fun hq he => ?_) <;> first | (exfalso; clear hq; omega) | ((try (first | (conv => arg 8; simp only [hq]) | (conv => arg 4; simp only [hq]))); clear hq)) | ((with_reducible first | refine c_split (fun hq => ?_) (fun hq => ?_) | refine q_split (fun hq => ?_) (fun hq => ?_)) <;> (try (first | (conv => arg 8; simp only [hq]) | (conv => arg 4; simp only [hq])))) | (with_reducible refine fin_0 ?_ (by first | rfl | (conv => lhs; simp only [go_sem, bytesD, beq_self_eq_true, bne_self_eq_false])) ?_) | exact Sub.refl _ | omega)
      refine c_doesE (h1) ?_ ?_ ?_
      · ((try (conv => rhs; simp (disch := omega) only [go_sem, bytesD, beq_self_eq_true, bne_self_eq_false])); try rfl)
      · first | rfl | (conv => lhs; simp only [go_sem, bytesD, beq_self_eq_true, bne_self_eq_false])
      repeat' (first | with_reducible refine acc_none ?_ | (conv in hold _ => simp (disch := omega) only [go_sem, bytesD, beq_self_eq_true, bne_self_eq_false]) | refine Stp.go ?_ | (with_reducible first | refine it_pos rfl ?_ | refine it_neg (by decide) ?_ | refine st_nil rfl ?_ | refine s_op ?_ ?_ | exact True.intro) | ((with_reducible first | refine dw_reg0 ?_ | refine dw_regB ?_); (conv => arg 3; whnf)) | (refine Spl.go (fun hq he => ?_) (fun hq he => ?_) <;> first | (exfalso; clear hq; omega) | ((try (first | (conv => arg 8; simp only [hq]) | (conv => arg 4; simp only [hq]))); clear hq)) | ((with_reducible first | refine c_split (fun hq => ?_) (fun hq => ?_) | refine q_split (fun hq => ?_) (fun hq => ?_)) <;> (try (first | (conv => arg 8; simp only [hq]) | (conv => arg 4; simp only [hq])))) | (with_reducible refine fin_0 ?_ (by first | rfl | (conv => lhs; simp only [go_sem, bytesD, beq_self_eq_true, bne_self_eq_false])) ?_) | exact Sub.refl _ | omega)
      refine c_doesE (h2) ?_ ?_ ?_
      · ((try (conv => rhs; simp (disch := omega) only [go_sem, bytesD, beq_self_eq_true, bne_self_eq_false])); try rfl)
      · first | rfl | (conv => lhs; simp only [go_sem, bytesD, beq_self_eq_true, bne_self_eq_false])
      repeat' (first | with_reducible refine acc_none ?_ | (conv in hold _ => simp (disch := omega) only [go_sem, bytesD, beq_self_eq_true, bne_self_eq_false]) | refine Stp.go ?_ | (with_reducible first | refine it_pos rfl ?_ | refine it_neg (by decide) ?_ | refine st_nil rfl ?_ | refine s_op ?_ ?_ | exact True.intro) | ((with_reducible first | refine dw_reg0 ?_ | refine dw_regB ?_); (conv => arg 3; whnf)) | (refine Spl.go (fun hq he => ?_) (fun hq he => ?_) <;> first | (exfalso; clear hq; omega) | ((try (first | (conv => arg 8; simp only [hq]) | (conv => arg 4; simp only [hq]))); clear hq)) | ((with_reducible first | refine c_split (fun hq => ?_) (fun hq => ?_) | refine q_split (fun hq => ?_) (fun hq => ?_)) <;> (try (first | (conv => arg 8; simp only [hq]) | (conv => arg 4; simp only [hq])))) | (with_reducible refine fin_0 ?_ (by first | rfl | (conv => lhs; simp only [go_sem, bytesD, beq_self_eq_true, bne_self_eq_false])) ?_) | exact Sub.refl _ | omega)
      refine c_doesE (hV) ?_ ?_ ?_
      · ((try (conv => rhs; simp (disch := omega) only [go_sem, bytesD, beq_self_eq_true, bne_self_eq_false])); try rfl)
      · first | rfl | (conv => lhs; simp only [go_sem, bytesD, beq_self_eq_true, bne_self_eq_false])
      repeat' (first | with_reducible refine acc_none ?_ | (conv in hold _ => simp (disch := omega) only [go_sem, bytesD, beq_self_eq_true, bne_self_eq_false]) | refine Stp.go ?_ | (with_reducible first | refine it_pos rfl ?_ | refine it_neg (by decide) ?_ | refine st_nil rfl ?_ | refine s_op ?_ ?_ | exact True.intro) | ((with_reducible first | refine dw_reg0 ?_ | refine dw_regB ?_); (conv => arg 3; whnf)) | (refine Spl.go (fun hq he => ?_) (fun hq he => ?_) <;> first | (exfalso; clear hq; omega) | ((try (first | (conv => arg 8; simp only [hq]) | (conv => arg 4; simp only [hq]))); clear hq)) | ((with_reducible first | refine c_split (fun hq => ?_) (fun hq => ?_) | refine q_split (fun hq => ?_) (fun hq => ?_)) <;> (try (first | (conv => arg 8; simp only [hq]) | (conv => arg 4; simp only [hq])))) | (with_reducible refine fin_0 ?_ (by first | rfl | (conv => lhs; simp only [go_sem, bytesD, beq_self_eq_true, bne_self_eq_false])) ?_) | exact Sub.refl _ | omega)
theorem walk_FnRangeOf (a : Option Addr) (len cap : Nat) (zs : List Int) (w : World) (h : IsRow .u8 w a len cap zs) :
    Calls Try.prog 7 #[.slice a len cap] w fun e W' => e = .returned (.bool true) ∧ Below w.heap.size w W' := walk_of does_FnRangeOf a len cap zs w h
end Go.Proofs.Ytbojmjopkadnaaa
namespace Go.Proofs.Ytbojmjopkadnaaa.fnRangeOf
open Go.ChangeShapes Go.WideShapes Go.ChangeAt Go.RowKit Go.Joins
set_option linter.unusedVariables false
set_option maxHeartbeats 4000000

set_option maxRecDepth 100000 in
theorem lifted (os : Os) (started : os.Started) (H : Type) (enc : TypeId × Value → H) :
    ReturnsInHanded {} Try.checked os 7 .any (Rows.fnRangeOfSpec.pre6 enc Try.prog Try.f7 Rows.fnRangeOfRow.domain false) (Rows.fnRangeOfSpec.post enc Try.prog Try.f7 false true false false) := by
  refine returnsInHanded_of_change (C := Try.checked) own started (by kernel_rfl) Try.func7
    (ChangeSpec.witness6 (enc := enc) (C := Try.checked) false ⟨#[], #[.slice none 0 0], []⟩ 8 (by kernel_rfl) (by kernel_rfl) (by kernel_rfl) (by kernel_rfl)) ?_
  intro W base args ds gs before hval0 hW hcnd _
  have hval : ∀ (j : Nat) t v, Try.f7.params[j]? = some t → args[j]? = some v → Value.okWide Try.prog W .any base t v := hval0
  have hW' := hW
  obtain ⟨p, q, hA0, hV, rfl, hfz, hnd⟩ := hW
  have hA : DataW.TrodAll enc Try.prog W 0 (fun _ => true) true Try.f7.params.toList args.toList ds p := hA0
  rw [Try.params7] at hA hval
  obtain ⟨v0, vs0, d0, ds0, p0, q0, hargs, rfl, rfl, h0, r0⟩ := trodAll_cons hA
  obtain ⟨rfl, rfl, rfl⟩ := trodAll_nil r0
  obtain rfl : args = #[v0] := by cases args; simp_all
  obtain ⟨rfl, rfl⟩ := trodVars_none hV
  have k0 := h0
  have lt0 : ∀ x ∈ p0, x.block < W.heap.size := by obtain ⟨m, hm⟩ := k0; exact DataW.trod_lt m _ _ _ hm
  obtain ⟨a0, len0, cap0, z0, hv0, wr0⟩ := open_code (hval 0 22 v0 rfl rfl) h0
  subst hv0
  clear hA0 hval0
  refine (walk_FnRangeOf a0 len0 cap0 z0 W wr0).mono fun e W' ⟨he, bel⟩ => ?_
  subst he
  exact ⟨_, rfl, _, _, _, [], _, [], hW', trodAll_mk1 (shut_bool Try.underlying4 _), (trodAll_cons_mk (Below.trod laidOut (by kernel_rfl) (of_decide_eq_true (by kernel_rfl)) k0 bel lt0) trodAll_mk0), rfl, bel.frame _, fun h => by cases h⟩

theorem closed : joinedFacts Try.prog 7 Try.f7 Rows.fnRangeOfSpec Rows.fnRangeOfRow = true := by
  unfold joinedFacts
  exact Facts.and2 (Facts.and2 (Facts.and2 (Facts.and2 (Facts.and2 (Facts.and2 (Facts.and2 (Facts.and2 (Facts.and2 (Facts.and2 (Facts.and2 (Facts.and2 (Facts.and2 (Facts.and2 (Facts.and2 (Facts.and2 (Facts.and2 (Facts.and2 (Facts.and2 (Facts.and2 (Facts.and2 (Facts.and2 (Facts.and2 (Facts.and2 (Facts.and2 (Facts.and2 (Facts.and2 (Facts.and2 (Facts.and2 (Facts.and2 (Facts.and2 ((by as_aux_lemma => kernel_rfl)) Facts.p2) Facts.p3) (by as_aux_lemma => kernel_rfl)) (by as_aux_lemma => kernel_rfl)) (by as_aux_lemma => kernel_rfl)) Facts.p7) (by as_aux_lemma => kernel_rfl)) Facts.p9) (by as_aux_lemma => kernel_rfl)) (by as_aux_lemma => kernel_rfl)) (by as_aux_lemma => kernel_rfl)) (by as_aux_lemma => kernel_rfl)) (by as_aux_lemma => kernel_rfl)) (by as_aux_lemma => kernel_rfl)) (by as_aux_lemma => kernel_rfl)) (by as_aux_lemma => kernel_rfl)) (by as_aux_lemma => kernel_rfl)) (by as_aux_lemma => kernel_rfl)) (by as_aux_lemma => kernel_rfl)) (by as_aux_lemma => kernel_rfl)) (by as_aux_lemma => kernel_rfl)) Facts.p22) (by as_aux_lemma => kernel_rfl)) Facts.p23b) Facts.p24) Facts.p24b) Facts.p24c) (by as_aux_lemma => kernel_rfl)) (by as_aux_lemma => kernel_rfl)) (by as_aux_lemma => kernel_rfl)) (by as_aux_lemma => kernel_rfl)

theorem over : Rows.fnRangeOfRow.holds Try.pinned (OpenSpec.ofChange Rows.fnRangeOfSpec) :=
  OpenClaim.holds_of_wide 7 Try.f7 rfl rfl rfl rfl rfl rfl rfl ⟨rfl, rfl, rfl, rfl, rfl⟩ rfl rfl rfl rfl rfl (by as_aux_lemma => kernel_rfl) Try.func7 closed
    (of_decide_eq_true (by as_aux_lemma => kernel_rfl)) (by unfold Func.isWrapper; rw [if_neg (of_decide_eq_false (by as_aux_lemma => kernel_rfl))]; exact ⟨rfl, rfl⟩)
    (fun os started H enc _ => lifted os started H enc)

theorem proved : Rows.FnRangeOfSaid := over
end Go.Proofs.Ytbojmjopkadnaaa.fnRangeOf
