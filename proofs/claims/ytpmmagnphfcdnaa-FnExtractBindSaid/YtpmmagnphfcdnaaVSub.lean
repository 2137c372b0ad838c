/-
  Columns replaced by expressions; columns behind those of a row bound to values, in both packages. No condition.
-/
import Derived.Test.YtpmmagnphfcdnaaDca
import Derived.Test.YtpmmagnphfcdnaaDcc
import Derived.Test.YtpmmagnphfcdnaaVRw
import Derived.Test.YtpmmagnphfcdnaaVFold1
import Derived.Test.YtpmmagnphfcdnaaVVa
set_option maxHeartbeats 4000000
set_option maxRecDepth 100000
set_option linter.unusedVariables false
set_option linter.unusedSimpArgs false
namespace Go.Proofs.Ytpmmagnphfcdnaa
open Go.RowKit

/-- A column is replaced by an expression. -/
def subTop (by_ : List E) (e : E) : E := if e.k = 1 then by_.getD e.c.toNat e else e
def bindTop (w : Int) (vs : List V) (e : E) : E := if e.k = 1 ∧ w ≤ e.c then .mk 2 0 (vs.getD (e.c - w).toNat ⟨false, 0⟩) [] else e
def cols (n : Nat) : List E := (List.range n).map (fun i : Nat => .mk 1 (i : Int) ⟨false, 0⟩ [])
def consts (vs : List V) : List E := vs.map (fun v => .mk 2 0 v [])
theorem eOk_len {e : E} {w : Int} {d : Nat} (h : eOk e w d) : e.ks.length ≤ 2 := by
  have h1 := ((eOk_iff e w d).1 h).1
  have := kidsN_le e.k
  omega
theorem eOk_col {e : E} {w : Int} {d : Nat} (h : eOk e w d) (hk : e.k = 1) : (0 ≤ e.c ∧ e.c < w) ∧ e.v = ⟨false, 0⟩ ∧ e.ks = [] := by
  have h1 := (eOk_iff e w d).1 h
  have h2 := h1.2.2.2
  unfold leafOk at h2
  rw [if_pos hk] at h2
  refine ⟨by omega, ?_, List.length_eq_zero_iff.1 (by have := h1.1; rw [kidsN_leaf (.inl hk)] at this; omega)⟩
  obtain ⟨_, _, hb, hn⟩ := h2
  cases hv : e.v
  rw [hv] at hb hn
  simp only at hb hn
  rw [hb, hn]
def OkAt (n : Int) (e : E) : Prop := ∃ d, eOk e n d
theorem OkAt.kid {n : Int} {e x : E} (h : OkAt n e) (hx : x ∈ e.ks) : OkAt n x := by
  obtain ⟨d, h⟩ := h
  exact ⟨d - 1, ((eOk_iff e n d).1 h).2.2.1 x hx⟩
theorem OkAt.len {n : Int} {e : E} (h : OkAt n e) : e.ks.length ≤ 2 := by obtain ⟨d, h⟩ := h; exact eOk_len h
theorem OkAt.col {n : Int} {e : E} (h : OkAt n e) (hk : e.k = 1) : (0 ≤ e.c ∧ e.c < n) ∧ e.v = ⟨false, 0⟩ ∧ e.ks = [] := by obtain ⟨d, h⟩ := h; exact eOk_col h hk
/-- The model's substitute. -/
theorem substitute_ok (by_ : List E) (hb : ∀ x, x ∈ by_ → esz x < 1000000) : ∀ e : E, OkAt by_.length e → Does Try.prog 35 [] [eD e, .sl 5 (by_.map eD)] (eD (rwE (subTop by_) e)) [] := by
  refine E.ind (fun e ih h => ?_)
  by_cases hk : e.k = 1
  · obtain ⟨hc, hv, hks⟩ := h.col hk
    obtain ⟨x, hx⟩ : ∃ x, by_[e.c.toNat]? = some x := ⟨_, List.getElem?_eq_getElem (by omega)⟩
    have hcp := copyExpr_ok x (hb x (List.mem_of_getElem? hx))
    have he : rwE (subTop by_) e = x := by
      rw [rwE_eq, hks]
      unfold subTop
      rw [E.k_mk, if_pos hk, E.c_mk, List.getD_eq_getElem?_getD, hx]
      rfl
    rw [he]
    refine does0 c_spec_substitute mixed (Nat.le_of_ble_eq_true rfl) ?_
    conv => arg 3; whnf
    repeat' (first | with_reducible refine acc_none ?_ | (conv in hold _ => simp (disch := omega) only [go_sem, List.getElem?_map, hx, Option.map_some]) | refine Stp.go ?_ | (with_reducible first | refine it_pos rfl ?_ | refine it_neg (by decide) ?_ | refine st_nil rfl ?_ | refine s_op ?_ ?_ | exact True.intro) | ((with_reducible first | refine dw_reg0 ?_ | refine dw_regB ?_); (conv => arg 3; whnf)) | (refine Spl.go (fun hq he => ?_) (fun hq he => ?_) <;> first | (exfalso; clear hq; omega) | ((try (first | (conv => arg 8; simp only [hq]) | (conv => arg 4; simp only [hq]))); clear hq)) | ((with_reducible first | refine c_split (fun hq => ?_) (fun hq => ?_) | refine q_split (fun hq => ?_) (fun hq => ?_)) <;> (try (first | (conv => arg 8; simp only [hq]) | (conv => arg 4; simp only [hq])))) | (with_reducible refine fin_0 ?_ (by first | rfl | (conv => lhs; simp only [go_sem, List.getElem?_map, hx, Option.map_some])) ?_) | exact Sub.refl _ | omega)
    refine c_doesE (hcp) ?_ ?_ ?_
    · ((try (conv => rhs; simp (disch := omega) only [go_sem])); try rfl)
    · first | rfl | (conv => lhs; simp only [go_sem])
    repeat' (first | with_reducible refine acc_none ?_ | (conv in hold _ => simp (disch := omega) only [go_sem]) | refine Stp.go ?_ | (with_reducible first | refine it_pos rfl ?_ | refine it_neg (by decide) ?_ | refine st_nil rfl ?_ | refine s_op ?_ ?_ | exact True.intro) | ((with_reducible first | refine dw_reg0 ?_ | refine dw_regB ?_); (conv => arg 3; whnf)) | (refine Spl.go (fun hq he => ?_) (fun hq he => ?_) <;> first | (exfalso; clear hq; omega) | ((try (first | (conv => arg 8; simp only [hq]) | (conv => arg 4; simp only [hq]))); clear hq)) | ((with_reducible first | refine c_split (fun hq => ?_) (fun hq => ?_) | refine q_split (fun hq => ?_) (fun hq => ?_)) <;> (try (first | (conv => arg 8; simp only [hq]) | (conv => arg 4; simp only [hq])))) | (with_reducible refine fin_0 ?_ (by first | rfl | (conv => lhs; simp only [go_sem])) ?_) | exact Sub.refl _ | omega)
  · have hlen := h.len
    have he : rwE (subTop by_) e = .mk e.k e.c e.v (rwL (subTop by_) e.ks) := by
      rw [rwE_eq]
      exact if_neg hk
    have hfl := rwL_map (subTop by_) e.ks
    have hll : (rwL (subTop by_) e.ks).length = e.ks.length := by rw [hfl, List.length_map]
    rw [he]
    refine does0 c_spec_substitute mixed (Nat.le_of_ble_eq_true rfl) ?_
    conv => arg 3; whnf
    repeat' (first | with_reducible refine acc_none ?_ | (conv in hold _ => simp (disch := omega) only [go_sem]) | refine Stp.go ?_ | (with_reducible first | refine it_pos rfl ?_ | refine it_neg (by decide) ?_ | refine st_nil rfl ?_ | refine s_op ?_ ?_ | exact True.intro) | ((with_reducible first | refine dw_reg0 ?_ | refine dw_regB ?_); (conv => arg 3; whnf)) | (refine Spl.go (fun hq he => ?_) (fun hq he => ?_) <;> first | (exfalso; clear hq; omega) | ((try (first | (conv => arg 8; simp only [hq]) | (conv => arg 4; simp only [hq]))); clear hq)) | ((with_reducible first | refine c_split (fun hq => ?_) (fun hq => ?_) | refine q_split (fun hq => ?_) (fun hq => ?_)) <;> (try (first | (conv => arg 8; simp only [hq]) | (conv => arg 4; simp only [hq])))) | (with_reducible refine fin_0 ?_ (by first | rfl | (conv => lhs; simp only [go_sem])) ?_) | exact Sub.refl _ | omega)
    refine dw_for (c := 4) (l := fun i => [(1, .sl 5 (by_.map eD)), (2, .ref 1000000 0), (4, .ref 1000001 0), (5, .ref 1000002 0), (6, I i), (1000000, .obj [I e.k, I e.c, Bo e.v.b, I e.v.n, .sl 5 (e.ks.map eD)]), (1000001, .obj [I 0, I 0, Bo false, I 0, .nul]), (1000002, .obj [I e.k, I e.c, Bo e.v.b, I e.v.n, .own 1000003 5 i]), (1000003, .row 5 (((rwL (subTop by_) e.ks).take i).map eD))]) e.ks.length (fun _ => True) 0 trivial ((wk_rowO 2000005 2000040 5 4 (by decide) (by decide) (by decide) rfl rfl rfl).trans (Wk.list [2000002, 2000004, 2000005, 2000040] rfl rfl ?_)) (fun i hi _ => ?_) (Nat.zero_le _)
    · repeat' (first | (conv in hold _ => simp (disch := omega) only [go_sem]) | exact True.intro | exact Sub.refl _ | omega)
      exact rfl
    · have hlt := take_len (vs := rwL (subTop by_) e.ks) (i := i) (by omega)
      have hmt := take_map eD (vs := rwL (subTop by_) e.ks) (i := i) (by omega)
      rcases at_or_end hi with ⟨x, hx, hlt1⟩ | rfl
      · have hix := ih x (List.mem_of_getElem? hx) (h.kid (List.mem_of_getElem? hx))
        have hfx : (rwL (subTop by_) e.ks)[i]? = some (rwE (subTop by_) x) := by rw [hfl, List.getElem?_map, hx]; rfl
        have hnx := take_next hfx
        repeat' (first | with_reducible refine acc_none ?_ | (conv in hold _ => simp (disch := omega) only [go_sem, List.getElem?_map, hx, Option.map_some]) | refine Stp.go ?_ | (with_reducible first | refine it_pos rfl ?_ | refine it_neg (by decide) ?_ | refine st_nil rfl ?_ | refine s_op ?_ ?_ | exact True.intro) | ((with_reducible first | refine dw_reg0 ?_ | refine dw_regB ?_); (conv => arg 3; whnf)) | (refine Spl.go (fun hq he => ?_) (fun hq he => ?_) <;> first | (exfalso; clear hq; omega) | ((try (first | (conv => arg 8; simp only [hq]) | (conv => arg 4; simp only [hq]))); clear hq)) | ((with_reducible first | refine c_split (fun hq => ?_) (fun hq => ?_) | refine q_split (fun hq => ?_) (fun hq => ?_)) <;> (try (first | (conv => arg 8; simp only [hq]) | (conv => arg 4; simp only [hq])))) | (with_reducible refine fin_0 ?_ (by first | rfl | (conv => lhs; simp only [go_sem, List.getElem?_map, hx, Option.map_some])) ?_) | exact Sub.refl _ | omega)
        refine c_doesE (hix) ?_ ?_ ?_
        · ((try (conv => rhs; simp (disch := omega) only [go_sem])); try rfl)
        · first | rfl | (conv => lhs; simp only [go_sem])
        repeat' (first | with_reducible refine acc_none ?_ | (conv in hold _ => simp (disch := omega) only [go_sem]) | refine Stp.go ?_ | (with_reducible first | refine it_pos rfl ?_ | refine it_neg (by decide) ?_ | refine st_nil rfl ?_ | refine s_op ?_ ?_ | exact True.intro) | ((with_reducible first | refine dw_reg0 ?_ | refine dw_regB ?_); (conv => arg 3; whnf)) | (refine Spl.go (fun hq he => ?_) (fun hq he => ?_) <;> first | (exfalso; clear hq; omega) | ((try (first | (conv => arg 8; simp only [hq]) | (conv => arg 4; simp only [hq]))); clear hq)) | ((with_reducible first | refine c_split (fun hq => ?_) (fun hq => ?_) | refine q_split (fun hq => ?_) (fun hq => ?_)) <;> (try (first | (conv => arg 8; simp only [hq]) | (conv => arg 4; simp only [hq])))) | (with_reducible refine fin_0 ?_ (by first | rfl | (conv => lhs; simp only [go_sem])) ?_) | exact Sub.refl _ | omega)
        refine ⟨hlt1, trivial, Wk.list [1000000, 1000001, 1000002, 2000040] rfl rfl ?_⟩
        repeat' (first | (conv in hold _ => simp (disch := omega) only [go_sem]) | exact True.intro | exact Sub.refl _ | omega)
        rw [hmt, hnx, List.map_append, List.map_cons, List.map_nil, eD_eq (rwE (subTop by_) x)]
      · have e1 : (rwL (subTop by_) e.ks).take e.ks.length = rwL (subTop by_) e.ks := List.take_of_length_le (by omega)
        have e2 : ((rwL (subTop by_) e.ks).map eD).take e.ks.length = (rwL (subTop by_) e.ks).map eD := List.take_of_length_le (by rw [List.length_map]; omega)
        repeat' (first | with_reducible refine acc_none ?_ | (conv in hold _ => simp (disch := omega) only [go_sem, e1]) | refine Stp.go ?_ | (with_reducible first | refine it_pos rfl ?_ | refine it_neg (by decide) ?_ | refine st_nil rfl ?_ | refine s_op ?_ ?_ | exact True.intro) | ((with_reducible first | refine dw_reg0 ?_ | refine dw_regB ?_); (conv => arg 3; whnf)) | (refine Spl.go (fun hq he => ?_) (fun hq he => ?_) <;> first | (exfalso; clear hq; omega) | ((try (first | (conv => arg 8; simp only [hq]) | (conv => arg 4; simp only [hq]))); clear hq)) | ((with_reducible first | refine c_split (fun hq => ?_) (fun hq => ?_) | refine q_split (fun hq => ?_) (fun hq => ?_)) <;> (try (first | (conv => arg 8; simp only [hq]) | (conv => arg 4; simp only [hq])))) | exact Sub.refl _ | omega)
        refine fin_wk (wk_frzO 1000001 1000003 (by decide) (by decide) rfl (by decide) rfl ?_) ?_
        rotate_left
        (conv in hold _ => simp (disch := omega) only [go_sem, e1, e2, hll])
        · refine fin_L [] ?_ ?_ rfl ?_
          repeat' (first | (conv in hold _ => simp (disch := omega) only [go_sem]) | exact True.intro | exact Sub.refl _ | omega)
        · exact exprs_pur _
end Go.Proofs.Ytpmmagnphfcdnaa
