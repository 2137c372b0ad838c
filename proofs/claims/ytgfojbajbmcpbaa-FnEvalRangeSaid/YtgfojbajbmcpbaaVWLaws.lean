/-
  What the laws of expressions share. No condition.
-/
import Derived.Test.YtgfojbajbmcpbaaVTerm
import Derived.Test.YtgfojbajbmcpbaaVEvS
import Derived.Test.YtgfojbajbmcpbaaVDrawE
import Derived.Test.YtgfojbajbmcpbaaVLaw
import Derived.Test.YtgfojbajbmcpbaaDc4
set_option maxHeartbeats 4000000
set_option maxRecDepth 100000
namespace Go.Proofs.Ytgfojbajbmcpbaa
open Go.RowKit

theorem two_expr (k : Int) (a b : E) : Does Try.prog 18 [] [I k, eD a, eD b] (eD (.mk k 0 ⟨false, 0⟩ [a, b])) [] := by
  refine does0 c_laws_two mixed (Nat.le_of_ble_eq_true rfl) ?_
  conv => arg 3; whnf
  repeat' (first
    | with_reducible refine acc_none ?_
    | (conv in hold _ => simp (disch := omega) only [go_sem, Nat.reduceEqDiff, Nat.reduceAdd, Nat.reduceMul, Nat.reduceSub, Nat.reduceLT, Nat.reduceLeDiff, ↓reduceIte, reduceCtorEq, Int.reduceToNat])
    | (with_reducible first | refine dw_seq ?_ | refine dw_block ?_ | refine dw_skip ?_ | refine dw_ret ?_ | refine dw_exit ?_ | refine it_pos rfl ?_ | refine it_neg (by decide) ?_ | refine dw_cond ?_ | refine st_nil0 ?_ | refine st_nil rfl ?_ | refine c_true ?_ | refine c_false ?_ | refine st_one ?_ | refine st_guard ?_ | refine s_call ?_ | refine s_cal ?_ | refine s_inv ?_ | refine s_op ?_ ?_ | refine q_run _ ?_ | refine q_tf ?_ | refine q_ft ?_ | refine q_undef ?_ | exact True.intro)
    | ((with_reducible first | refine dw_reg0 ?_ | refine dw_regB ?_); (conv => arg 3; whnf))
    | ((with_reducible first | refine c_splitP (fun hq he => ?_) (fun hq he => ?_) | refine c_splitE (fun hq he => ?_) (fun hq he => ?_) | refine c_splitN (fun hq he => ?_) (fun hq he => ?_) | refine c_splitQ (fun hq he => ?_) (fun hq he => ?_) | refine q_splitPt (fun hq he => ?_) (fun hq he => ?_) | refine q_splitPf (fun hq he => ?_) (fun hq he => ?_) | refine q_splitEt (fun hq he => ?_) (fun hq he => ?_) | refine q_splitEf (fun hq he => ?_) (fun hq he => ?_) | refine q_splitNt (fun hq he => ?_) (fun hq he => ?_) | refine q_splitNf (fun hq he => ?_) (fun hq he => ?_)) <;> first | (exfalso; clear hq; omega) | ((try (first | (conv => arg 8; simp only [hq]) | (conv => arg 4; simp only [hq]))); clear hq))
    | ((with_reducible first | refine c_split (fun hq => ?_) (fun hq => ?_) | refine q_split (fun hq => ?_) (fun hq => ?_)) <;> (try (first | (conv => arg 8; simp only [hq]) | (conv => arg 4; simp only [hq]))))
    | (with_reducible refine fin_0 ?_ (by first | rfl | (conv => lhs; simp only [go_sem])) ?_)
    | exact Sub.refl _
    | omega)
theorem not_expr (a : E) : Does Try.prog 19 [] [eD a] (eD (.mk 10 0 ⟨false, 0⟩ [a])) [] := by
  refine does0 c_laws_not mixed (Nat.le_of_ble_eq_true rfl) ?_
  conv => arg 3; whnf
  repeat' (first
    | with_reducible refine acc_none ?_
    | (conv in hold _ => simp (disch := omega) only [go_sem, Nat.reduceEqDiff, Nat.reduceAdd, Nat.reduceMul, Nat.reduceSub, Nat.reduceLT, Nat.reduceLeDiff, ↓reduceIte, reduceCtorEq, Int.reduceToNat])
    | (with_reducible first | refine dw_seq ?_ | refine dw_block ?_ | refine dw_skip ?_ | refine dw_ret ?_ | refine dw_exit ?_ | refine it_pos rfl ?_ | refine it_neg (by decide) ?_ | refine dw_cond ?_ | refine st_nil0 ?_ | refine st_nil rfl ?_ | refine c_true ?_ | refine c_false ?_ | refine st_one ?_ | refine st_guard ?_ | refine s_call ?_ | refine s_cal ?_ | refine s_inv ?_ | refine s_op ?_ ?_ | refine q_run _ ?_ | refine q_tf ?_ | refine q_ft ?_ | refine q_undef ?_ | exact True.intro)
    | ((with_reducible first | refine dw_reg0 ?_ | refine dw_regB ?_); (conv => arg 3; whnf))
    | ((with_reducible first | refine c_splitP (fun hq he => ?_) (fun hq he => ?_) | refine c_splitE (fun hq he => ?_) (fun hq he => ?_) | refine c_splitN (fun hq he => ?_) (fun hq he => ?_) | refine c_splitQ (fun hq he => ?_) (fun hq he => ?_) | refine q_splitPt (fun hq he => ?_) (fun hq he => ?_) | refine q_splitPf (fun hq he => ?_) (fun hq he => ?_) | refine q_splitEt (fun hq he => ?_) (fun hq he => ?_) | refine q_splitEf (fun hq he => ?_) (fun hq he => ?_) | refine q_splitNt (fun hq he => ?_) (fun hq he => ?_) | refine q_splitNf (fun hq he => ?_) (fun hq he => ?_)) <;> first | (exfalso; clear hq; omega) | ((try (first | (conv => arg 8; simp only [hq]) | (conv => arg 4; simp only [hq]))); clear hq))
    | ((with_reducible first | refine c_split (fun hq => ?_) (fun hq => ?_) | refine q_split (fun hq => ?_) (fun hq => ?_)) <;> (try (first | (conv => arg 8; simp only [hq]) | (conv => arg 4; simp only [hq]))))
    | (with_reducible refine fin_0 ?_ (by first | rfl | (conv => lhs; simp only [go_sem])) ?_)
    | exact Sub.refl _
    | omega)
/-- Valid for a valid row. -/
def valid (e : E) (row : List V) : Prop := rowOk row ∧ eOk e row.length 8
theorem evalD_t {e : E} {row : List V} (h : valid e row) : evalD e row = .tup [vD (ev e row), Bo true] := if_pos h
theorem evalD_f {e : E} {row : List V} (h : ¬ valid e row) : evalD e row = .tup [vD ⟨false, 0⟩, Bo false] := if_neg h
theorem impl_t {e : E} {row : List V} (h : valid e row) : Does Try.prog 14 [] [eD e, rowD row] (.tup [vD (ev e row), Bo true]) [] := by
  have := EvalExpr_impl e row (by have := h.1.1; omega)
  rwa [evalD_t h] at this
theorem impl_f {e : E} {row : List V} (hl : row.length < 900) (h : ¬ valid e row) : Does Try.prog 14 [] [eD e, rowD row] (.tup [vD ⟨false, 0⟩, Bo false]) [] := by
  have := EvalExpr_impl e row hl
  rwa [evalD_f h] at this
theorem spec_t {e : E} {row : List V} (h : valid e row) : Does Try.prog 15 [] [eD e, rowD row] (.tup [vD (ev e row), Bo true]) [] := by
  have := EvalExpr_spec e row (by have := h.1.1; omega)
  rwa [evalD_t h] at this
theorem spec_f {e : E} {row : List V} (hl : row.length < 900) (h : ¬ valid e row) : Does Try.prog 15 [] [eD e, rowD row] (.tup [vD ⟨false, 0⟩, Bo false]) [] := by
  have := EvalExpr_spec e row hl
  rwa [evalD_f h] at this
theorem eOk_mono {w : Int} : ∀ (e : E) (d d' : Nat), d ≤ d' → eOk e w d → eOk e w d' := by
  refine E.ind (fun e ih d d' hd h => ?_)
  rw [eOk_iff] at h ⊢
  exact ⟨h.1, fun h0 => by have := h.2.1 h0; omega, fun x hx => ih x hx (d - 1) (d' - 1) (by omega) (h.2.2.1 x hx), h.2.2.2⟩
theorem valid_kid {e a : E} {row : List V} (h : valid e row) (ha : a ∈ e.ks) : valid a row := ⟨h.1, eOk_mono a 7 8 (by decide) (((eOk_iff e _ 8).1 h.2).2.2.1 a ha)⟩
theorem valid_two {e : E} {row : List V} (h : valid e row) (hk : 3 ≤ e.k ∧ e.k ≤ 9) : ∃ a b, e.ks = [a, b] ∧ ev e row = comb e.k (ev a row) (ev b row) ∧ valid a row ∧ valid b row := by
  rcases eOk_kids h.2 with ⟨h1, _⟩ | ⟨h1, _⟩ | ⟨_, a, b, hks, _, _⟩
  · omega
  · omega
  · exact ⟨a, b, hks, ev_two (by omega) (by omega) (by omega) (by omega) hks, valid_kid h (by rw [hks]; exact List.mem_cons_self ..), valid_kid h (by rw [hks]; exact List.mem_cons_of_mem _ (List.mem_cons_self ..))⟩
theorem valid_ok {e : E} {row : List V} (h : valid e row) : (ev e row).ok := ev_ok h.1.2 e 8 h.2
end Go.Proofs.Ytgfojbajbmcpbaa
