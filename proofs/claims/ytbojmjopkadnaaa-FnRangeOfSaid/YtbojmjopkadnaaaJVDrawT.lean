/-
  Valid tables, as the program tells them. No condition.
-/
import Derived.Test.YtbojmjopkadnaaaDca
import Derived.Test.YtbojmjopkadnaaaDcu
import Derived.Test.YtbojmjopkadnaaaJVTbX
import Derived.Test.YtbojmjopkadnaaaVEsz
import Derived.Test.YtbojmjopkadnaaaV0
import Derived.Test.YtbojmjopkadnaaaVVal
import Derived.Test.YtbojmjopkadnaaaKVTerm
import Derived.Test.YtbojmjopkadnaaaVLib
import Derived.Test.YtbojmjopkadnaaaJVDraw
import Derived.Test.YtbojmjopkadnaaaKVDrawE
import Derived.Test.YtbojmjopkadnaaaVLaw
import Derived.Test.YtbojmjopkadnaaaJVCntM
set_option maxHeartbeats 4000000
set_option maxRecDepth 100000
namespace Go.Proofs.Ytbojmjopkadnaaa
open Go.RowKit

/-- The rows ascend. -/
def asc (rs : List (List V)) : Prop := ∀ (i : Nat) (q r : List V), 0 < i → rs[i - 1]? = some q → rs[i]? = some r → cmpR q r ≤ 0
noncomputable instance ascDec (rs : List (List V)) : Decidable (asc rs) := Classical.propDecidable _
theorem isSorted_ok (t : Ta) (ht : rOk t) {f : FuncId} (hf : enters Try.prog f = true) (hc : ∀ a b : List V, a.length = b.length → a.length < 2000000 → (∀ v, v ∈ a → v.ok) → (∀ v, v ∈ b → v.ok) → Does Try.prog f [] [rowD a, rowD b] (I (cmpR a b)) []) :
    Does Try.prog 53 [] [rowsD t.rows, .fn f []] (Bo (decide (asc t.rows))) [] := by
  have h4 := ht.1.2
  refine does0 c_slices_IsSortedFunc_____loop_example_queryoptimizer_impl_Value___loop_example_queryoptimizer_impl_Value_ mixed (Nat.le_of_ble_eq_true rfl) ?_
  conv => arg 3; whnf
  repeat' (first | with_reducible refine acc_none ?_ | (conv in hold _ => simp (disch := omega) only [go_sem]) | refine Stp.go ?_ | (with_reducible first | refine it_pos rfl ?_ | refine it_neg (by decide) ?_ | refine st_nil rfl ?_ | refine s_op ?_ ?_ | exact True.intro) | ((with_reducible first | refine dw_reg0 ?_ | refine dw_regB ?_); (conv => arg 3; whnf)) | (refine Spl.go (fun hq he => ?_) (fun hq he => ?_) <;> first | (exfalso; clear hq; omega) | ((try (first | (conv => arg 8; simp only [hq]) | (conv => arg 4; simp only [hq]))); clear hq)) | ((with_reducible first | refine c_split (fun hq => ?_) (fun hq => ?_) | refine q_split (fun hq => ?_) (fun hq => ?_)) <;> (try (first | (conv => arg 8; simp only [hq]) | (conv => arg 4; simp only [hq])))) | (with_reducible refine fin_0 ?_ (by first | rfl | (conv => lhs; simp only [go_sem])) ?_) | exact Sub.refl _ | omega)
  refine dw_for (c := 0) (l := fun n => [(0, rowsD t.rows), (1, .fn f []), (5, I ((t.rows.length : Int) - 1 - n))]) t.rows.length (fun n => ∀ (i : Nat) (q r : List V), t.rows.length ≤ i + n → 0 < i → t.rows[i - 1]? = some q → t.rows[i]? = some r → cmpR q r ≤ 0) 0 (fun i q r h1 h2 hq hr => by have := (List.getElem?_eq_some_iff.1 hr).1; omega) (Wk.list [] rfl rfl ?_) (fun n hn hJ => ?_) (Nat.zero_le _)
  · repeat' (first | (conv in hold _ => simp (disch := omega) only [go_sem]) | exact True.intro | exact Sub.refl _ | omega)
    exact congrArg (fun n => D.v (Value.int .i64 n)) (by omega)
  · by_cases hil : n + 1 < t.rows.length
    · obtain ⟨r, hr⟩ : ∃ r, t.rows[t.rows.length - 1 - n]? = some r := ⟨_, List.getElem?_eq_getElem (by omega)⟩
      obtain ⟨q, hq⟩ : ∃ q, t.rows[t.rows.length - 1 - n - 1]? = some q := ⟨_, List.getElem?_eq_getElem (by omega)⟩
      have hr1 := ht.2 _ r hr
      have hq1 := ht.2 _ q hq
      have hrl := hr1.1.1
      have e1 : ((t.rows.length : Int) - 1 - (n : Int)).toNat = t.rows.length - 1 - n := by omega
      have e2 : ((t.rows.length : Int) - 1 - (n : Int) - 1).toNat = t.rows.length - 1 - n - 1 := by omega
      have hcc := hc r q (by have := hr1.2; have := hq1.2; omega) (by omega) hr1.1.2 hq1.1.2
      have hanti := cmpR_anti q r (by have := hr1.2; have := hq1.2; omega) hq1.1.2 hr1.1.2
      by_cases h3 : cmpR q r ≤ 0
      · repeat' (first | with_reducible refine acc_none ?_ | (conv in hold _ => simp (disch := omega) only [go_sem, List.getElem?_map, e1, e2, hr, hq, Option.map_some]) | refine Stp.go ?_ | (with_reducible first | refine it_pos rfl ?_ | refine it_neg (by decide) ?_ | refine st_nil rfl ?_ | refine s_op ?_ ?_ | exact True.intro) | ((with_reducible first | refine dw_reg0 ?_ | refine dw_regB ?_); (conv => arg 3; whnf)) | (refine Spl.go (fun hq he => ?_) (fun hq he => ?_) <;> first | (exfalso; clear hq; omega) | ((try (first | (conv => arg 8; simp only [hq]) | (conv => arg 4; simp only [hq]))); clear hq)) | ((with_reducible first | refine c_split (fun hq => ?_) (fun hq => ?_) | refine q_split (fun hq => ?_) (fun hq => ?_)) <;> (try (first | (conv => arg 8; simp only [hq]) | (conv => arg 4; simp only [hq])))) | (with_reducible refine fin_0 ?_ (by first | rfl | (conv => lhs; simp only [go_sem, List.getElem?_map, e1, e2, hr, hq, Option.map_some])) ?_) | exact Sub.refl _ | omega)
        refine v_fn (hf) ?_
        refine c_doesE (hcc) ?_ ?_ ?_
        · ((try (conv => rhs; simp (disch := omega) only [go_sem])); try rfl)
        · first | rfl | (conv => lhs; simp only [go_sem])
        repeat' (first | with_reducible refine acc_none ?_ | (conv in hold _ => simp (disch := omega) only [go_sem]) | refine Stp.go ?_ | (with_reducible first | refine it_pos rfl ?_ | refine it_neg (by decide) ?_ | refine st_nil rfl ?_ | refine s_op ?_ ?_ | exact True.intro) | ((with_reducible first | refine dw_reg0 ?_ | refine dw_regB ?_); (conv => arg 3; whnf)) | (refine Spl.go (fun hq he => ?_) (fun hq he => ?_) <;> first | (exfalso; clear hq; omega) | ((try (first | (conv => arg 8; simp only [hq]) | (conv => arg 4; simp only [hq]))); clear hq)) | ((with_reducible first | refine c_split (fun hq => ?_) (fun hq => ?_) | refine q_split (fun hq => ?_) (fun hq => ?_)) <;> (try (first | (conv => arg 8; simp only [hq]) | (conv => arg 4; simp only [hq])))) | (with_reducible refine fin_0 ?_ (by first | rfl | (conv => lhs; simp only [go_sem])) ?_) | exact Sub.refl _ | omega)
        refine ⟨by omega, fun i q' r' h1 h2 hq' hr' => ?_, Wk.list [] rfl rfl ?_⟩
        · by_cases hi : i = t.rows.length - 1 - n
          · subst hi
            rw [hq] at hq'
            rw [hr] at hr'
            cases hq'
            cases hr'
            exact h3
          · exact hJ i q' r' (by omega) h2 hq' hr'
        · repeat' (first | (conv in hold _ => simp (disch := omega) only [go_sem]) | exact True.intro | exact Sub.refl _ | omega)
          exact congrArg (fun n => D.v (Value.int .i64 n)) (by omega)
      · repeat' (first | with_reducible refine acc_none ?_ | (conv in hold _ => simp (disch := omega) only [go_sem, List.getElem?_map, e1, e2, hr, hq, Option.map_some]) | refine Stp.go ?_ | (with_reducible first | refine it_pos rfl ?_ | refine it_neg (by decide) ?_ | refine st_nil rfl ?_ | refine s_op ?_ ?_ | exact True.intro) | ((with_reducible first | refine dw_reg0 ?_ | refine dw_regB ?_); (conv => arg 3; whnf)) | (refine Spl.go (fun hq he => ?_) (fun hq he => ?_) <;> first | (exfalso; clear hq; omega) | ((try (first | (conv => arg 8; simp only [hq]) | (conv => arg 4; simp only [hq]))); clear hq)) | ((with_reducible first | refine c_split (fun hq => ?_) (fun hq => ?_) | refine q_split (fun hq => ?_) (fun hq => ?_)) <;> (try (first | (conv => arg 8; simp only [hq]) | (conv => arg 4; simp only [hq])))) | (with_reducible refine fin_0 ?_ (by first | rfl | (conv => lhs; simp only [go_sem, List.getElem?_map, e1, e2, hr, hq, Option.map_some])) ?_) | exact Sub.refl _ | omega)
        refine v_fn (hf) ?_
        refine c_doesE (hcc) ?_ ?_ ?_
        · ((try (conv => rhs; simp (disch := omega) only [go_sem])); try rfl)
        · first | rfl | (conv => lhs; simp only [go_sem])
        repeat' (first | with_reducible refine acc_none ?_ | (conv in hold _ => simp (disch := omega) only [go_sem]) | refine Stp.go ?_ | (with_reducible first | refine it_pos rfl ?_ | refine it_neg (by decide) ?_ | refine st_nil rfl ?_ | refine s_op ?_ ?_ | exact True.intro) | ((with_reducible first | refine dw_reg0 ?_ | refine dw_regB ?_); (conv => arg 3; whnf)) | (refine Spl.go (fun hq he => ?_) (fun hq he => ?_) <;> first | (exfalso; clear hq; omega) | ((try (first | (conv => arg 8; simp only [hq]) | (conv => arg 4; simp only [hq]))); clear hq)) | ((with_reducible first | refine c_split (fun hq => ?_) (fun hq => ?_) | refine q_split (fun hq => ?_) (fun hq => ?_)) <;> (try (first | (conv => arg 8; simp only [hq]) | (conv => arg 4; simp only [hq])))) | (with_reducible refine fin_0 ?_ (by first | rfl | (conv => lhs; simp only [go_sem])) ?_) | exact Sub.refl _ | omega)
        exact sub_f (fun h => h3 (h _ q r (by omega) hq hr))
    · repeat' (first | with_reducible refine acc_none ?_ | (conv in hold _ => simp (disch := omega) only [go_sem]) | refine Stp.go ?_ | (with_reducible first | refine it_pos rfl ?_ | refine it_neg (by decide) ?_ | refine st_nil rfl ?_ | refine s_op ?_ ?_ | exact True.intro) | ((with_reducible first | refine dw_reg0 ?_ | refine dw_regB ?_); (conv => arg 3; whnf)) | (refine Spl.go (fun hq he => ?_) (fun hq he => ?_) <;> first | (exfalso; clear hq; omega) | ((try (first | (conv => arg 8; simp only [hq]) | (conv => arg 4; simp only [hq]))); clear hq)) | ((with_reducible first | refine c_split (fun hq => ?_) (fun hq => ?_) | refine q_split (fun hq => ?_) (fun hq => ?_)) <;> (try (first | (conv => arg 8; simp only [hq]) | (conv => arg 4; simp only [hq])))) | (with_reducible refine fin_0 ?_ (by first | rfl | (conv => lhs; simp only [go_sem])) ?_) | exact Sub.refl _ | omega)
      exact sub_iff ⟨fun _ i q r h2 hq hr => hJ i q r (by omega) h2 hq hr, fun _ => rfl⟩
theorem ValidTable_impl (t : Ta) (hl : rsz t.rows ≤ 1048576) : Does Try.prog 25 [] [taD t] (Bo (decide (tOk t))) [] := by
  have h1 := validRows_ok t hl
  by_cases hr : rOk t
  · have h2 := isSorted_ok t hr (f := 54) (by kernel_rfl) (fun a b hab hl ha hb => compareRows_impl a b hab hl ha hb)
    rw [decide_eq_true hr] at h1
    have hiff : tOk t ↔ asc t.rows := ⟨fun h i q r h0 hq hr' => (h.2 i r hr').2 q h0 hq, fun h => ⟨hr.1, fun i r hr' => ⟨hr.2 i r hr', fun q h0 hq => h i q r h0 hq hr'⟩⟩⟩
    rw [show decide (tOk t) = decide (asc t.rows) from decide_eq_decide.2 hiff]
    refine does0 c_impl_ValidTable mixed (Nat.le_of_ble_eq_true rfl) ?_
    conv => arg 3; whnf
    repeat' (first | with_reducible refine acc_none ?_ | (conv in hold _ => simp (disch := omega) only [go_sem]) | refine Stp.go ?_ | (with_reducible first | refine it_pos rfl ?_ | refine it_neg (by decide) ?_ | refine st_nil rfl ?_ | refine s_op ?_ ?_ | exact True.intro) | ((with_reducible first | refine dw_reg0 ?_ | refine dw_regB ?_); (conv => arg 3; whnf)) | (refine Spl.go (fun hq he => ?_) (fun hq he => ?_) <;> first | (exfalso; clear hq; omega) | ((try (first | (conv => arg 8; simp only [hq]) | (conv => arg 4; simp only [hq]))); clear hq)) | ((with_reducible first | refine c_split (fun hq => ?_) (fun hq => ?_) | refine q_split (fun hq => ?_) (fun hq => ?_)) <;> (try (first | (conv => arg 8; simp only [hq]) | (conv => arg 4; simp only [hq])))) | (with_reducible refine fin_0 ?_ (by first | rfl | (conv => lhs; simp only [go_sem])) ?_) | exact Sub.refl _ | omega)
    refine c_doesE (h1) ?_ ?_ ?_
    · ((try (conv => rhs; simp (disch := omega) only [go_sem])); try rfl)
    · first | rfl | (conv => lhs; simp only [go_sem])
    repeat' (first | with_reducible refine acc_none ?_ | (conv in hold _ => simp (disch := omega) only [go_sem]) | refine Stp.go ?_ | (with_reducible first | refine it_pos rfl ?_ | refine it_neg (by decide) ?_ | refine st_nil rfl ?_ | refine s_op ?_ ?_ | exact True.intro) | ((with_reducible first | refine dw_reg0 ?_ | refine dw_regB ?_); (conv => arg 3; whnf)) | (refine Spl.go (fun hq he => ?_) (fun hq he => ?_) <;> first | (exfalso; clear hq; omega) | ((try (first | (conv => arg 8; simp only [hq]) | (conv => arg 4; simp only [hq]))); clear hq)) | ((with_reducible first | refine c_split (fun hq => ?_) (fun hq => ?_) | refine q_split (fun hq => ?_) (fun hq => ?_)) <;> (try (first | (conv => arg 8; simp only [hq]) | (conv => arg 4; simp only [hq])))) | (with_reducible refine fin_0 ?_ (by first | rfl | (conv => lhs; simp only [go_sem])) ?_) | exact Sub.refl _ | omega)
    refine c_doesE (h2) ?_ ?_ ?_
    · ((try (conv => rhs; simp (disch := omega) only [go_sem])); try rfl)
    · first | rfl | (conv => lhs; simp only [go_sem])
    repeat' (first | with_reducible refine acc_none ?_ | (conv in hold _ => simp (disch := omega) only [go_sem]) | refine Stp.go ?_ | (with_reducible first | refine it_pos rfl ?_ | refine it_neg (by decide) ?_ | refine st_nil rfl ?_ | refine s_op ?_ ?_ | exact True.intro) | ((with_reducible first | refine dw_reg0 ?_ | refine dw_regB ?_); (conv => arg 3; whnf)) | (refine Spl.go (fun hq he => ?_) (fun hq he => ?_) <;> first | (exfalso; clear hq; omega) | ((try (first | (conv => arg 8; simp only [hq]) | (conv => arg 4; simp only [hq]))); clear hq)) | ((with_reducible first | refine c_split (fun hq => ?_) (fun hq => ?_) | refine q_split (fun hq => ?_) (fun hq => ?_)) <;> (try (first | (conv => arg 8; simp only [hq]) | (conv => arg 4; simp only [hq])))) | (with_reducible refine fin_0 ?_ (by first | rfl | (conv => lhs; simp only [go_sem])) ?_) | exact Sub.refl _ | omega)
  · rw [decide_eq_false hr] at h1
    rw [decide_eq_false (fun h : tOk t => hr ⟨h.1, fun i r hr' => (h.2 i r hr').1⟩)]
    refine does0 c_impl_ValidTable mixed (Nat.le_of_ble_eq_true rfl) ?_
    conv => arg 3; whnf
    repeat' (first | with_reducible refine acc_none ?_ | (conv in hold _ => simp (disch := omega) only [go_sem]) | refine Stp.go ?_ | (with_reducible first | refine it_pos rfl ?_ | refine it_neg (by decide) ?_ | refine st_nil rfl ?_ | refine s_op ?_ ?_ | exact True.intro) | ((with_reducible first | refine dw_reg0 ?_ | refine dw_regB ?_); (conv => arg 3; whnf)) | (refine Spl.go (fun hq he => ?_) (fun hq he => ?_) <;> first | (exfalso; clear hq; omega) | ((try (first | (conv => arg 8; simp only [hq]) | (conv => arg 4; simp only [hq]))); clear hq)) | ((with_reducible first | refine c_split (fun hq => ?_) (fun hq => ?_) | refine q_split (fun hq => ?_) (fun hq => ?_)) <;> (try (first | (conv => arg 8; simp only [hq]) | (conv => arg 4; simp only [hq])))) | (with_reducible refine fin_0 ?_ (by first | rfl | (conv => lhs; simp only [go_sem])) ?_) | exact Sub.refl _ | omega)
    refine c_doesE (h1) ?_ ?_ ?_
    · ((try (conv => rhs; simp (disch := omega) only [go_sem])); try rfl)
    · first | rfl | (conv => lhs; simp only [go_sem])
    repeat' (first | with_reducible refine acc_none ?_ | (conv in hold _ => simp (disch := omega) only [go_sem]) | refine Stp.go ?_ | (with_reducible first | refine it_pos rfl ?_ | refine it_neg (by decide) ?_ | refine st_nil rfl ?_ | refine s_op ?_ ?_ | exact True.intro) | ((with_reducible first | refine dw_reg0 ?_ | refine dw_regB ?_); (conv => arg 3; whnf)) | (refine Spl.go (fun hq he => ?_) (fun hq he => ?_) <;> first | (exfalso; clear hq; omega) | ((try (first | (conv => arg 8; simp only [hq]) | (conv => arg 4; simp only [hq]))); clear hq)) | ((with_reducible first | refine c_split (fun hq => ?_) (fun hq => ?_) | refine q_split (fun hq => ?_) (fun hq => ?_)) <;> (try (first | (conv => arg 8; simp only [hq]) | (conv => arg 4; simp only [hq])))) | (with_reducible refine fin_0 ?_ (by first | rfl | (conv => lhs; simp only [go_sem])) ?_) | exact Sub.refl _ | omega)
end Go.Proofs.Ytbojmjopkadnaaa
set_option maxHeartbeats 4000000
set_option maxRecDepth 100000
namespace Go.Proofs.Ytbojmjopkadnaaa
open Go.RowKit

/-- What both packages answer. -/
noncomputable def sizeV (e : E) : Nat := if eOk e 6 8 then esz e else 0
theorem sizeV_t {e : E} (h : eOk e 6 8) : sizeV e = esz e := if_pos h
theorem sizeV_f {e : E} (h : ¬ eOk e 6 8) : sizeV e = 0 := if_neg h
end Go.Proofs.Ytbojmjopkadnaaa
set_option maxHeartbeats 4000000
set_option maxRecDepth 100000
namespace Go.Proofs.Ytbojmjopkadnaaa
open Go.RowKit

/-- Valid for a valid row. -/
def valid (e : E) (row : List V) : Prop := rowOk row ∧ eOk e row.length 8
theorem evalD_t {e : E} {row : List V} (h : valid e row) : evalD e row = .tup [vD (ev e row), Bo true] := if_pos h
theorem evalD_f {e : E} {row : List V} (h : ¬ valid e row) : evalD e row = .tup [vD ⟨false, 0⟩, Bo false] := if_neg h
theorem impl_t {e : E} {row : List V} (h : valid e row) : Does Try.prog 12 [] [eD e, rowD row] (.tup [vD (ev e row), Bo true]) [] := by
  have := EvalExpr_impl e row (by have := h.1.1; omega)
  rwa [evalD_t h] at this
theorem impl_f {e : E} {row : List V} (hl : row.length < 1048577) (h : ¬ valid e row) : Does Try.prog 12 [] [eD e, rowD row] (.tup [vD ⟨false, 0⟩, Bo false]) [] := by
  have := EvalExpr_impl e row hl
  rwa [evalD_f h] at this
theorem eOk_mono {w : Int} : ∀ (e : E) (d d' : Nat), d ≤ d' → eOk e w d → eOk e w d' := by
  refine E.ind (fun e ih d d' hd h => ?_)
  rw [eOk_iff] at h ⊢
  exact ⟨h.1, fun h0 => by have := h.2.1 h0; omega, fun x hx => ih x hx (d - 1) (d' - 1) (by omega) (h.2.2.1 x hx), h.2.2.2⟩
theorem valid_kid {e a : E} {row : List V} (h : valid e row) (ha : a ∈ e.ks) : valid a row := ⟨h.1, eOk_mono a 7 8 (by decide) (((eOk_iff e _ 8).1 h.2).2.2.1 a ha)⟩
theorem valid_two {e : E} {row : List V} (h : valid e row) (hk : 3 ≤ e.k ∧ e.k ≤ 9) : ∃ a b, e.ks = [a, b] ∧ ev e row = comb e.k (ev a row) (ev b row) ∧ valid a row ∧ valid b row := by
  rcases eOk_kids h.2 with ⟨h1, _⟩ | ⟨h1, _⟩ | ⟨_, a, b, hks, _, _⟩
  · omega
  · omega
  · exact ⟨a, b, hks, ev_two (by omega) (by omega) (by omega) (by omega) hks, valid_kid h (by rw [hks]; exact List.mem_cons_self ..), valid_kid h (by rw [hks]; exact List.mem_cons_of_mem _ (List.mem_cons_self ..))⟩
theorem valid_ok {e : E} {row : List V} (h : valid e row) : (ev e row).ok := ev_ok h.1.2 e 8 h.2
theorem leafOk_wide {k c w w' : Int} {v : V} (h : w ≤ w') (hl : leafOk k c v w) : leafOk k c v w' := by
  unfold leafOk at *
  by_cases hk : k = 1
  · rw [if_pos hk] at *
    exact ⟨hl.1, by omega, hl.2.2⟩
  · rw [if_neg hk] at *
    exact hl
theorem eOk_wide {w w' : Int} (h : w ≤ w') : ∀ (e : E) (d : Nat), eOk e w d → eOk e w' d := by
  refine E.ind (fun e ih d he => ?_)
  have h1 := (eOk_iff e w d).1 he
  exact (eOk_iff e w' d).2 ⟨h1.1, h1.2.1, fun x hx => ih x hx (d - 1) (h1.2.2.1 x hx), leafOk_wide h h1.2.2.2⟩
end Go.Proofs.Ytbojmjopkadnaaa
set_option maxHeartbeats 4000000
set_option maxRecDepth 100000
set_option linter.unusedVariables false
set_option linter.unusedSimpArgs false
namespace Go.Proofs.Ytbojmjopkadnaaa
open Go.RowKit

theorem copyRow_ok (vs : List V) (hl : vs.length < 2000000) : Does Try.prog 70 [] [rowD vs] (rowD vs) [] := by
  refine does0 c_spec_copyRow mixed (Nat.le_of_ble_eq_true rfl) ?_
  conv => arg 3; whnf
  repeat' (first | with_reducible refine acc_none ?_ | (conv in hold _ => simp (disch := omega) only [go_sem]) | refine Stp.go ?_ | (with_reducible first | refine it_pos rfl ?_ | refine it_neg (by decide) ?_ | refine st_nil rfl ?_ | refine s_op ?_ ?_ | exact True.intro) | ((with_reducible first | refine dw_reg0 ?_ | refine dw_regB ?_); (conv => arg 3; whnf)) | (refine Spl.go (fun hq he => ?_) (fun hq he => ?_) <;> first | (exfalso; clear hq; omega) | ((try (first | (conv => arg 8; simp only [hq]) | (conv => arg 4; simp only [hq]))); clear hq)) | ((with_reducible first | refine c_split (fun hq => ?_) (fun hq => ?_) | refine q_split (fun hq => ?_) (fun hq => ?_)) <;> (try (first | (conv => arg 8; simp only [hq]) | (conv => arg 4; simp only [hq])))) | exact Sub.refl _ | omega)
  refine fin_wk (wk_frz 2 2000005 (by decide) (by decide) rfl ?_) ?_
  rotate_left
  (conv in hold _ => simp (disch := omega) only [go_sem, take_all])
  · refine fin_L [] ?_ ?_ rfl ?_
    repeat' (first | (conv in hold _ => simp (disch := omega) only [go_sem]) | exact True.intro | exact Sub.refl _ | omega)
  · exact vals_pur _
theorem map_rowD_append (a b : List (List V)) : (a ++ b).map rowD = a.map rowD ++ b.map rowD := List.map_append
theorem insertRow_own (rs : List (List V)) (r : List V) (w : Nat) (hw : w < 1000) (hl : rs.length ≤ 400) (hs : RsW w (r :: rs)) (ha : Asc rs) : Does Try.prog 79 [] [rowsD rs, rowD r] (.own 1000000 1 (ins r rs).length) [.row 1 ((ins r rs).map rowD)] := by
  have hr := hs r (List.mem_cons_self ..)
  have hcp := copyRow_ok r (by omega)
  let p : Nat → Bool := fun j => decide (0 < cmpR (rs.getD j []) r)
  have hat : ∀ (j : Nat) (x : List V), rs[j]? = some x → p j = decide (0 < cmpR x r) := fun j x hj => by
    show decide (0 < cmpR (rs.getD j []) r) = _
    rw [List.getD_eq_getElem?_getD, hj]
    rfl
  have hp : ∀ i j, i ≤ j → j < rs.length → p i = true → p j = true := fun i j hij hj hi => by
    have e1 := List.getElem?_eq_getElem (l := rs) (i := i) (by omega)
    have e2 := List.getElem?_eq_getElem hj
    rw [hat _ _ e1] at hi
    rw [hat _ _ e2]
    have g1 := hs _ (List.mem_cons_of_mem _ (List.getElem_mem (l := rs) (n := i) (by omega)))
    have g2 := hs _ (List.mem_cons_of_mem _ (List.getElem_mem hj))
    by_cases hij' : i = j
    · subst hij'; exact hi
    · have h1 := asc_at ha (show i < j by omega) e1 e2
      have hi := of_decide_eq_true hi
      refine decide_eq_true ?_
      have h2 := cmpR_anti _ r (by omega) g1.2 hr.2
      have h3 := cmpR_anti _ r (by omega) g2.2 hr.2
      have h4 := (cmpR_trans r _ _ (by omega) (by omega) hr.2 g1.2 g2.2 (by omega)).1 h1
      by_cases h5 : cmpR r rs[j] = 0
      · have e := cmpR_eq h5
        have h6 := cmpR_anti rs[i] rs[j] (by omega) g1.2 g2.2
        unfold leR at h1
        rw [← e] at h1
        omega
      · omega
  clear_value p
  have hinv := itB_inv (p := p) (n := rs.length) hp
  have hend := hinv rs.length
  have hee : (itB p rs.length rs.length).1 = (itB p rs.length rs.length).2 := by omega
  have hres : ins r rs = rs.take (itB p rs.length rs.length).1 ++ r :: rs.drop (itB p rs.length rs.length).1 := by
    refine ins_at r rs _ (by omega) (fun j x hj hx => ?_) (fun x hx => ?_)
    · have h1 := hend.2.1 j hj
      rw [hat j x hx] at h1
      have := of_decide_eq_false h1
      omega
    · have h1 := hend.2.2 _ (by omega) (List.getElem?_eq_some_iff.1 hx).1
      rw [hat _ x hx] at h1
      have := of_decide_eq_true h1
      omega
  have hil : (ins r rs).length = rs.length + 1 := (ins_perm r rs).length_eq
  rw [hil]
  refine does c_spec_insertRow mixed (Nat.le_of_ble_eq_true rfl) 0 rfl ?_
  conv => arg 3; whnf
  repeat' (first | with_reducible refine acc_none ?_ | (conv in hold _ => simp (disch := omega) only [go_sem]) | refine Stp.go ?_ | (with_reducible first | refine it_pos rfl ?_ | refine it_neg (by decide) ?_ | refine st_nil rfl ?_ | refine s_op ?_ ?_ | exact True.intro) | ((with_reducible first | refine dw_reg0 ?_ | refine dw_regB ?_); (conv => arg 3; whnf)) | (refine Spl.go (fun hq he => ?_) (fun hq he => ?_) <;> first | (exfalso; clear hq; omega) | ((try (first | (conv => arg 8; simp only [hq]) | (conv => arg 4; simp only [hq]))); clear hq)) | ((with_reducible first | refine c_split (fun hq => ?_) (fun hq => ?_) | refine q_split (fun hq => ?_) (fun hq => ?_)) <;> (try (first | (conv => arg 8; simp only [hq]) | (conv => arg 4; simp only [hq])))) | (with_reducible refine fin_0 ?_ (by first | rfl | (conv => lhs; simp only [go_sem])) ?_) | exact Sub.refl _ | omega)
  refine dw_for (c := 0) (l := fun i => [(0, rowsD rs), (1, rowD r), (5, I (itB p rs.length i).1), (6, I (itB p rs.length i).2)]) rs.length (fun _ => True) 0 trivial (Wk.list [] rfl rfl ?_) (fun i hi _ => ?_) (Nat.zero_le _)
  · repeat' (first | (conv in hold _ => simp (disch := omega) only [go_sem]) | exact True.intro | exact Sub.refl _ | omega)
    exact ⟨rfl, rfl⟩
  · have hi3 := hinv i
    have hnx : itB p rs.length (i + 1) = stepB p (itB p rs.length i) := rfl
    have hstop := itB_end (p := p) (n := rs.length) (i := i)
    by_cases hlt : (itB p rs.length i).1 < (itB p rs.length i).2
    · generalize itB p rs.length i = s at hi3 hnx hstop hlt
      obtain ⟨lo, hi'⟩ := s
      simp only at hi3 hstop hlt
      have hmid : ((lo : Int) + (hi' : Int)).tdiv 2 = (((lo + hi') / 2 : Nat) : Int) := by
        rw [Int.tdiv_eq_ediv_of_nonneg (by omega)]
        omega
      have hw' : IntKind.i64.wrap (((lo + hi') / 2 : Nat) : Int) = (((lo + hi') / 2 : Nat) : Int) := wrap64 (by omega) (by omega)
      have hx := List.getElem?_eq_getElem (l := rs) (i := (lo + hi') / 2) (by omega)
      generalize rs[(lo + hi') / 2]'(by omega) = x at hx
      have hxl := hs x (List.mem_cons_of_mem _ (List.mem_of_getElem? hx))
      have hc := compareRows_spec x r (by omega) (by omega)
      have hatm := hat _ x hx
      have hmr : (lo + hi') / 2 < rs.length := by omega
      unfold stepB at hnx
      simp only [hlt, if_true] at hnx
      generalize (lo + hi') / 2 = m at hmid hw' hx hatm hmr hnx
      by_cases hm : cmpR x r ≤ 0
      · rw [decide_eq_false (by omega)] at hatm
        rw [hatm] at hnx
        simp only [Bool.false_eq_true, if_false] at hnx
        repeat' (first
          | with_reducible refine acc_none ?_ | (conv in hold _ => simp (disch := omega) only [go_sem, hmid, hw', List.getElem?_map, hx, Option.map_some]) | refine Stp.go ?_ | (with_reducible first | refine it_pos rfl ?_ | refine it_neg (by decide) ?_ | refine st_nil rfl ?_ | refine s_op ?_ ?_ | exact True.intro) | ((with_reducible first | refine dw_reg0 ?_ | refine dw_regB ?_); (conv => arg 3; whnf)) | (refine Spl.go (fun hq he => ?_) (fun hq he => ?_) <;> first | (exfalso; clear hq; omega) | ((try (first | (conv => arg 8; simp only [hq]) | (conv => arg 4; simp only [hq]))); clear hq)) | ((with_reducible first | refine c_split (fun hq => ?_) (fun hq => ?_) | refine q_split (fun hq => ?_) (fun hq => ?_)) <;> (try (first | (conv => arg 8; simp only [hq]) | (conv => arg 4; simp only [hq])))) | (with_reducible refine fin_0 ?_ (by first | rfl | (conv => lhs; simp only [go_sem, hmid, hw', List.getElem?_map, hx, Option.map_some])) ?_)
          | (with_reducible show evC _ _ _ _ _ _ _ _ _ _ _ _
             first
             | (refine c_doesE (hc) ?_ ?_ ?_
                · ((try (conv => rhs; simp (disch := omega) only [go_sem, hmid, hw', List.getElem?_map, hx, Option.map_some])); try rfl)
                · first | rfl | (conv => lhs; simp only [go_sem, hmid, hw', List.getElem?_map, hx, Option.map_some])))
          | exact Sub.refl _ | omega)
        refine ⟨by omega, trivial, Wk.list [] rfl rfl ?_⟩
        repeat' (first | (conv in hold _ => simp (disch := omega) only [go_sem, hnx]) | exact True.intro | exact Sub.refl _ | omega)
      · rw [decide_eq_true (by omega)] at hatm
        rw [hatm] at hnx
        simp only [if_true] at hnx
        repeat' (first
          | with_reducible refine acc_none ?_ | (conv in hold _ => simp (disch := omega) only [go_sem, hmid, hw', List.getElem?_map, hx, Option.map_some]) | refine Stp.go ?_ | (with_reducible first | refine it_pos rfl ?_ | refine it_neg (by decide) ?_ | refine st_nil rfl ?_ | refine s_op ?_ ?_ | exact True.intro) | ((with_reducible first | refine dw_reg0 ?_ | refine dw_regB ?_); (conv => arg 3; whnf)) | (refine Spl.go (fun hq he => ?_) (fun hq he => ?_) <;> first | (exfalso; clear hq; omega) | ((try (first | (conv => arg 8; simp only [hq]) | (conv => arg 4; simp only [hq]))); clear hq)) | ((with_reducible first | refine c_split (fun hq => ?_) (fun hq => ?_) | refine q_split (fun hq => ?_) (fun hq => ?_)) <;> (try (first | (conv => arg 8; simp only [hq]) | (conv => arg 4; simp only [hq])))) | (with_reducible refine fin_0 ?_ (by first | rfl | (conv => lhs; simp only [go_sem, hmid, hw', List.getElem?_map, hx, Option.map_some])) ?_)
          | (with_reducible show evC _ _ _ _ _ _ _ _ _ _ _ _
             first
             | (refine c_doesE (hc) ?_ ?_ ?_
                · ((try (conv => rhs; simp (disch := omega) only [go_sem, hmid, hw', List.getElem?_map, hx, Option.map_some])); try rfl)
                · first | rfl | (conv => lhs; simp only [go_sem, hmid, hw', List.getElem?_map, hx, Option.map_some])))
          | exact Sub.refl _ | omega)
        refine ⟨by omega, trivial, Wk.list [] rfl rfl ?_⟩
        repeat' (first | (conv in hold _ => simp (disch := omega) only [go_sem, hnx]) | exact True.intro | exact Sub.refl _ | omega)
    · have he1 := hstop hlt (rs.length - i)
      rw [show i + (rs.length - i) = rs.length by omega] at he1
      rw [he1] at hres
      generalize itB p rs.length i = s at hi3 hlt hres
      obtain ⟨lo, hi'⟩ := s
      simp only at hi3 hlt hres
      rw [hres]
      have t1 : (rs.map rowD).take lo = (rs.take lo).map rowD := List.map_take.symm
      have t2 : (rs.map rowD).take rs.length = rs.map rowD := take_all rowD rs
      have t3 : (rs.map rowD).drop lo = (rs.drop lo).map rowD := List.map_drop.symm
      have t4 : (rs.take lo).length = lo := by rw [List.length_take]; omega
      have t5 : (rs.drop lo).length = rs.length - lo := List.length_drop
      have t6 : ((rs.take lo).map rowD).take lo = (rs.take lo).map rowD := List.take_of_length_le (by rw [List.length_map, t4]; exact Nat.le_refl _)
      have t7 : ((rs.take lo).map rowD).length = lo := by rw [List.length_map, t4]
      have t8 : ((rs.take lo).map rowD ++ [rowD r]).length = lo + 1 := by rw [List.length_append, t7]; rfl
      have t9 : ((rs.take lo).map rowD ++ [rowD r]).take (lo + 1) = (rs.take lo).map rowD ++ [rowD r] := List.take_of_length_le (by rw [t8]; exact Nat.le_refl _)
      have ta : lo + 1 + (rs.length - lo) = rs.length + 1 := by omega
      have tb : ((rs.map rowD).take rs.length).drop lo = (rs.drop lo).map rowD := by rw [t2, t3]
      rw [rowD] at t8 t9
      repeat' (first
        | with_reducible refine acc_none ?_ | (conv in hold _ => simp (disch := omega) only [go_sem, t1, t2, t3, t4, t5, t6, t7, List.length_map, t8, t9]) | refine Stp.go ?_ | (with_reducible first | refine it_pos rfl ?_ | refine it_neg (by decide) ?_ | refine st_nil rfl ?_ | refine s_op ?_ ?_ | exact True.intro) | ((with_reducible first | refine dw_reg0 ?_ | refine dw_regB ?_); (conv => arg 3; whnf)) | (refine Spl.go (fun hq he => ?_) (fun hq he => ?_) <;> first | (exfalso; clear hq; omega) | ((try (first | (conv => arg 8; simp only [hq]) | (conv => arg 4; simp only [hq]))); clear hq)) | ((with_reducible first | refine c_split (fun hq => ?_) (fun hq => ?_) | refine q_split (fun hq => ?_) (fun hq => ?_)) <;> (try (first | (conv => arg 8; simp only [hq]) | (conv => arg 4; simp only [hq])))) | (with_reducible refine fin_0 ?_ (by first | rfl | (conv => lhs; simp only [go_sem, t1, t2, t3, t4, t5, t6, t7, List.length_map, t8, t9])) ?_)
        | (with_reducible show evC _ _ _ _ _ _ _ _ _ _ _ _
           first
           | (refine c_doesE (hcp) ?_ ?_ ?_
              · ((try (conv => rhs; simp (disch := omega) only [go_sem, t1, t2, t3, t4, t5, t6, t7, List.length_map, t8, t9])); try rfl)
              · first | rfl | (conv => lhs; simp only [go_sem, t1, t2, t3, t4, t5, t6, t7, List.length_map, t8, t9])))
        | exact Sub.refl _ | omega)
      refine fin_L [2000042] ?_ ?_ rfl ?_
      repeat' (first | (conv in hold _ => simp (disch := omega) only [go_sem, ta, List.map_append, List.map_cons]) | exact True.intro | exact Sub.refl _ | omega)
      refine congrArg (D.row 1) ?_
      have hren : ∀ l : List (List V), D.renL [2000042] (l.map rowD) = l.map rowD := rows_ren [2000042]
      have e5 : List.map rowD (rs.take lo) ++ D.sl 2 (List.map vD r) :: List.map rowD (rs.drop lo) = (rs.take lo ++ r :: rs.drop lo).map rowD := by rw [List.map_append, List.map_cons]; rfl
      rw [e5, hren, ← e5, List.append_assoc]
      rfl
end Go.Proofs.Ytbojmjopkadnaaa
