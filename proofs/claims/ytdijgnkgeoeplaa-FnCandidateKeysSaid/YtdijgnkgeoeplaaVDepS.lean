/-
  Closures, derivations and keys, as the model computes them. No condition.
-/
import Derived.Test.YtdijgnkgeoeplaaVDepD
set_option maxHeartbeats 4000000
set_option maxRecDepth 100000
set_option linter.unusedVariables false
set_option linter.unusedSimpArgs false
namespace Go.Proofs.Ytdijgnkgeoeplaa
open Go.RowKit

/-- What a pass has changed before the i-th dependency. -/
noncomputable def chg (l : List De) (s : Int) (i : Nat) : Bool := decide (s < fold (l.take i) s)
theorem chg_0 (l : List De) (s : Int) : chg l s 0 = false := decide_eq_false (by rw [List.take_zero]; exact Int.lt_irrefl s)
theorem chg_f {l : List De} {s : Int} {i : Nat} {x : De} (hx : l[i]? = some x) (h : ¬ fires x (fold (l.take i) s)) : chg l s (i + 1) = chg l s i := by
  unfold chg
  rw [fold_next hx, stp_f h]
theorem chg_t {w : Int} (hw : 1 ≤ w ∧ w ≤ 6) {l : List De} (hl : ∀ d, d ∈ l → deOk w d) {s : Int} (hs : sOk w s) {i : Nat} {x : De} (hx : l[i]? = some x) (h : fires x (fold (l.take i) s)) : chg l s (i + 1) = true := by
  unfold chg
  rw [fold_next hx, decide_eq_true_iff]
  have h1 := fold_le hw (l.take i) s (take_deOk hl i) hs
  have h2 := (stp_le hw (hl x (List.mem_of_getElem? hx)) (fold_ok hw (l.take i) s (take_deOk hl i) hs)).2.2 h
  omega
theorem closureOf_ok {l : List De} {w : Int} (h : dsOk w l) {s : Int} (hs : sOk w s) : Does Try.prog 77 [] [desD l, I s] (I (cl l s)) [] := by
  obtain ⟨hw, hlen, hl⟩ := h
  obtain ⟨k, hk, hlt, hk1, hk0⟩ := passes hw hl hs
  have hstay : ∀ i, i ≤ k + 1 → ¬ i ≤ k → itd l s i = cl l s := fun i h1 h2 => by rw [show i = k + 1 by omega]; exact hk1
  refine does0 c_spec_closureOf mixed (Nat.le_of_ble_eq_true rfl) ?_
  conv => arg 3; whnf
  repeat' (first
    | with_reducible refine acc_none ?_
    | (conv in hold _ => simp (disch := omega) only [go_sem, Nat.reduceEqDiff, Nat.reduceAdd, Nat.reduceMul, Nat.reduceSub, Nat.reduceLT, Nat.reduceLeDiff, ↓reduceIte, reduceCtorEq, Int.reduceToNat])
    | refine Stp.go ?_
    | with_reducible first | refine it_pos rfl ?_ | refine it_neg (by decide) ?_ | refine st_nil rfl ?_ | refine s_op ?_ ?_ | exact True.intro
    | ((with_reducible first | refine dw_reg0 ?_ | refine dw_regB ?_); (conv => arg 3; whnf))
    | (refine Spl.go (fun hq he => ?_) (fun hq he => ?_) <;> first | (exfalso; clear hq; omega) | ((try (first | (conv => arg 8; simp only [hq]) | (conv => arg 4; simp only [hq]))); clear hq))
    | ((with_reducible first | refine c_split (fun hq => ?_) (fun hq => ?_) | refine q_split (fun hq => ?_) (fun hq => ?_)) <;> (try (first | (conv => arg 8; simp only [hq]) | (conv => arg 4; simp only [hq]))))
    | (with_reducible refine fin_0 ?_ (by first | rfl | (conv => lhs; simp only [go_sem])) ?_)
    | exact Sub.refl _
    | omega)
  refine dw_for (c := 0) (l := fun i => [(0, desD l), (1, I (itd l s i)), (5, Bo (decide (i ≤ k)))]) (k + 1) (fun _ => True) 0 trivial (Wk.list [] rfl rfl ?_) (fun i hi _ => ?_) (Nat.zero_le _)
  · repeat' (first | (conv in hold _ => simp (disch := omega) only [go_sem, Nat.reduceEqDiff, Nat.reduceAdd, Nat.reduceMul, Nat.reduceSub, Nat.reduceLT, Nat.reduceLeDiff, ↓reduceIte, reduceCtorEq, Int.reduceToNat, decide_eq_true (Nat.zero_le k)]) | exact True.intro | exact Sub.refl _ | omega)
    exact rfl
  · have hci := itd_ok hw hl hs i
    by_cases hik : i ≤ k
    · repeat' (first
        | with_reducible refine acc_none ?_
        | (conv in hold _ => simp (disch := omega) only [go_sem, Nat.reduceEqDiff, Nat.reduceAdd, Nat.reduceMul, Nat.reduceSub, Nat.reduceLT, Nat.reduceLeDiff, ↓reduceIte, reduceCtorEq, Int.reduceToNat, decide_eq_true hik])
        | refine Stp.go ?_
        | with_reducible first | refine it_pos rfl ?_ | refine it_neg (by decide) ?_ | refine st_nil rfl ?_ | refine s_op ?_ ?_ | exact True.intro
        | ((with_reducible first | refine dw_reg0 ?_ | refine dw_regB ?_); (conv => arg 3; whnf))
        | (refine Spl.go (fun hq he => ?_) (fun hq he => ?_) <;> first | (exfalso; clear hq; omega) | ((try (first | (conv => arg 8; simp only [hq]) | (conv => arg 4; simp only [hq]))); clear hq))
        | ((with_reducible first | refine c_split (fun hq => ?_) (fun hq => ?_) | refine q_split (fun hq => ?_) (fun hq => ?_)) <;> (try (first | (conv => arg 8; simp only [hq]) | (conv => arg 4; simp only [hq]))))
        | (with_reducible refine fin_0 ?_ (by first | rfl | (conv => lhs; simp only [go_sem, decide_eq_true hik])) ?_)
        | exact Sub.refl _
        | omega)
      refine dw_for (c := 0) (l := fun j => [(0, desD l), (1, I (fold (l.take j) (itd l s i))), (5, Bo (chg l (itd l s i) j)), (6, I j)]) l.length (fun _ => True) 0 trivial (Wk.list [] rfl rfl ?_) (fun j hj _ => ?_) (Nat.zero_le _)
      · rw [chg_0, List.take_zero]
        repeat' (first | (conv in hold _ => simp (disch := omega) only [go_sem, Nat.reduceEqDiff, Nat.reduceAdd, Nat.reduceMul, Nat.reduceSub, Nat.reduceLT, Nat.reduceLeDiff, ↓reduceIte, reduceCtorEq, Int.reduceToNat]) | exact True.intro | exact Sub.refl _ | omega)
        exact ⟨rfl, rfl⟩
      · have hcj := fold_ok hw (l.take j) _ (take_deOk hl j) hci
        have hcS := hcj.inS hw
        rcases at_or_end hj with ⟨x, hx, hjlt⟩ | rfl
        · have hm := hl x (List.mem_of_getElem? hx)
          have hfS := hm.1.inS hw
          have htS := hm.2.inS hw
          have hn := fold_next (s := itd l s i) hx
          by_cases h1 : sub x.f (fold (l.take j) (itd l s i))
          · have e1 := and_t hfS hcS h1
            by_cases h2 : sub x.t (fold (l.take j) (itd l s i))
            · have e2 := andn_f htS hcS h2
              have hnf : ¬ fires x (fold (l.take j) (itd l s i)) := fun h => h.2 h2
              have e3 := chg_f hx hnf
              repeat' (first
                | with_reducible refine acc_none ?_
                | (conv in hold _ => simp (disch := omega) only [go_sem, Nat.reduceEqDiff, Nat.reduceAdd, Nat.reduceMul, Nat.reduceSub, Nat.reduceLT, Nat.reduceLeDiff, ↓reduceIte, reduceCtorEq, Int.reduceToNat, List.getElem?_map, hx, Option.map_some, e1, e2])
                | refine Stp.go ?_
                | with_reducible first | refine it_pos rfl ?_ | refine it_neg (by decide) ?_ | refine st_nil rfl ?_ | refine s_op ?_ ?_ | exact True.intro
                | ((with_reducible first | refine dw_reg0 ?_ | refine dw_regB ?_); (conv => arg 3; whnf))
                | (refine Spl.go (fun hq he => ?_) (fun hq he => ?_) <;> first | (exfalso; clear hq; omega) | ((try (first | (conv => arg 8; simp only [hq]) | (conv => arg 4; simp only [hq]))); clear hq))
                | ((with_reducible first | refine c_split (fun hq => ?_) (fun hq => ?_) | refine q_split (fun hq => ?_) (fun hq => ?_)) <;> (try (first | (conv => arg 8; simp only [hq]) | (conv => arg 4; simp only [hq]))))
                | (with_reducible refine fin_0 ?_ (by first | rfl | (conv => lhs; simp only [go_sem, List.getElem?_map, hx, Option.map_some, e1, e2])) ?_)
                | exact Sub.refl _
                | omega)
              refine ⟨hjlt, trivial, Wk.list [] rfl rfl ?_⟩
              repeat' (first | (conv in hold _ => simp (disch := omega) only [go_sem, Nat.reduceEqDiff, Nat.reduceAdd, Nat.reduceMul, Nat.reduceSub, Nat.reduceLT, Nat.reduceLeDiff, ↓reduceIte, reduceCtorEq, Int.reduceToNat, hn, stp_f hnf, e3]) | exact True.intro | exact Sub.refl _ | omega)
            · have e2 := andn_t htS hcS h2
              have hf : fires x (fold (l.take j) (itd l s i)) := ⟨h1, h2⟩
              have e3 := chg_t hw hl hci hx hf
              repeat' (first
                | with_reducible refine acc_none ?_
                | (conv in hold _ => simp (disch := omega) only [go_sem, Nat.reduceEqDiff, Nat.reduceAdd, Nat.reduceMul, Nat.reduceSub, Nat.reduceLT, Nat.reduceLeDiff, ↓reduceIte, reduceCtorEq, Int.reduceToNat, List.getElem?_map, hx, Option.map_some, e1, e2])
                | refine Stp.go ?_
                | with_reducible first | refine it_pos rfl ?_ | refine it_neg (by decide) ?_ | refine st_nil rfl ?_ | refine s_op ?_ ?_ | exact True.intro
                | ((with_reducible first | refine dw_reg0 ?_ | refine dw_regB ?_); (conv => arg 3; whnf))
                | (refine Spl.go (fun hq he => ?_) (fun hq he => ?_) <;> first | (exfalso; clear hq; omega) | ((try (first | (conv => arg 8; simp only [hq]) | (conv => arg 4; simp only [hq]))); clear hq))
                | ((with_reducible first | refine c_split (fun hq => ?_) (fun hq => ?_) | refine q_split (fun hq => ?_) (fun hq => ?_)) <;> (try (first | (conv => arg 8; simp only [hq]) | (conv => arg 4; simp only [hq]))))
                | (with_reducible refine fin_0 ?_ (by first | rfl | (conv => lhs; simp only [go_sem, List.getElem?_map, hx, Option.map_some, e1, e2])) ?_)
                | exact Sub.refl _
                | omega)
              refine ⟨hjlt, trivial, Wk.list [] rfl rfl ?_⟩
              repeat' (first | (conv in hold _ => simp (disch := omega) only [go_sem, Nat.reduceEqDiff, Nat.reduceAdd, Nat.reduceMul, Nat.reduceSub, Nat.reduceLT, Nat.reduceLeDiff, ↓reduceIte, reduceCtorEq, Int.reduceToNat, hn, stp_t hf, e3]) | exact True.intro | exact Sub.refl _ | omega)
          · have e1 := and_f hfS hcS h1
            have hnf := fires_no h1
            have e3 := chg_f hx hnf
            repeat' (first
              | with_reducible refine acc_none ?_
              | (conv in hold _ => simp (disch := omega) only [go_sem, Nat.reduceEqDiff, Nat.reduceAdd, Nat.reduceMul, Nat.reduceSub, Nat.reduceLT, Nat.reduceLeDiff, ↓reduceIte, reduceCtorEq, Int.reduceToNat, List.getElem?_map, hx, Option.map_some, e1])
              | refine Stp.go ?_
              | with_reducible first | refine it_pos rfl ?_ | refine it_neg (by decide) ?_ | refine st_nil rfl ?_ | refine s_op ?_ ?_ | exact True.intro
              | ((with_reducible first | refine dw_reg0 ?_ | refine dw_regB ?_); (conv => arg 3; whnf))
              | (refine Spl.go (fun hq he => ?_) (fun hq he => ?_) <;> first | (exfalso; clear hq; omega) | ((try (first | (conv => arg 8; simp only [hq]) | (conv => arg 4; simp only [hq]))); clear hq))
              | ((with_reducible first | refine c_split (fun hq => ?_) (fun hq => ?_) | refine q_split (fun hq => ?_) (fun hq => ?_)) <;> (try (first | (conv => arg 8; simp only [hq]) | (conv => arg 4; simp only [hq]))))
              | (with_reducible refine fin_0 ?_ (by first | rfl | (conv => lhs; simp only [go_sem, List.getElem?_map, hx, Option.map_some, e1])) ?_)
              | exact Sub.refl _
              | omega)
            refine ⟨hjlt, trivial, Wk.list [] rfl rfl ?_⟩
            repeat' (first | (conv in hold _ => simp (disch := omega) only [go_sem, Nat.reduceEqDiff, Nat.reduceAdd, Nat.reduceMul, Nat.reduceSub, Nat.reduceLT, Nat.reduceLeDiff, ↓reduceIte, reduceCtorEq, Int.reduceToNat, hn, stp_f hnf, e3]) | exact True.intro | exact Sub.refl _ | omega)
        · have e4 : chg l (itd l s i) l.length = decide (i + 1 ≤ k) := by
            unfold chg
            rw [fold_end, Bool.eq_iff_iff, decide_eq_true_iff, decide_eq_true_iff]
            constructor
            · intro h
              apply Decidable.byContradiction
              intro hn
              obtain rfl : i = k := by omega
              have : itd l s (i + 1) = itd l s i := by rw [hk1, hk0]
              have e : fold l (itd l s i) = itd l s i := this
              omega
            · intro h
              exact hlt i (by omega)
          repeat' (first
            | with_reducible refine acc_none ?_
            | (conv in hold _ => simp (disch := omega) only [go_sem, Nat.reduceEqDiff, Nat.reduceAdd, Nat.reduceMul, Nat.reduceSub, Nat.reduceLT, Nat.reduceLeDiff, ↓reduceIte, reduceCtorEq, Int.reduceToNat])
            | refine Stp.go ?_
            | with_reducible first | refine it_pos rfl ?_ | refine it_neg (by decide) ?_ | refine st_nil rfl ?_ | refine s_op ?_ ?_ | exact True.intro
            | ((with_reducible first | refine dw_reg0 ?_ | refine dw_regB ?_); (conv => arg 3; whnf))
            | (refine Spl.go (fun hq he => ?_) (fun hq he => ?_) <;> first | (exfalso; clear hq; omega) | ((try (first | (conv => arg 8; simp only [hq]) | (conv => arg 4; simp only [hq]))); clear hq))
            | ((with_reducible first | refine c_split (fun hq => ?_) (fun hq => ?_) | refine q_split (fun hq => ?_) (fun hq => ?_)) <;> (try (first | (conv => arg 8; simp only [hq]) | (conv => arg 4; simp only [hq]))))
            | (with_reducible refine fin_0 ?_ (by first | rfl | (conv => lhs; simp only [go_sem])) ?_)
            | exact Sub.refl _
            | omega)
          refine ⟨by omega, trivial, Wk.list [] rfl rfl ?_⟩
          repeat' (first | (conv in hold _ => simp (disch := omega) only [go_sem, Nat.reduceEqDiff, Nat.reduceAdd, Nat.reduceMul, Nat.reduceSub, Nat.reduceLT, Nat.reduceLeDiff, ↓reduceIte, reduceCtorEq, Int.reduceToNat, e4, fold_end]) | exact True.intro | exact Sub.refl _ | omega)
          exact rfl
    · have he := hstay i hi hik
      repeat' (first
        | with_reducible refine acc_none ?_
        | (conv in hold _ => simp (disch := omega) only [go_sem, Nat.reduceEqDiff, Nat.reduceAdd, Nat.reduceMul, Nat.reduceSub, Nat.reduceLT, Nat.reduceLeDiff, ↓reduceIte, reduceCtorEq, Int.reduceToNat, decide_eq_false hik, he])
        | refine Stp.go ?_
        | with_reducible first | refine it_pos rfl ?_ | refine it_neg (by decide) ?_ | refine st_nil rfl ?_ | refine s_op ?_ ?_ | exact True.intro
        | ((with_reducible first | refine dw_reg0 ?_ | refine dw_regB ?_); (conv => arg 3; whnf))
        | (refine Spl.go (fun hq he => ?_) (fun hq he => ?_) <;> first | (exfalso; clear hq; omega) | ((try (first | (conv => arg 8; simp only [hq]) | (conv => arg 4; simp only [hq]))); clear hq))
        | ((with_reducible first | refine c_split (fun hq => ?_) (fun hq => ?_) | refine q_split (fun hq => ?_) (fun hq => ?_)) <;> (try (first | (conv => arg 8; simp only [hq]) | (conv => arg 4; simp only [hq]))))
        | (with_reducible refine fin_0 ?_ (by first | rfl | (conv => lhs; simp only [go_sem, decide_eq_false hik, he])) ?_)
        | exact Sub.refl _
        | omega)
/-- A dependency that keeps to normal form. -/
def nfOk (l : List De) (w : Int) (d : De) : Prop := sub d.t d.f ∨ cl l d.f = top w
end Go.Proofs.Ytdijgnkgeoeplaa
