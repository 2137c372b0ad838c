/-
  What insertion sorts rest on. No condition.
-/
import Derived.Test.YtjjcokmnebkbiaaVTbD
set_option maxHeartbeats 4000000
set_option maxRecDepth 100000
set_option linter.unusedVariables false
set_option linter.unusedSimpArgs false
namespace Go.Proofs.Ytjjcokmnebkbiaa
open Go.RowKit

/-- A loop over whatever states. -/
theorem dw_any {P : Program} {k : Nat} {a : DC} {σ : Env} {N : Env → Prop} {X : Nat → Env → Prop} {R : Env → Prop} {ι : Type} {c : Nat} {l : ι → List (Nat × D)} (J : ι → Prop) (m : ι → Nat) (i : ι) (hJ : J i) (hw : Wk k σ (ofL c (l i)))
    (h : ∀ i, J i → dwp P k a (hold (ofL c (l i))) (fun τ => ∃ j, J j ∧ m j < m i ∧ Wk k τ (ofL c (l j))) X R) : dwp P k (.loop a) σ N X R := dw_loop (fun i => ofL c (l i)) J m i hJ hw h
section
variable {α : Type}
theorem swap_at (y x : α) (B : List α) : ∀ A : List α, ((A ++ y :: x :: B).set (A.length + 1) y).set A.length x = A ++ x :: y :: B
  | [] => rfl
  | a :: A => congrArg (List.cons a) (swap_at y x B A)
theorem ins_pw {R : α → α → Prop} {A B : List α} {x : α} (hp : (A ++ B).Pairwise R) (hA : ∀ a, a ∈ A → R a x) (hB : ∀ b, b ∈ B → R x b) : (A ++ x :: B).Pairwise R := by
  obtain ⟨h1, h2, h3⟩ := List.pairwise_append.1 hp
  refine List.pairwise_append.2 ⟨h1, List.pairwise_cons.2 ⟨hB, h2⟩, fun a ha b hb => ?_⟩
  rcases List.mem_cons.1 hb with rfl | hb
  · exact hA a ha
  · exact h3 a ha b hb
theorem mid_get (A : List α) (x : α) (B : List α) : (A ++ x :: B)[A.length]? = some x := by rw [List.getElem?_append_right (Nat.le_refl _), Nat.sub_self]; rfl
/-- What an insertion sort asks of a comparison: where the element at i is put among those before it. -/
structure InsOK (c : α → α → Int) (R : α → α → Prop) (l : List α) : Prop where
  lt : ∀ (i j : Nat) (x y : α), j < i → l[i]? = some x → l[j]? = some y → c x y < 0 → R x y
  ge : ∀ (i j : Nat) (x y : α), j < i → l[i]? = some x → l[j]? = some y → ¬ c x y < 0 → R y x
  tr : ∀ x y z, x ∈ l → y ∈ l → z ∈ l → R x y → R y z → R x z
end
end Go.Proofs.Ytjjcokmnebkbiaa
