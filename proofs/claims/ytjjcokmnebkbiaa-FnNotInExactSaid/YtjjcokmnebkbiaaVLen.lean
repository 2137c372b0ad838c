/-
  The length of a number in bits. No condition.
-/
import Derived.Shelf.Small.Bits
import Derived.Test.YtjjcokmnebkbiaaVLenL
set_option maxHeartbeats 4000000
set_option maxRecDepth 100000
set_option linter.unusedVariables false
set_option linter.unusedSimpArgs false
namespace Go.Proofs.Ytjjcokmnebkbiaa
open Go.RowKit

theorem len_ok (n : Nat) (hn : n < 1000000) : Does Try.prog 53 [] [.v (.int .u64 n)] (I (Lib.bitLen n)) [] := by
  intro w F m xs hxs _ wf hds hH hm0 hinj
  match xs, hxs with
  | [x0], _ =>
  have h0 := hds 0 _ x0 rfl rfl
  obtain rfl : x0 = .int .u64 n := h0.v_eq
  refine (Any.bits_Len lenL n w (by omega) (by omega)).mono ?_
  rintro e w' ⟨rfl, rfl⟩
  exact ⟨_, F, m, rfl, Chg.refl w' F _, wf, fun _ _ => rfl, hm0, .v _ _, fun i d hd => by simp at hd, fun i j b d d' hi hj _ _ h3 h4 => by simp at hi, fun i d b hd _ h3 => by simp at hd⟩
end Go.Proofs.Ytjjcokmnebkbiaa
