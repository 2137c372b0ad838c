/-
  Calls that are handed a loop's yield and hand out elements by it: what they say, how they are made, how they are proved. No condition.
-/
import Derived.Test.YtclkehekhdfnnaaJSVLib
set_option maxHeartbeats 4000000
set_option maxRecDepth 100000
set_option linter.unusedVariables false
set_option linter.unusedSimpArgs false
namespace Go.Proofs.Ytclkehekhdfnnaa
open Go.RowKit
section
variable {P : Program} {G : Ctx} {σ : Env} {B : List Nat} {l : List GI} {acc : Option (List Ent)} {N : Env → Prop} {rd wr : List Nat}
end
def entYC (i : Nat) (L : List D) (e k : Nat) (ds : List D) : Env:=(ent [] ds).set gh (.gho i L e k)
attribute [go_sem] entYC
def FinYC (rs : List Res) (r : D) (i : Nat) (L : List D) (e k' : Nat) (τ : Env) : Prop:=hold (τ gh) = .gho i L e k' ∧ resOk τ rs ∧ hold (resD τ rs) = r
end Go.Proofs.Ytclkehekhdfnnaa
set_option maxHeartbeats 4000000
set_option maxRecDepth 100000
set_option linter.unusedVariables false
set_option linter.unusedSimpArgs false
namespace Go.Proofs.Ytclkehekhdfnnaa
open Go.RowKit
theorem ints_pur : ∀ l : List Int,D.purL (l.map I) = true
 | []=>rfl
 | p :: l=>by rw [List.map_cons,D.purL,ints_pur l]; rfl
theorem ints_ren (L : List Nat) (l : List Int) : D.renL L (l.map I) = l.map I:=ren_pure.renL_pure L _ (ints_pur l)
attribute [go_sem] ints_pur ints_ren
end Go.Proofs.Ytclkehekhdfnnaa
