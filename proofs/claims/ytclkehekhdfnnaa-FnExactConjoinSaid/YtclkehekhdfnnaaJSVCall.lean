/-
  Drawn values and rows. No condition.
-/
import Derived.Test.YtclkehekhdfnnaaJSVLib
set_option maxHeartbeats 4000000
set_option maxRecDepth 100000
namespace Go.Proofs.Ytclkehekhdfnnaa
open Go.RowKit
structure V.near (v : V) : Prop where
 lo : -10000 ≤ v.n
 hi : v.n ≤ 10000
end Go.Proofs.Ytclkehekhdfnnaa
set_option maxRecDepth 100000
namespace Go.Proofs.Ytclkehekhdfnnaa
open Go.RowKit
def allOf (w : World) : Cells:=fun b _=>b < w.heap.size
theorem calls_of {P : Program} {f : FuncId} {ds : List D} (h : Does P f [] ds (Bo true) []) (w : World) (xs : List Value) (hl : xs.length = ds.length)
  (hx : ∀ (i : Nat) (d : D) (x : Value),ds[i]? = some d → xs[i]? = some x → Fz w (allOf w) noNames d x) : Calls P f xs.toArray w fun e W'=>e = .returned (.bool true) ∧ Below w.heap.size w W':=by
 refine (h w (allOf w) noNames xs hl (Nat.le_refl _) (fun b o h=>h) hx (fun i d h=>by simp at h) (fun _ _=>rfl) (fun i j b hi=>by simp at hi)).mono ?_
 rintro e w' ⟨x,F',m',rfl,c,_,_,_,hx,_⟩
 obtain rfl:=hx.v_eq
 exact ⟨rfl,c.os,c.tape,c.output,c.size,fun k hk=>c.block k hk (fun ⟨i,hi,_⟩=>by simp at hi)⟩
end Go.Proofs.Ytclkehekhdfnnaa
