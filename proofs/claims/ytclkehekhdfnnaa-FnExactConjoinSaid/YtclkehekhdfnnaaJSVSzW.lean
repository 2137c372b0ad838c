/-
  The call of an exact law; structs that come in. No condition.
-/
import Derived.Test.YtclkehekhdfnnaaKSVGate
import Derived.Test.YtclkehekhdfnnaaKSDca
import Derived.Test.YtclkehekhdfnnaaJSVLib
import Derived.Test.YtclkehekhdfnnaaSVGo
set_option maxHeartbeats 4000000
set_option maxRecDepth 100000
namespace Go.Proofs.Ytclkehekhdfnnaa
open Go.ChangeShapes Go.WideShapes Go.ChangeAt Go.RowKit Go.Joins Go.Deep
theorem cells_int : Try.prog.cellsOf 3 = 1:=by kernel_rfl
section
variable {H : Type} {enc : TypeId × Value → H} {W : World} {base b0 : Nat} {held : Bool} {r : Reach} {v : Value} {d : DataW H} {p : List MemPlace}
theorem trod_4 {P : Program} {spare : Nat → Bool} {t : TypeId} {f0 f1 f2 f3 : Field} {fuel : Nat} {cs : List Value} {x : DataW H × List MemPlace} (ht : P.underlying t = some (.struct #[f0,f1,f2,f3])) (h : DataW.trod enc P W base spare held fuel t cs = some x) :
  ∃ y0 y1 y2 y3 n,fuel = n + 1 ∧ cs.length = P.cellsOf t ∧ DataW.trod enc P W base spare held n f0.type ((cs.drop f0.offset).take (P.cellsOf f0.type)) = some y0 ∧
   DataW.trod enc P W base spare held n f1.type ((cs.drop f1.offset).take (P.cellsOf f1.type)) = some y1 ∧ DataW.trod enc P W base spare held n f2.type ((cs.drop f2.offset).take (P.cellsOf f2.type)) = some y2 ∧
   DataW.trod enc P W base spare held n f3.type ((cs.drop f3.offset).take (P.cellsOf f3.type)) = some y3:=by
 obtain ⟨xs,n,hn,_,hl,hlen,hf⟩:=DataW.trod_struct ht h
 have hs : xs.length = 4:=by simpa using hlen
 match xs,hs with
 | [y0,y1,y2,y3],_=>exact ⟨y0,y1,y2,y3,n,hn,hl,by simpa using hf 0 f0 rfl,by simpa using hf 1 f1 rfl,by simpa using hf 2 f2 rfl,by simpa using hf 3 f3 rfl⟩
end
theorem calls_1 {f : FuncId} {d0 : D} {v0 : Value} {w : World} (h : Does Try.prog f [] [d0] (Bo true) []) (h0 : Fz w (allOf w) noNames d0 v0) : Calls Try.prog f #[v0] w fun e W'=>e = .returned (.bool true) ∧ Below w.heap.size w W':=by
 refine calls_of h w [v0] rfl (fun i d x hd hx=>?_)
 rcases i with _ | i
 ·obtain rfl : d0 = d:=by simpa using hd
  obtain rfl : v0 = x:=by simpa using hx
  exact h0
 ·simp at hd
end Go.Proofs.Ytclkehekhdfnnaa
set_option maxHeartbeats 4000000
set_option maxRecDepth 100000
namespace Go.Proofs.Ytclkehekhdfnnaa
open Go.RowKit
theorem toValue_ok (v : V) : Does Try.prog 33 [] [vD v] (vD v) []:=by
 exact Bg c_Z26 mixed (go0 trivial)
theorem eqValue_ok (v : V) : Does Try.prog 36 [] [vD v,vD v] (Bo true) []:=by
 exact Bg c_Z23 mixed (go0 trivial)
end Go.Proofs.Ytclkehekhdfnnaa
