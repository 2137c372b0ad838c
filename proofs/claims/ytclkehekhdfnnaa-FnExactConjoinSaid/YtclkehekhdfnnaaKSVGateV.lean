/-
  Values that come in, as plain data. No condition.
-/
import Derived.Test.YtclkehekhdfnnaaJSVSzW
set_option maxHeartbeats 4000000
set_option maxRecDepth 100000
namespace Go.Proofs.Ytclkehekhdfnnaa
open Go.ChangeShapes Go.WideShapes Go.ChangeAt Go.RowKit Go.Joins Go.Deep
theorem cells_LV : Try.prog.cellsOf 23 = 2:=by kernel_rfl
section
variable {H : Type} {enc : TypeId × Value → H} {W : World} {base b0 : Nat} {held : Bool} {r : Reach} {v : Value} {d : DataW H} {p : List MemPlace}
set_option maxRecDepth 100000 in
theorem trod_Vx {fuel : Nat} {cs : List Value} {x : DataW H × List MemPlace} {spare : Nat → Bool} (h : DataW.trod enc Try.prog W base spare held fuel 23 cs = some x) :
  ∃ u : V,CellsOK W (allOf W) noNames [Bo u.b,I u.n] cs:=by
 obtain ⟨y0,y1,n,_,hl,h0,h1⟩:=trod_struct2 Try.underlying23 h
 rw [cells_LV] at hl
 match cs,hl with
 | [c0,c1],_=>
  have e0 : (Try.prog.cellsOf 4) = 1:=by kernel_rfl
  simp only [e0,cells_int,List.drop_zero,List.drop_succ_cons,List.take_succ_cons,List.take_zero] at h0 h1
  obtain ⟨b,q0,_⟩:=DataW.trod_bool Try.underlying4 h0
  obtain ⟨m,q1⟩:=int_fz Try.underlying3 h1
  simp only [List.cons.injEq,and_true] at q0
  subst q0
  have q : CellsOK W (allOf W) noNames [Bo b] [.bool b]:=CellsOK.intro1 rfl (.v _ _)
  exact ⟨⟨b,m⟩,q.append q1⟩
end
end Go.Proofs.Ytclkehekhdfnnaa
