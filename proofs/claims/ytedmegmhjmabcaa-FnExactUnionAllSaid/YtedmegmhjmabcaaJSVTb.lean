/-
  Tables compared by the laws. No condition.
-/
import Derived.Test.YtedmegmhjmabcaaJSVGateV
import Derived.Test.YtedmegmhjmabcaaJSVTbD
import Derived.Test.YtedmegmhjmabcaaJSVCall
import Derived.Test.YtedmegmhjmabcaaJSVSzW
import Derived.Test.YtedmegmhjmabcaaKSVSem
set_option maxHeartbeats 4000000
set_option maxRecDepth 100000
set_option linter.unusedVariables false
set_option linter.unusedSimpArgs false
namespace Go.Proofs.Ytedmegmhjmabcaa
open Go.RowKit
noncomputable instance rowsDec : DecidableEq (List (List V)):=fun a b=>Classical.propDecidable _
noncomputable instance taDec : DecidableEq Ta:=fun a b=>Classical.propDecidable _
end Go.Proofs.Ytedmegmhjmabcaa
set_option maxHeartbeats 4000000
set_option maxRecDepth 100000
namespace Go.Proofs.Ytedmegmhjmabcaa
open Go.ChangeShapes Go.WideShapes Go.ChangeAt Go.RowKit Go.Joins Go.Deep
inductive Most : E → Prop
 | mk {k c : Int} {v : V} {ks : List E} (h : ks.length ≤ big) (hk : ∀ x,x ∈ ks → Most x) : Most (.mk k c v ks)
theorem Most.len {e : E} (h : Most e) : e.ks.length ≤ big:=by cases h; assumption
section
variable {H : Type} {enc : TypeId × Value → H} {W : World} {base b0 : Nat} {held : Bool} {r : Reach} {v : Value} {d : DataW H} {p : List MemPlace}
end
end Go.Proofs.Ytedmegmhjmabcaa
set_option maxHeartbeats 4000000
set_option maxRecDepth 100000
namespace Go.Proofs.Ytedmegmhjmabcaa
open Go.ChangeShapes Go.WideShapes Go.ChangeAt Go.RowKit Go.Joins Go.Deep
def mostR (rs : List (List V)) : Prop:=rs.length ≤ big ∧ ∀ r,r ∈ rs → r.length ≤ big
theorem cells_LVS : Try.prog.cellsOf 114 = 1:=by kernel_rfl
theorem cells_LT : Try.prog.cellsOf 24 = 2:=by kernel_rfl
section
variable {H : Type} {enc : TypeId × Value → H} {W : World} {base b0 : Nat} {held : Bool} {r : Reach} {v : Value} {d : DataW H} {p : List MemPlace}
set_option maxRecDepth 100000 in
theorem trod_row {fuel : Nat} {cs : List Value} {x : DataW H × List MemPlace} (h : DataW.trod enc Try.prog W base (fun _=>true) held fuel 114 cs = some x) :
  ∃ l : List V,l.length ≤ big ∧ CellsOK W (allOf W) noNames [rowD l] cs:=by
 obtain ⟨l,_,hlen,q⟩:=slice_fz Try.underlying114 cells_LV (by decide) vD (fun _=>True) h (fun n' _ cs' x' h'=>by
  obtain ⟨m,hm⟩:=trod_Vx h'
  exact ⟨m,rfl,hm,trivial⟩)
 exact ⟨l,hlen,q⟩
set_option maxRecDepth 100000 in
theorem trod_rows {fuel : Nat} {cs : List Value} {x : DataW H × List MemPlace} (h : DataW.trod enc Try.prog W base (fun _=>true) held fuel 22 cs = some x) :
  ∃ l : List (List V),mostR l ∧ CellsOK W (allOf W) noNames [rowsD l] cs:=by
 obtain ⟨l,hq,hlen,q⟩:=slice_fz Try.underlying22 cells_LVS (by decide) rowD (fun r=>r.length ≤ big) h (fun n' _ cs' x' h'=>by
  obtain ⟨m,hl,hm⟩:=trod_row h'
  exact ⟨m,rfl,hm,hl⟩)
 exact ⟨l,⟨hlen,hq⟩,q⟩
def IsTa (w : World) (v : Value) (t : Ta) : Prop:=mostR t.rows ∧ Fz w (allOf w) noNames (taD t) v
set_option maxRecDepth 100000 in
theorem open_pT (hv : Value.okWide Try.prog W r b0 24 v) (h : DataW.Trod enc Try.prog W base (fun _=>true) held 24 v d p) (_lt : ∀ x ∈ p,x.block < W.heap.size) :
  ∃ t : Ta,IsTa W v t:=by
 obtain ⟨cs,rfl,_⟩:=okWide_struct Try.underlying24 hv
 obtain ⟨fuel,hf⟩:=h
 obtain ⟨y0,y1,n,_,hl,h0,h1⟩:=trod_struct2 Try.underlying24 hf
 rw [cells_LT] at hl
 have e1 : (Try.prog.cellsOf 22) = 1:=by kernel_rfl
 generalize hcc : (Value.agg cs).cells.toList = cc at hl h0 h1
 match cc,hl with
 | [c0,c1],_=>
  simp only [cells_int,e1,List.drop_zero,List.drop_succ_cons,List.take_succ_cons,List.take_zero] at h0 h1
  obtain ⟨k,q0⟩:=int_fz Try.underlying3 h0
  obtain ⟨rs,hm,q1⟩:=trod_rows h1
  refine ⟨⟨k,rs⟩,hm,agg_fz ?_⟩
  have hcs : cs.toList = [c0,c1]:=hcc
  rw [hcs]
  exact q0.append q1
end
end Go.Proofs.Ytedmegmhjmabcaa
