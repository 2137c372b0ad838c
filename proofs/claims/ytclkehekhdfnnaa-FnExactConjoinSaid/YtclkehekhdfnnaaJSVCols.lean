/-
  The small functions of folding. Search in a list of expressions. Constants with a truth, as both packages ask for them. Search in a list of expressions, for a value that captures a cell. The plain fold. No condition.
-/
import Derived.Test.YtclkehekhdfnnaaKSDca
import Derived.Test.YtclkehekhdfnnaaKSDcc
import Derived.Test.YtclkehekhdfnnaaKSVEsz
import Derived.Test.YtclkehekhdfnnaaJSVVa
import Derived.Test.YtclkehekhdfnnaaKSVVal
import Derived.Test.YtclkehekhdfnnaaKSVEvI
import Derived.Test.YtclkehekhdfnnaaJSVLib
import Derived.Test.YtclkehekhdfnnaaJSVCpE
import Derived.Test.YtclkehekhdfnnaaKSDcb
import Derived.Test.YtclkehekhdfnnaaSVGo
import Derived.Test.YtclkehekhdfnnaaJSVInt
import Derived.Test.YtclkehekhdfnnaaJSVSzW
import Derived.Test.YtclkehekhdfnnaaKSVGateV
import Derived.Test.YtclkehekhdfnnaaKSDcd
set_option maxHeartbeats 4000000
set_option maxRecDepth 100000
namespace Go.Proofs.Ytclkehekhdfnnaa
section
open Go.RowKit
theorem constantExpr_ok (v : V) : Does Try.prog 38 [] [vD v] (eD (.mk 2 0 v [])) []:=by
 refine does0 c_Z3 mixed (Nat.le_of_ble_eq_true rfl) ?_
 conv=>arg 3; whnf
 repeat' (first|with_reducible refine acc_none ?_ | (conv in hold _=>simp (disch:=omega) only [go_sem])|refine Stp.go ?_|(with_reducible first|refine it_pos rfl ?_|refine it_neg (by decide) ?_|refine st_nil rfl ?_|refine s_op ?_ ?_|exact trivial)|((with_reducible first|refine dw_reg0 ?_|refine dw_regB ?_);(conv=>arg 3;whnf))|(refine Spl.go (fun hq he=>?_) (fun hq he=>?_)<;>first|(exfalso;clear hq;omega)|((try first|(conv=>arg 8;simp only [hq])|(conv=>arg 4;simp only [hq]));clear hq))|((with_reducible first|refine c_split (fun hq=>?_) (fun hq=>?_)|refine q_split (fun hq=>?_) (fun hq=>?_))<;>(try first|(conv=>arg 8;simp only [hq])|(conv=>arg 4;simp only [hq])))|(with_reducible refine fin_0 ?_ (by first|rfl|(conv=>lhs;simp only [go_sem])) ?_)|exact Sub.refl _|omega)
 exact Sub.agg ⟨Sub.refl _,Sub.refl _,Sub.refl _,Sub.refl _,Sub.nul 5,trivial⟩
end
section
open Go.RowKit
def place (p : E → Bool) (l : List E) : Int:=if l.any p then (l.findIdx p : Int) else -1
end
section
open Go.RowKit
end
section
open Go.RowKit
end
section
open Go.RowKit
end
end Go.Proofs.Ytclkehekhdfnnaa
set_option maxHeartbeats 4000000
set_option maxRecDepth 100000
namespace Go.Proofs.Ytclkehekhdfnnaa
open Go.ChangeShapes Go.WideShapes Go.ChangeAt Go.RowKit Go.Joins Go.Deep
inductive Most : E → Prop
 | mk {k c : Int} {v : V} {ks : List E} (h : ks.length ≤ big) (hk : ∀ x,x ∈ ks → Most x) : Most (.mk k c v ks)
theorem Most.len {e : E} (h : Most e) : e.ks.length ≤ big:=by cases h; assumption
theorem Most.kid {e x : E} (h : Most e) (hx : x ∈ e.ks) : Most x:=by cases h with | mk _ hk=>exact hk x hx
theorem cells_LE : Try.prog.cellsOf 26 = 5:=by kernel_rfl
section
variable {H : Type} {enc : TypeId × Value → H} {W : World} {base b0 : Nat} {held : Bool} {r : Reach} {v : Value} {d : DataW H} {p : List MemPlace}
set_option maxRecDepth 100000 in
theorem trod_Ex : ∀ (fuel : Nat) (cs : List Value) (x : DataW H × List MemPlace),DataW.trod enc Try.prog W base (fun _=>true) held fuel 26 cs = some x →
  ∃ e : E,CellsOK W (allOf W) noNames (eD e).cells cs ∧ Most e:=by
 intro fuel
 induction fuel using Nat.strongRecOn with
 | ind fuel IH=>
  intro cs x h
  obtain ⟨y0,y1,y2,y3,n,rfl,hl,h0,h1,h2,h3⟩:=trod_4 Try.underlying26 h
  rw [cells_LE] at hl
  match cs,hl with
  | [c0,c1,c2,c3,c4],_=>
   have e1 : (Try.prog.cellsOf 24) = 1:=by kernel_rfl
   simp only [cells_int,e1,cells_LV,List.drop_zero,List.drop_succ_cons,List.take_succ_cons,List.take_zero] at h0 h1 h2 h3
   obtain ⟨k,q0⟩:=int_fz Try.underlying3 h0
   obtain ⟨c,q1⟩:=int_fz Try.underlying3 h1
   obtain ⟨u,q2⟩:=trod_Vx h2
   obtain ⟨ks,hq,hlen,q3⟩:=slice_fz Try.underlying24 cells_LE (by decide) eD Most h3 (fun n' hn' cs' x' h'=>by
    obtain ⟨e,ho,hm⟩:=IH n' (by omega) cs' x' h'
    exact ⟨e,by rw [eD_eq]; rfl,ho,hm⟩)
   exact ⟨.mk k c u ks,by rw [eD_eq]; exact q0.append (q1.append (q2.append q3)),.mk hlen hq⟩
end
end Go.Proofs.Ytclkehekhdfnnaa
set_option maxHeartbeats 4000000
set_option maxRecDepth 100000
namespace Go.Proofs.Ytclkehekhdfnnaa
open Go.RowKit
attribute [go_sem] Nat.mul_one
end Go.Proofs.Ytclkehekhdfnnaa
