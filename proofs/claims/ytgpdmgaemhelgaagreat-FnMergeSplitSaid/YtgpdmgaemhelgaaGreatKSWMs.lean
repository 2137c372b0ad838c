/-
  The law that splitting a merged filter restores both filters. No condition.
-/
import Derived.Test.YtgpdmgaemhelgaaGreatKSDcWMs
import Derived.Test.YtgpdmgaemhelgaaGreatKSDca
import Derived.Test.YtgpdmgaemhelgaaGreatJSVStW
import Derived.Test.YtgpdmgaemhelgaaGreatJSVCall
set_option maxHeartbeats 4000000
set_option maxRecDepth 100000
set_option linter.unusedVariables false
set_option linter.unusedSimpArgs false
namespace Go.Proofs.YtgpdmgaemhelgaaGreat
open Go.RowKit
theorem does_FnMergeSplit (cs : List Nat) (hc : ∀ b,b ∈ cs → b < 256) : Does Tryz.prog 6 [] [bytesD cs] (Bo true) []:=by
 by_cases hlen : cs.length ≤ 1048576
 ·obtain ⟨p,ws,r,l,hdr,hz,hwl,hll,hr12⟩:=DrawApplyStep_ok cs hc
  obtain ⟨a1,a2⟩:=ApplyStep_two p (by omega) ws (by omega) 1 [] (by decide)
  have a1:=a1.weak (es:=[pD p,intsD ws,.agg [I 1,.nul]]) ⟨Sub.refl _,Sub.refl _,step_nil 1,trivial⟩ (Sub.refl _)
  have a2:=a2.weak (es:=[pD p,intsD ws,.agg [I 1,.nul]]) ⟨Sub.refl _,Sub.refl _,step_nil 1,trivial⟩ (Sub.refl _)
  cases ho : apO ws 1 [] p with
  | none=>
   rw [ho] at a1 a2
   obtain ⟨b1,b2⟩:=ApplyStep_two p (by omega) ws (by omega) r l (by omega)
   have e1:=equalPlans_ok zP (by decide)
   rw [paD_eq] at b1 b2
   unfold paD at a1 a2
   generalize (apO ws r l p).isSome = ob at *
   generalize (apO ws r l p).getD zP = ox at *
   unfold stD at hdr b1 b2
   refine Bg c_Z39 mixed (go1 @bytesD.eq_1 ?_)
   refine Uc @bytesD.eq_1 (hdr) (go1 @bytesD.eq_1 ?_)
   refine Uc @bytesD.eq_1 (a1) (go1 @bytesD.eq_1 ?_)
   refine Uc @bytesD.eq_1 (a2) (go1 @bytesD.eq_1 ?_)
   refine Uc @bytesD.eq_1 (e1) (go1 @bytesD.eq_1 ?_)
   refine Uc @bytesD.eq_1 (b1) (go1 @bytesD.eq_1 ?_)
   refine Uc @bytesD.eq_1 (b2) (go1 @bytesD.eq_1 ?_)
   exact Uc @bytesD.eq_1 (e1) (go0 @bytesD.eq_1)
  | some q=>
   obtain ⟨hq,_,hqn⟩:=apO_small ho
   obtain ⟨hne,hap⟩:=apO_some ho
   obtain ⟨hw,hwf⟩:=PV_wf hne
   have hb : apO ws 2 [] q = some p:=by
    unfold apO
    rw [if_neg hqn]
    exact merge_split hw hwf hap
   obtain ⟨c1,_⟩:=ApplyStep_two q (by omega) ws (by omega) 2 [] (by decide)
   have c1:=c1.weak (es:=[pD q,intsD ws,.agg [I 2,.nul]]) ⟨Sub.refl _,Sub.refl _,step_nil 2,trivial⟩ (Sub.refl _)
   rw [ho] at a1 a2
   rw [hb] at c1
   have e1:=equalPlans_ok q (by omega)
   have e2:=equalPlans_ok p (by omega)
   unfold paD at a1 a2 c1
   unfold stD at hdr
   refine Bg c_Z39 mixed (go1 @bytesD.eq_1 ?_)
   refine Uc @bytesD.eq_1 (hdr) (go1 @bytesD.eq_1 ?_)
   refine Uc @bytesD.eq_1 (a1) (go1 @bytesD.eq_1 ?_)
   refine Uc @bytesD.eq_1 (a2) (go1 @bytesD.eq_1 ?_)
   refine Uc @bytesD.eq_1 (e1) (go1 @bytesD.eq_1 ?_)
   refine Uc @bytesD.eq_1 (c1) (go1 @bytesD.eq_1 ?_)
   exact Uc @bytesD.eq_1 (e2) (go0 @bytesD.eq_1)
 ·exact Bg c_Z39 mixed (go0 @bytesD.eq_1)
theorem walk_FnMergeSplit (a : Option Addr) (len cap : Nat) (zs : List Int) (w : World) (h : IsRow .u8 w a len cap zs) :
  Calls Tryz.prog 6 #[.slice a len cap] w fun e W'=>e = .returned (.bool true) ∧ Below w.heap.size w W':=walk_of does_FnMergeSplit a len cap zs w h
end Go.Proofs.YtgpdmgaemhelgaaGreat
