/-
  The law that a join can be commuted at the root, and back. No condition.
-/
import Derived.Test.YtgpdmgaemhelgaaGreatKSDcWCtw
import Derived.Test.YtgpdmgaemhelgaaGreatKSDca
import Derived.Test.YtgpdmgaemhelgaaGreatJSVStW
import Derived.Test.YtgpdmgaemhelgaaGreatJSVCall
set_option maxHeartbeats 4000000
set_option maxRecDepth 100000
set_option linter.unusedVariables false
set_option linter.unusedSimpArgs false
namespace Go.Proofs.YtgpdmgaemhelgaaGreat
open Go.RowKit
theorem kidOf_some {k t : Int} {es : List E} {cs : List Int} {x : Pl} {l : List Pl} : Does Tryz.prog 26 [] [pD (.mk k t es cs (x :: l)),I 0] (pD x) []:=by
 exact Bg c_Z144 mixed (go0 trivial)
theorem kidOf_none : Does Tryz.prog 26 [] [pD zP,I 0] (pD zP) []:=by
 unfold zP
 refine Bg c_Z144 mixed (go1 trivial ?_)
 all_goals exact Sub.agg ⟨Sub.refl _,Sub.refl _,Sub.nul 5,Sub.nul 1,Sub.nul 5,trivial⟩
theorem does_FnCommuteTwice (cs : List Nat) (hc : ∀ b,b ∈ cs → b < 256) : Does Tryz.prog 7 [] [bytesD cs] (Bo true) []:=by
 by_cases hlen : cs.length ≤ 1048576
 ·obtain ⟨p,ws,r,l,hdr,hz,hwl,hll,hr12⟩:=DrawApplyStep_ok cs hc
  obtain ⟨a1,a2⟩:=ApplyStep_two p (by omega) ws (by omega) 6 [] (by decide)
  have a1:=a1.weak (es:=[pD p,intsD ws,.agg [I 6,.nul]]) ⟨Sub.refl _,Sub.refl _,step_nil 6,trivial⟩ (Sub.refl _)
  have a2:=a2.weak (es:=[pD p,intsD ws,.agg [I 6,.nul]]) ⟨Sub.refl _,Sub.refl _,step_nil 6,trivial⟩ (Sub.refl _)
  cases ho : apO ws 6 [] p with
  | none=>
   rw [ho] at a1 a2
   obtain ⟨b1,b2⟩:=ApplyStep_two p (by omega) ws (by omega) r l (by omega)
   have e1:=equalPlans_ok zP (by decide)
   rw [paD_eq] at b1 b2
   unfold paD at a1 a2
   generalize (apO ws r l p).isSome = ob at *
   generalize (apO ws r l p).getD zP = ox at *
   unfold stD at hdr b1 b2
   refine Bg c_Z21 mixed (go1 @bytesD.eq_1 ?_)
   refine Uc @bytesD.eq_1 (hdr) (go1 @bytesD.eq_1 ?_)
   refine Uc @bytesD.eq_1 (a1) (go1 @bytesD.eq_1 ?_)
   refine Uc @bytesD.eq_1 (a2) (go1 @bytesD.eq_1 ?_)
   refine Uc @bytesD.eq_1 (e1) (go1 @bytesD.eq_1 ?_)
   refine Uc @bytesD.eq_1 (b1) (go1 @bytesD.eq_1 ?_)
   refine Uc @bytesD.eq_1 (b2) (go1 @bytesD.eq_1 ?_)
   exact Uc @bytesD.eq_1 (e1) (go0 @bytesD.eq_1)
  | some q=>
   obtain ⟨hq,_,hqn⟩:=apO_small ho
   obtain ⟨hne,hap⟩:=apO_some ho
   obtain ⟨hw,hwf⟩:=PV_wf hne
   obtain ⟨e,e',x,y,by1,by2,rfl,rfl,hback⟩:=commute_twice hw hwf hap
   obtain ⟨c1,_⟩:=ApplyStep_two (.mk 3 0 by1 [] [.mk 4 0 [e'] [] [y,x]]) (by omega) ws (by omega) 6 [0] (by decide)
   rw [ho] at a1 a2
   have e1:=equalPlans_ok (.mk 3 0 by1 [] [.mk 4 0 [e'] [] [y,x]]) (by omega)
   have hzx : psz x ≤ 11100 ∧ psz y ≤ 11100 ∧ esz e ≤ 11100:=by
    simp only [psz,eszL,pszL,List.length_nil] at hz
    omega
   have ey:=equalPlans_ok y (by omega)
   have ex:=equalPlans_ok x (by omega)
   have ee:=eqListsP_ok [e] (by simp) (fun z hz=>by obtain rfl:=List.mem_singleton.1 hz; exact eqExprsP_ok z (by omega))
   have k1:=kidOf_some (k:=3) (t:=0) (es:=by1) (cs:=[]) (x:=.mk 4 0 [e'] [] [y,x]) (l:=[])
   have k2:=kidOf_some (k:=4) (t:=0) (es:=[e']) (cs:=[]) (x:=y) (l:=[x])
   cases hb : apO ws 6 [0] (.mk 3 0 by1 [] [.mk 4 0 [e'] [] [y,x]]) with
   | none=>
    rw [hb] at c1
    have k0:=kidOf_none
    unfold paD at a1 a2 c1
    unfold stD at hdr c1
    refine Bg c_Z21 mixed (go1 @bytesD.eq_1 ?_)
    refine Uc @bytesD.eq_1 (hdr) (go1 @bytesD.eq_1 ?_)
    refine Uc @bytesD.eq_1 (a1) (go1 @bytesD.eq_1 ?_)
    refine Uc @bytesD.eq_1 (a2) (go1 @bytesD.eq_1 ?_)
    refine Uc @bytesD.eq_1 (e1) (go1 @bytesD.eq_1 ?_)
    refine Uc (cj2 @bytesD.eq_1 @intsD.eq_1) (c1) (go1 (cj2 @bytesD.eq_1 @intsD.eq_1) ?_)
    refine Uc @bytesD.eq_1 (k0) (go1 @bytesD.eq_1 ?_)
    refine Uc @bytesD.eq_1 (k0) (go1 @bytesD.eq_1 ?_)
    refine Uc @bytesD.eq_1 (k1) (go1 @bytesD.eq_1 ?_)
    refine Uc @bytesD.eq_1 (k2) (go1 @bytesD.eq_1 ?_)
    exact Uc @bytesD.eq_1 (ey) (go0 @bytesD.eq_1)
   | some z=>
    have hzz:=hback z (apO_some hb).2
    subst hzz
    rw [hb] at c1
    have k3:=kidOf_some (k:=3) (t:=0) (es:=by1) (cs:=[]) (x:=.mk 3 0 by2 [] [.mk 4 0 [e] [] [x,y]]) (l:=[])
    have k4:=kidOf_some (k:=3) (t:=0) (es:=by2) (cs:=[]) (x:=.mk 4 0 [e] [] [x,y]) (l:=[])
    have k5:=kidOf_some (k:=4) (t:=0) (es:=[e]) (cs:=[]) (x:=x) (l:=[y])
    unfold paD at a1 a2 c1
    unfold stD at hdr c1
    refine Bg c_Z21 mixed (go1 @bytesD.eq_1 ?_)
    refine Uc @bytesD.eq_1 (hdr) (go1 @bytesD.eq_1 ?_)
    refine Uc @bytesD.eq_1 (a1) (go1 @bytesD.eq_1 ?_)
    refine Uc @bytesD.eq_1 (a2) (go1 @bytesD.eq_1 ?_)
    refine Uc @bytesD.eq_1 (e1) (go1 @bytesD.eq_1 ?_)
    refine Uc (cj2 @bytesD.eq_1 @intsD.eq_1) (c1) (go1 (cj2 @bytesD.eq_1 @intsD.eq_1) ?_)
    refine Uc @bytesD.eq_1 (k3) (go1 @bytesD.eq_1 ?_)
    refine Uc @bytesD.eq_1 (k4) (go1 @bytesD.eq_1 ?_)
    refine Uc @bytesD.eq_1 (k1) (go1 @bytesD.eq_1 ?_)
    refine Uc @bytesD.eq_1 (k2) (go1 @bytesD.eq_1 ?_)
    refine Uc @bytesD.eq_1 (ey) (go1 @bytesD.eq_1 ?_)
    refine Uc @bytesD.eq_1 (k5) (go1 @bytesD.eq_1 ?_)
    refine Uc @bytesD.eq_1 (ex) (go1 @bytesD.eq_1 ?_)
    exact Uc @bytesD.eq_1 (ee) (go0 @bytesD.eq_1)
 ·exact Bg c_Z21 mixed (go0 @bytesD.eq_1)
theorem walk_FnCommuteTwice (a : Option Addr) (len cap : Nat) (zs : List Int) (w : World) (h : IsRow .u8 w a len cap zs) :
  Calls Tryz.prog 7 #[.slice a len cap] w fun e W'=>e = .returned (.bool true) ∧ Below w.heap.size w W':=walk_of does_FnCommuteTwice a len cap zs w h
end Go.Proofs.YtgpdmgaemhelgaaGreat
