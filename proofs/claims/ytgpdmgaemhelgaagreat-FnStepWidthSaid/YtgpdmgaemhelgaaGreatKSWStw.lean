/-
  The law that every rewriting keeps the width and the scanned tables. No condition.
-/
import Derived.Test.YtgpdmgaemhelgaaGreatKSDcWStw
import Derived.Test.YtgpdmgaemhelgaaGreatKSDca
import Derived.Test.YtgpdmgaemhelgaaGreatJSVStW
import Derived.Test.YtgpdmgaemhelgaaGreatJSVRejI
import Derived.Test.YtgpdmgaemhelgaaGreatJSVCall
set_option maxHeartbeats 4000000
set_option maxRecDepth 100000
set_option linter.unusedVariables false
set_option linter.unusedSimpArgs false
namespace Go.Proofs.YtgpdmgaemhelgaaGreat
open Go.RowKit
theorem does_FnStepWidth (cs : List Nat) (hc : ∀ b,b ∈ cs → b < 256) : Does Tryz.prog 3 [] [bytesD cs] (Bo true) []:=by
 by_cases hlen : cs.length ≤ 1048576
 ·obtain ⟨p,ws,r,l,hdr,hz,hwl,hll,hr12⟩:=DrawApplyStep_ok cs hc
  obtain ⟨b1,b2⟩:=ApplyStep_two p (by omega) ws (by omega) r l (by omega)
  cases ho : apO ws r l p with
  | none=>
   rw [ho] at b1 b2
   have e1:=equalPlans_ok zP (by decide)
   unfold paD at b1 b2
   unfold stD at hdr b1 b2
   refine Bg c_Z59 mixed (go1 @bytesD.eq_1 ?_)
   refine Uc @bytesD.eq_1 (hdr) (go1 @bytesD.eq_1 ?_)
   refine Uc @bytesD.eq_1 (b1) (go1 @bytesD.eq_1 ?_)
   refine Uc @bytesD.eq_1 (b2) (go1 @bytesD.eq_1 ?_)
   refine Uc @bytesD.eq_1 (e1) (go1 @bytesD.eq_1 ?_)
   exact Uc @bytesD.eq_1 (e1) (go0 @bytesD.eq_1)
  | some q=>
   obtain ⟨hq,hpv,hqn⟩:=apO_small ho
   obtain ⟨hne,hap⟩:=apO_some ho
   obtain ⟨hw,hwf⟩:=PV_wf hne
   have htb : tbs q ws.length = tbs p ws.length:=tbs_same (apP_some hw hwf hap).2 ws.length
   obtain ⟨_,_,w1⟩:=PlanWidth_fn q (by omega) ws (by omega)
   obtain ⟨_,_,w2⟩:=PlanWidth_fn p (by omega) ws (by omega)
   have t1:=TablesOf_impl (ws:=ws) (by omega) (p:=q) (by omega) hqn
   have t2:=TablesOf_impl (ws:=ws) (by omega) (p:=p) (by omega) hne
   rw [htb] at t1
   rw [hpv] at w1
   have htl : (tbs p ws.length).length ≤ ws.length:=by
    unfold tbs
    rw [List.length_map]
    exact Nat.le_trans (List.length_filter_le _ _) (by rw [List.length_range]; exact Nat.le_refl _)
   have e2:=eqIntsP_ok (tbs p ws.length) (by omega)
   rw [ho] at b1 b2
   have e1:=equalPlans_ok q (by omega)
   unfold paD at b1 b2
   unfold stD at hdr b1 b2
   generalize tbs p ws.length = tb at *
   generalize PV ws p = w at *
   refine Bg c_Z59 mixed (go1 @bytesD.eq_1 ?_)
   refine Uc @bytesD.eq_1 (hdr) (go1 @bytesD.eq_1 ?_)
   refine Uc @bytesD.eq_1 (b1) (go1 @bytesD.eq_1 ?_)
   refine Uc @bytesD.eq_1 (b2) (go1 @bytesD.eq_1 ?_)
   refine Uc @bytesD.eq_1 (e1) (go1 @bytesD.eq_1 ?_)
   refine Uc @bytesD.eq_1 (w1) (go1 @bytesD.eq_1 ?_)
   refine Uc @bytesD.eq_1 (w2) (go1 @bytesD.eq_1 ?_)
   refine Uc @bytesD.eq_1 (t1) (go1 @bytesD.eq_1 ?_)
   refine Uc @bytesD.eq_1 (t2) (go1 @bytesD.eq_1 ?_)
   exact Uc @bytesD.eq_1 (e2) (go0 @bytesD.eq_1)
 ·exact Bg c_Z59 mixed (go0 @bytesD.eq_1)
theorem walk_FnStepWidth (a : Option Addr) (len cap : Nat) (zs : List Int) (w : World) (h : IsRow .u8 w a len cap zs) :
  Calls Tryz.prog 3 #[.slice a len cap] w fun e W'=>e = .returned (.bool true) ∧ Below w.heap.size w W':=walk_of does_FnStepWidth a len cap zs w h
end Go.Proofs.YtgpdmgaemhelgaaGreat
