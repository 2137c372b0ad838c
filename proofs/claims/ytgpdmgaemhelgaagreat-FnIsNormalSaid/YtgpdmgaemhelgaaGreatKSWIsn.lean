/-
  The law that normal plans are not changed. No condition.
-/
import Derived.Test.YtgpdmgaemhelgaaGreatKSDcWIsn
import Derived.Test.YtgpdmgaemhelgaaGreatKSDca
import Derived.Test.YtgpdmgaemhelgaaGreatJSVNmO
import Derived.Test.YtgpdmgaemhelgaaGreatJSVCk
import Derived.Test.YtgpdmgaemhelgaaGreatJSVPb
import Derived.Test.YtgpdmgaemhelgaaGreatJSVLaw
import Derived.Test.YtgpdmgaemhelgaaGreatJSVYld
set_option maxHeartbeats 4000000
set_option maxRecDepth 100000
set_option linter.unusedVariables false
set_option linter.unusedSimpArgs false
namespace Go.Proofs.YtgpdmgaemhelgaaGreat
open Go.RowKit
theorem does_FnIsNormal (cs : List Nat) (hc : ∀ b,b ∈ cs → b < 256) : Does Tryz.prog 11 [] [bytesD cs] (Bo true) []:=by
 by_cases hlen : cs.length ≤ 1048576
 ·obtain ⟨p,ws,hdr,hz,hwl⟩:=DrawIsNormal_ok cs hc
  have n1:=IsNormal_impl p (by omega) ws (by omega)
  have n2:=IsNormal_spec p (by omega) ws (by omega)
  obtain ⟨_,_,w1⟩:=PlanWidth_fn p (by omega) ws (by omega)
  by_cases hz0 : PV ws p = 0
  ·have e0 : isN ws p = false:=by unfold isN; rw [decide_eq_false (fun g=>g hz0)]; rfl
   rw [e0] at n1 n2
   rw [hz0] at w1
   refine Bg c_Z84 mixed (go1 @bytesD.eq_1 ?_)
   refine Uc @bytesD.eq_1 (hdr) (go1 @bytesD.eq_1 ?_)
   refine Uc @bytesD.eq_1 (n1) (go1 @bytesD.eq_1 ?_)
   refine Uc @bytesD.eq_1 (n2) (go1 @bytesD.eq_1 ?_)
   refine Uc @bytesD.eq_1 (w1) (go1 @bytesD.eq_1 ?_)
   exact Uc @bytesD.eq_1 (n2) (go0 @bytesD.eq_1)
  ·have hN:=Normalize_impl p (by omega) ws (by omega)
   have hne : (PV ws p == 0) = false:=beq_eq_false_iff_ne.2 hz0
   have hdl : ((nmO ws p).2.map stE).length = (nmO ws p).2.length:=List.length_map ..
   have e : nmO ws p = nmP ws p:=if_neg hz0
   cases hx : nxP ws p with
   | none=>
    have hn0 : nmP ws p = (p,[]):=(nmI_to (i:=0) hx (Nat.zero_le _)).trans rfl
    have hi : isN ws p = true:=by unfold isN; rw [decide_eq_true hz0,nxP_none hx]; rfl
    have e1:=equalPlans_ok p (by omega)
    rw [hi] at n1 n2
    rw [e,hn0] at hN
    simp only [List.map_nil] at hN
    have h00 : (((0 : Nat) : Int) == 0) = true:=rfl
    generalize PV ws p = w at *
    refine Bg c_Z84 mixed (go1 @bytesD.eq_1 ?_)
    refine Uc @bytesD.eq_1 (hdr) (go1 @bytesD.eq_1 ?_)
    refine Uc @bytesD.eq_1 (n1) (go1 @bytesD.eq_1 ?_)
    refine Uc @bytesD.eq_1 (n2) (go1 @bytesD.eq_1 ?_)
    refine Uc (cj2 @bytesD.eq_1 @hne) (w1) (go1 (cj2 @bytesD.eq_1 @hne) ?_)
    refine c_doesE (hN) ?_ ?_ ?_
    ·((try (conv=>rhs;simp (disch:=omega) only [go_sem,bytesD,List.length_map,beq_self_eq_true,bne_self_eq_false,h00,List.length_nil])); try rfl)
    ·first|rfl|(conv=>lhs;simp only [go_sem,bytesD,List.length_map,beq_self_eq_true,bne_self_eq_false,h00,List.length_nil])
    repeat' (first|with_reducible refine acc_none ?_ | (conv in hold _=>simp (disch:=omega) only [go_sem,bytesD,List.length_map,beq_self_eq_true,bne_self_eq_false,h00,List.length_nil])|refine Stp.go ?_|(with_reducible first|refine it_pos rfl ?_|refine it_neg (by decide) ?_|refine st_nil rfl ?_|refine s_op ?_ ?_|exact trivial)|((with_reducible first|refine dw_reg0 ?_|refine dw_regB ?_);(conv=>arg 3;whnf))|(refine Spl.go (fun hq he=>?_) (fun hq he=>?_)<;>first|(exfalso;clear hq;omega)|((try first|(conv=>arg 8;simp only [hq])|(conv=>arg 4;simp only [hq]));clear hq))|((with_reducible first|refine c_split (fun hq=>?_) (fun hq=>?_)|refine q_split (fun hq=>?_) (fun hq=>?_))<;>(try first|(conv=>arg 8;simp only [hq])|(conv=>arg 4;simp only [hq])))|(with_reducible refine fin_0 ?_ (by first|rfl|(conv=>lhs;simp only [go_sem,bytesD,List.length_map,beq_self_eq_true,bne_self_eq_false,h00,List.length_nil])) ?_)|exact Sub.refl _|omega)
    exact Uc @bytesD.eq_1 (e1) (go0 @bytesD.eq_1)
   | some sx=>
    obtain ⟨s,x⟩:=sx
    have hi : isN ws p = false:=by unfold isN; rw [(nxP_some hx).1,decide_eq_true hz0]; rfl
    have hlen0 : 0 < (nmO ws p).2.length:=by
     have hmono : ∀ i,0 < (nmI ws p (i + 1)).2.length:=by
      intro i
      induction i with
      | zero=>rw [nmI_some (i:=0) (s:=s) (x:=x) hx,List.length_append]; exact Nat.succ_pos _
      | succ i ih=>
       cases hy : nxP ws (nmI ws p (i + 1)).1 with
       | none=>rw [nmI_none hy]; exact ih
       | some sy=>rw [nmI_some (s:=sy.1) (x:=sy.2) hy,List.length_append]; omega
     have h40 : ∀ n,n = 40 → 0 < (nmI ws p n).2.length:=fun n hn=>by
      obtain ⟨m,rfl⟩ : ∃ m,n = m + 1:=⟨39,hn⟩
      exact hmono m
     rw [e]
     unfold nmP
     exact h40 40 rfl
    have hl0 : (((nmO ws p).2.length : Int) == 0) = false:=beq_eq_false_iff_ne.2 (by omega)
    rw [hi] at n1 n2
    generalize (nmO ws p).2.map stE = ds at *
    generalize (nmO ws p).1 = q at *
    generalize PV ws p = w at *
    refine Bg c_Z84 mixed (go1 @bytesD.eq_1 ?_)
    refine Uc @bytesD.eq_1 (hdr) (go1 @bytesD.eq_1 ?_)
    refine Uc @bytesD.eq_1 (n1) (go1 @bytesD.eq_1 ?_)
    refine Uc @bytesD.eq_1 (n2) (go1 @bytesD.eq_1 ?_)
    refine Uc (cj2 @bytesD.eq_1 @hne) (w1) (go1 (cj2 @bytesD.eq_1 @hne) ?_)
    exact Uc (cj3 @bytesD.eq_1 @hdl @hl0) (hN) (go0 (cj3 @bytesD.eq_1 @hdl @hl0))
 ·exact Bg c_Z84 mixed (go0 @bytesD.eq_1)
theorem walk_FnIsNormal (a : Option Addr) (len cap : Nat) (zs : List Int) (w : World) (h : IsRow .u8 w a len cap zs) :
  Calls Tryz.prog 11 #[.slice a len cap] w fun e W'=>e = .returned (.bool true) ∧ Below w.heap.size w W':=walk_of does_FnIsNormal a len cap zs w h
end Go.Proofs.YtgpdmgaemhelgaaGreat
