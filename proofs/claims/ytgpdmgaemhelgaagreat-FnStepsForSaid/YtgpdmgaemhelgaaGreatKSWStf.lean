/-
  The law that all possible steps are found. No condition.
-/
import Derived.Test.YtgpdmgaemhelgaaGreatKSDcWStf
import Derived.Test.YtgpdmgaemhelgaaGreatKSDca
import Derived.Test.YtgpdmgaemhelgaaGreatJSVNmD
import Derived.Test.YtgpdmgaemhelgaaGreatJSVStD
import Derived.Test.YtgpdmgaemhelgaaGreatJSVLaw
import Derived.Test.YtgpdmgaemhelgaaGreatJSVYld
set_option maxHeartbeats 4000000
set_option maxRecDepth 100000
set_option linter.unusedVariables false
set_option linter.unusedSimpArgs false
namespace Go.Proofs.YtgpdmgaemhelgaaGreat
open Go.RowKit
theorem pathsL_in : ∀ {l : List Pl} {pre : List Int} {i j : Nat} {p : Pl} {x : List Int},l[j]? = some p → x ∈ pathsP p (pre ++ [((i + j : Nat) : Int)]) → x ∈ pathsL l pre i
 | [],pre,i,j,p,x,h,_=>by simp at h
 | q :: l,pre,i,0,p,x,h,hx=>by
  obtain rfl : q = p:=by simpa using h
  rw [pathsL,List.mem_append]
  exact .inl hx
 | q :: l,pre,i,j + 1,p,x,h,hx=>by
  rw [pathsL,List.mem_append]
  refine .inr (pathsL_in (j:=j) (by simpa using h) ?_)
  rw [show i + 1 + j = i + (j + 1) by omega]
  exact hx
theorem paths_all : ∀ (l pre : List Int) (p a : Pl),paOf p l = some a → pre ++ l ∈ pathsP p pre
 | [],pre,p,a,h=>by
  rw [pathsP_eq,List.append_nil]
  exact List.mem_cons_self ..
 | i :: l,pre,p,a,h=>by
  rw [paOf] at h
  cases hk : kidAt p i with
  | none=>rw [hk] at h; cases h
  | some q=>
   rw [hk,Option.bind_some] at h
   unfold kidAt at hk
   split at hk
   ·rename_i h0
    have ih:=paths_all l (pre ++ [i]) q a h
    rw [pathsP_eq]
    refine List.mem_cons_of_mem _ (pathsL_in (j:=i.toNat) hk ?_)
    rw [Nat.zero_add,Int.toNat_of_nonneg h0]
    rw [List.append_assoc] at ih
    exact ih
   ·cases hk
theorem stpO_iff {ws : List Int} {p : Pl} (r : Int) (l : List Int) : (r,l) ∈ stpO ws p ↔ (apO ws r l p).isSome = true:=by
 unfold stpO apO
 by_cases hz : PV ws p = 0
 ·rw [if_pos hz,if_pos hz]
  exact ⟨fun h=>(by cases h),fun h=>(by cases h)⟩
 ·rw [if_neg hz,if_neg hz]
  refine ⟨fun h=>?_,fun h=>?_⟩
  ·obtain ⟨x,hx⟩:=stepsTo_some h
   simp only at hx
   rw [hx]
   rfl
  ·obtain ⟨x,hx⟩:=Option.isSome_iff_exists.1 h
   have hr : 1 ≤ r ∧ r ≤ 11:=by
    refine Classical.byContradiction fun hn=>?_
    unfold apP at hx
    cases ha : paOf p l with
    | none=>rw [ha] at hx; cases hx
    | some a=>
     rw [ha,Option.bind_some] at hx
     by_cases h0 : r = 0
     ·subst h0
      rw [show ruP ws 0 a = none from rfl] at hx
      cases hx
     ·rw [ruP_out (by omega)] at hx
      cases hx
   refine stepsTo_all ?_ hr hx
   unfold apP at hx
   cases ha : paOf p l with
   | none=>rw [ha] at hx; cases hx
   | some a=>exact paths_all l [] p a ha
theorem memS_next {S : List (Int × List Int)} {i : Nat} {t s : Int × List Int} (h : S[i]? = some t) : decide (s ∈ S.take (i + 1)) = (decide (s ∈ S.take i) || decide (t = s)):=by
 rw [take_next h]
 by_cases h1 : s ∈ S.take i
 ·rw [decide_eq_true h1,decide_eq_true (List.mem_append_left _ h1)]
  rfl
 ·rw [decide_eq_false h1,Bool.false_or]
  by_cases h2 : t = s
  ·rw [decide_eq_true h2,decide_eq_true (List.mem_append_right _ (List.mem_singleton.2 h2.symm))]
  ·rw [decide_eq_false h2,decide_eq_false (fun h3=>by
    rcases List.mem_append.1 h3 with h3 | h3
    ·exact h1 h3
    ·exact h2 (List.mem_singleton.1 h3).symm)]
theorem does_FnStepsFor (cs : List Nat) (hc : ∀ b,b ∈ cs → b < 256) : Does Tryz.prog 4 [] [bytesD cs] (Bo true) []:=by
 by_cases hlen : cs.length ≤ 1048576
 ·obtain ⟨p,ws,r,l,hdr,hz,hwl,hll,hr12⟩:=DrawApplyStep_ok cs hc
  have s1:=StepsFor_impl p (by omega) ws (by omega)
  have s2:=StepsFor_ok p (by omega) ws (by omega)
  have hsl:=stpO_len (ws:=ws) (p:=p) (by omega)
  have hS8 : ∀ s,s ∈ stpO ws p → s.2.length < 2000000:=fun s hs=>by have:=(stpO_mem hs).1; omega
  have e1:=equalSteps_same (stpO ws p) hsl hS8
  have hap : ∀ s,s ∈ stpO ws p → ∃ x,Does Tryz.prog 16 [] [.agg [I p.k,I p.t,.sl 5 (p.es.map eD),.sl 1 (p.cs.map I),.sl 5 (p.ks.map pD)],.sl 1 (ws.map I),.agg [I s.1,.sl 1 (s.2.map I)]] (.tup [pD x,Bo true]) []:=fun s hs=>by
   obtain ⟨x,hx⟩:=Option.isSome_iff_exists.1 ((stpO_iff s.1 s.2).1 hs)
   have h:=ApplyStep_impl p (by omega) ws (by omega) s.1 s.2 (by have:=hS8 s hs; omega)
   rw [hx,pD_eq] at h
   unfold paD stD intsD at h
   exact ⟨x,h⟩
  have hlast : ∃ x,Does Tryz.prog 16 [] [.agg [I p.k,I p.t,.sl 5 (p.es.map eD),.sl 1 (p.cs.map I),.sl 5 (p.ks.map pD)],.sl 1 (ws.map I),.agg [I r,.sl 1 (l.map I)]] (.tup [pD x,Bo (decide ((r,l) ∈ stpO ws p))]) []:=by
   have h:=ApplyStep_impl p (by omega) ws (by omega) r l (by omega)
   have hb:=stpO_iff (ws:=ws) (p:=p) r l
   cases ho : apO ws r l p with
   | none=>
    rw [ho] at h hb
    rw [decide_eq_false (fun g=>by have:=hb.1 g; cases this)]
    rw [pD_eq] at h
    unfold paD stD intsD at h
    exact ⟨_,h⟩
   | some x=>
    rw [ho] at h hb
    rw [decide_eq_true (hb.2 rfl)]
    rw [pD_eq] at h
    unfold paD stD intsD at h
    exact ⟨_,h⟩
  obtain ⟨y,hlast⟩:=hlast
  unfold stD intsD at hdr
  unfold intsD at s1 s2
  generalize stpO ws p = S at *
  have hdl : (S.map stE).length = S.length:=List.length_map ..
  have hdat : ∀ (j : Nat) (s : Int × List Int),S[j]? = some s → (S.map stE)[j]? = some (.agg [I s.1,.sl 1 (s.2.map I)]):=fun j s hs=>by rw [List.getElem?_map,hs]; rfl
  generalize S.map stE = ds at *
  refine Bg c_Z76 mixed (go1 @bytesD.eq_1 ?_)
  refine Uc @bytesD.eq_1 (hdr) (go1 @bytesD.eq_1 ?_)
  refine Uc @bytesD.eq_1 (s1) (go1 @bytesD.eq_1 ?_)
  refine Uc @bytesD.eq_1 (s2) (go1 @bytesD.eq_1 ?_)
  refine Uc @bytesD.eq_1 (e1) (go1 @bytesD.eq_1 ?_)
  refine dw_for (c:=2) (l:=fun i=>[(3,.ref 1000000 0),(4,.sl 1 (ws.map I)),(5,.ref 1000001 0),(6,.sl 2 ds),(7,I i),(1000000,.obj [I p.k,I p.t,.sl 5 (p.es.map eD),.sl 1 (p.cs.map I),.sl 5 (p.ks.map pD)]),(1000001,.obj [I r,.sl 1 (l.map I)])]) S.length (fun _=>True) 0 trivial (Wk.list [2000003,2000005] rfl rfl ?_) (fun i hi _=>?_) (Nat.zero_le _)
  ·repeat' (first|(conv in hold _=>simp (disch:=omega) only [go_sem,bytesD,List.length_map])|exact trivial|exact Sub.refl _|omega)
   exact rfl
  ·rcases at_or_end hi with ⟨s,hs,hlt⟩ | rfl
   ·have hd:=hdat i s hs
    obtain ⟨x,hx⟩:=hap s (List.mem_of_getElem? hs)
    refine go1 (cj3 @bytesD.eq_1 @hd @hdl) ?_
    refine Uc (cj3 @bytesD.eq_1 @hd @hdl) (hx) (go1 (cj3 @bytesD.eq_1 @hd @hdl) ?_)
    refine ⟨hlt,trivial,Wk.list [1000000,1000001] rfl rfl ?_⟩
    repeat' (first|(conv in hold _=>simp (disch:=omega) only [go_sem,bytesD,List.length_map])|exact trivial|exact Sub.refl _|omega)
   ·generalize hok : decide ((r,l) ∈ S) = ok at *
    refine go1 (cj2 @bytesD.eq_1 @hdl) ?_
    refine Uc (cj2 @bytesD.eq_1 @hdl) (hlast) (go1 (cj2 @bytesD.eq_1 @hdl) ?_)
    refine dw_for (c:=2) (l:=fun i=>[(5,.ref 1000000 0),(6,.sl 2 ds),(11,Bo ok),(12,Bo (decide ((r,l) ∈ S.take i))),(13,I i),(1000000,.obj [I r,.sl 1 (l.map I)]),(1000001,.obj [I p.k,I p.t,.sl 5 (p.es.map eD),.sl 1 (p.cs.map I),.sl 5 (p.ks.map pD)])]) S.length (fun _=>True) 0 trivial (Wk.list [1000001,1000000] rfl rfl ?_) (fun i hi _=>?_) (Nat.zero_le _)
    ·repeat' (first|(conv in hold _=>simp (disch:=omega) only [go_sem,bytesD,List.length_map])|exact trivial|exact Sub.refl _|omega)
     exact ⟨congrArg (fun b=>D.v (Value.bool b)) (decide_eq_false (fun h=>(by cases h))).symm,rfl⟩
    ·rcases at_or_end hi with ⟨s,hs,hlt⟩ | rfl
     ·have hd:=hdat i s hs
      have hnx:=memS_next (s:=(r,l)) hs
      by_cases h0 : (r,l) ∈ S.take i
      ·rw [decide_eq_true h0] at hnx ⊢
       refine go1 (cj3 @bytesD.eq_1 @hd @hdl) ?_
       refine ⟨hlt,trivial,Wk.list [1000000,1000001] rfl rfl ?_⟩
       repeat' (first|(conv in hold _=>simp (disch:=omega) only [go_sem,bytesD,List.length_map,hnx,Bool.true_or])|exact trivial|exact Sub.refl _|omega)
      ·rw [decide_eq_false h0,Bool.false_or] at hnx
       rw [decide_eq_false h0]
       obtain ⟨sr,sl⟩:=s
       by_cases h1 : sr = r
       ·subst h1
        have hbr : (sr == sr) = true:=beq_self_eq_true _
        have hci:=eqIntsC_ok sl l (hS8 _ (List.mem_of_getElem? hs)) (by omega)
        by_cases h2 : sl = l
        ·have h3:=hci.1 h2
         have hq : decide ((sr,sl) = (sr,l)) = true:=decide_eq_true (by rw [h2])
         unfold intsD at h3
         refine go1 (cj4 @bytesD.eq_1 @hd @hdl @hbr) ?_
         refine Uc (cj3 @bytesD.eq_1 @hd @hdl) (h3) (go1 (cj3 @bytesD.eq_1 @hd @hdl) ?_)
         refine ⟨hlt,trivial,Wk.list [1000000,1000001] rfl rfl ?_⟩
         repeat' (first|(conv in hold _=>simp (disch:=omega) only [go_sem,bytesD,List.length_map,hnx,hq])|exact trivial|exact Sub.refl _|omega)
        ·have h3:=hci.2 h2
         have hq : decide ((sr,sl) = (sr,l)) = false:=decide_eq_false (fun g=>h2 (Prod.mk.inj g).2)
         unfold intsD at h3
         refine go1 (cj4 @bytesD.eq_1 @hd @hdl @hbr) ?_
         refine Uc (cj3 @bytesD.eq_1 @hd @hdl) (h3) (go1 (cj3 @bytesD.eq_1 @hd @hdl) ?_)
         refine ⟨hlt,trivial,Wk.list [1000000,1000001] rfl rfl ?_⟩
         repeat' (first|(conv in hold _=>simp (disch:=omega) only [go_sem,bytesD,List.length_map,hnx,hq])|exact trivial|exact Sub.refl _|omega)
       ·have hbr : (sr == r) = false:=beq_eq_false_iff_ne.2 h1
        have hq : decide ((sr,sl) = (r,l)) = false:=decide_eq_false (fun g=>h1 (Prod.mk.inj g).1)
        refine go1 (cj4 @bytesD.eq_1 @hd @hdl @hbr) ?_
        refine ⟨hlt,trivial,Wk.list [1000000,1000001] rfl rfl ?_⟩
        repeat' (first|(conv in hold _=>simp (disch:=omega) only [go_sem,bytesD,List.length_map,hnx,hq])|exact trivial|exact Sub.refl _|omega)
     ·rw [List.take_length,hok]
      have hbb : (ok == ok) = true:=beq_self_eq_true _
      exact go0 (cj3 @bytesD.eq_1 @hdl @hbb)
 ·exact Bg c_Z76 mixed (go0 @bytesD.eq_1)
theorem walk_FnStepsFor (a : Option Addr) (len cap : Nat) (zs : List Int) (w : World) (h : IsRow .u8 w a len cap zs) :
  Calls Tryz.prog 4 #[.slice a len cap] w fun e W'=>e = .returned (.bool true) ∧ Below w.heap.size w W':=walk_of does_FnStepsFor a len cap zs w h
end Go.Proofs.YtgpdmgaemhelgaaGreat
