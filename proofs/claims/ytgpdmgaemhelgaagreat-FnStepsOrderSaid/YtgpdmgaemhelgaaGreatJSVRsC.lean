/-
  Where no rule of the model applies to a filter. No condition.
-/
import Derived.Test.YtgpdmgaemhelgaaGreatKSDca
import Derived.Test.YtgpdmgaemhelgaaGreatKSDcd
import Derived.Test.YtgpdmgaemhelgaaGreatJSVPaD
import Derived.Test.YtgpdmgaemhelgaaGreatJSVYld
import Derived.Test.YtgpdmgaemhelgaaGreatKSDcg
import Derived.Test.YtgpdmgaemhelgaaGreatKSVRiB
set_option maxHeartbeats 4000000
set_option maxRecDepth 100000
set_option linter.unusedVariables false
set_option linter.unusedSimpArgs false
namespace Go.Proofs.YtgpdmgaemhelgaaGreat
open Go.RowKit
theorem wf_kid {ws : List Int} (hw : wsOk ws) {k : Pl} {d : Nat} {w : Int} (h : Wf ws k d w) (hd : d ≤ 8) : k.ks = [] ∨ ∃ (x : Pl) (l : List Pl) (a : Int),k.ks = x :: l ∧ Does Tryz.prog 95 [] [pD x,intsD ws,I 8] (I a) []:=by
 cases h with
 | scan h=>exact .inl rfl
 | filter hq he=>exact .inr ⟨_,_,_,rfl,(planW hw hq (by omega)).1⟩
 | project hq hl he=>exact .inr ⟨_,_,_,rfl,(planW hw hq (by omega)).1⟩
 | join hk hq hr hab he=>exact .inr ⟨_,_,_,rfl,(planW hw hq (by omega)).1⟩
 | union hq hr=>exact .inr ⟨_,_,_,rfl,(planW hw hq (by omega)).1⟩
 | distinct hq=>exact .inr ⟨_,_,_,rfl,(planW hw hq (by omega)).1⟩
 | group hq hc=>exact .inr ⟨_,_,_,rfl,(planW hw hq (by omega)).1⟩
theorem rf_no {ws : List Int} (hw : wsOk ws) {e : E} {k : Pl} {d : Nat} {w : Int} (hq : Wf ws k d w) (hd : d ≤ 8) (r : Int) (g1 : r = 1 → ¬ k.k = 2) (g2 : r = 2 → ¬ e.k = 8) (g3 : r = 3 → ¬ k.k = 4 ∧ ¬ k.k = 5) (g4 : r = 4 → ¬ k.k = 4) (g5 : r = 5 → ¬ k.k = 4) (g7 : r = 7 → ¬ k.k = 5) (g8 : r = 8 → ¬ k.k = 6) (g10 : r = 10 → ¬ k.k = 3) :
  Does Tryz.prog 141 [] [pD (.mk 2 0 [e] [] [k]),I r,intsD ws] (.tup [pD (.mk 2 0 [e] [] [k]),Bo false]) []:=by
 have hk:=(planW hw hq hd).1
 have hkid:=wf_kid hw hq hd
 clear hq
 obtain ⟨kk,kt,kes,kcs,kks⟩:=k
 simp only [Pl.k_mk,Pl.ks_mk] at g1 g3 g4 g5 g7 g8 g10 hkid
 rcases hkid with rfl | ⟨x,l,a,rfl,hx⟩
 ·refine Bg c_Z35 mixed (go1 trivial ?_)
  exact Uc trivial (hk) (go0 trivial)
 ·refine Bg c_Z35 mixed (go1 trivial ?_)
  refine Uc trivial (hx) (go1 trivial ?_)
  exact Uc trivial (hk) (go0 trivial)
end Go.Proofs.YtgpdmgaemhelgaaGreat
set_option maxHeartbeats 4000000
set_option maxRecDepth 100000
set_option linter.unusedVariables false
set_option linter.unusedSimpArgs false
namespace Go.Proofs.YtgpdmgaemhelgaaGreat
open Go.RowKit
noncomputable def lvP (ws : List Int) (lev : Nat) (o : Option Pl) : Option Pl:=o.bind fun q=>if wdV ws q lev = 0 then none else some q
def ruD (kind : Int) (dk : D) (f : FuncId) : D:=.agg [I kind,dk,.fn f []]
def rulesD : List D:=[.agg [I 0,.nul,.v .nilFunc],ruD 2 (intsD [2]) 122,ruD 2 .nul 123,ruD 2 (intsD [4,5]) 124,ruD 2 (intsD [4]) 125,ruD 2 (intsD [4]) 126,ruD 4 .nul 127,ruD 2 (intsD [5]) 128,ruD 2 (intsD [6]) 129,ruD 7 (intsD [7,8]) 130,ruD 2 (intsD [3]) 131,ruD 3 (intsD [3]) 132]
theorem rewriteRules_ok : Does Tryz.prog 84 [] [] (.sl 3 rulesD) []:=by
 exact Bg c_Z42 mixed (go0 trivial)
theorem rule0_ok {p : Pl} (ws : List Int) (lev : Int) (h : p.k ≠ 0) : Does Tryz.prog 86 [] [.agg [I 0,.nul,.v .nilFunc],pD p,intsD ws,I lev] (paD none) []:=by
 unfold paD
 refine Bg c_Z12 mixed (go1 trivial ?_)
 exact zP_sub
theorem ruleK_no {kind : Int} {f : FuncId} {p : Pl} (kk : List Int) (ws : List Int) (lev : Int) (h : p.k ≠ kind) : Does Tryz.prog 86 [] [ruD kind (intsD kk) f,pD p,intsD ws,I lev] (paD none) []:=by
 unfold paD ruD
 refine Bg c_Z12 mixed (go1 trivial ?_)
 exact zP_sub
theorem ruleN_no {kind : Int} {f : FuncId} {p : Pl} (ws : List Int) (lev : Int) (h : p.k ≠ kind) : Does Tryz.prog 86 [] [ruD kind .nul f,pD p,intsD ws,I lev] (paD none) []:=by
 unfold paD ruD
 refine Bg c_Z12 mixed (go1 trivial ?_)
 exact zP_sub
theorem ruleK_kid {kind : Int} {f : FuncId} {t : Int} {es : List E} {cs : List Int} {q : Pl} {l : List Pl} (kk : List Int) (ws : List Int) (lev : Int) (h0 : 0 < kk.length) (hl : kk.length ≤ 10) (h : ¬ q.k ∈ kk) : Does Tryz.prog 86 [] [ruD kind (intsD kk) f,pD (.mk kind t es cs (q :: l)),intsD ws,I lev] (paD none) []:=by
 have hc:=contains_ok kk (by omega) q.k
 rw [decide_eq_false h] at hc
 unfold paD ruD
 refine Bg c_Z12 mixed (go1 trivial ?_)
 refine Uc trivial (hc) (go1 trivial ?_)
 exact zP_sub
section
variable {ws : List Int} (hw : wsOk ws) {kind t : Int} {f : FuncId} (hf : enters Tryz.prog f = true) {es : List E} {cs : List Int} {q : Pl} {l : List Pl} (lev : Nat) (hlev : lev ≤ 8)
include hw hf hlev
theorem ruleK_go (kk : List Int) (h0 : 0 < kk.length) (hl : kk.length ≤ 10) (h : q.k ∈ kk) {o : Option Pl} (hlo : ∀ x,o = some x → Loc x) (ho : Does Tryz.prog f [] [pD (.mk kind t es cs (q :: l)),pD q,intsD ws] (paD o) []) :
  Does Tryz.prog 86 [] [ruD kind (intsD kk) f,pD (.mk kind t es cs (q :: l)),intsD ws,I lev] (paD (lvP ws lev o)) []:=by
 have hc:=contains_ok kk (by omega) q.k
 rw [decide_eq_true h] at hc
 unfold ruD
 cases o with
 | none=>
  unfold lvP
  rw [Option.bind_none]
  unfold paD at ho ⊢
  refine Bg c_Z12 mixed (go1 trivial ?_)
  refine Uc trivial (hc) (go1 trivial ?_)
  refine v_fn (hf) ?_
  refine Uc trivial (ho) (go1 trivial ?_)
  exact zP_sub
 | some x=>
  obtain ⟨_,_,hwi⟩:=width_loc hw x (hlo x rfl) lev (by omega)
  unfold lvP
  rw [Option.bind_some]
  by_cases hz : wdV ws x lev = 0
  ·rw [if_pos hz]
   rw [hz] at hwi
   unfold paD at ho ⊢
   refine Bg c_Z12 mixed (go1 trivial ?_)
   refine Uc trivial (hc) (go1 trivial ?_)
   refine v_fn (hf) ?_
   refine Uc trivial (ho) (go1 trivial ?_)
   refine Uc trivial (hwi) (go1 trivial ?_)
   exact zP_sub
  ·rw [if_neg hz]
   generalize wdV ws x lev = wv at *
   unfold paD at ho ⊢
   refine Bg c_Z12 mixed (go1 trivial ?_)
   refine Uc trivial (hc) (go1 trivial ?_)
   refine v_fn (hf) ?_
   refine Uc trivial (ho) (go1 trivial ?_)
   exact Uc trivial (hwi) (go0 trivial)
theorem ruleN_go {o : Option Pl} (hlo : ∀ x,o = some x → Loc x) (ho : Does Tryz.prog f [] [pD (.mk kind t es cs (q :: l)),pD q,intsD ws] (paD o) []) :
  Does Tryz.prog 86 [] [ruD kind .nul f,pD (.mk kind t es cs (q :: l)),intsD ws,I lev] (paD (lvP ws lev o)) []:=by
 unfold ruD
 cases o with
 | none=>
  unfold lvP
  rw [Option.bind_none]
  unfold paD at ho ⊢
  refine Bg c_Z12 mixed (go1 trivial ?_)
  refine v_fn (hf) ?_
  refine Uc trivial (ho) (go1 trivial ?_)
  exact zP_sub
 | some x=>
  obtain ⟨_,_,hwi⟩:=width_loc hw x (hlo x rfl) lev (by omega)
  unfold lvP
  rw [Option.bind_some]
  by_cases hz : wdV ws x lev = 0
  ·rw [if_pos hz]
   rw [hz] at hwi
   unfold paD at ho ⊢
   refine Bg c_Z12 mixed (go1 trivial ?_)
   refine v_fn (hf) ?_
   refine Uc trivial (ho) (go1 trivial ?_)
   refine Uc trivial (hwi) (go1 trivial ?_)
   exact zP_sub
  ·rw [if_neg hz]
   generalize wdV ws x lev = wv at *
   unfold paD at ho ⊢
   refine Bg c_Z12 mixed (go1 trivial ?_)
   refine v_fn (hf) ?_
   refine Uc trivial (ho) (go1 trivial ?_)
   exact Uc trivial (hwi) (go0 trivial)
end
theorem replace_ok : ∀ (l : List Int) {p a : Pl} (q : Pl),paOf p l = some a → Loc p → l.length < 1000 → Does Tryz.prog 87 [] [intsD l,pD p,pD q] (pD (repP p l q)) []:=by
 intro l
 induction l with
 | nil=>
  intro p a q _ _ _
  rw [show repP p [] q = q from rfl]
  exact Bg c_Z19 mixed (go0 @intsD.eq_1)
 | cons i l ih=>
  intro p a q ha hp hll
  rw [paOf] at ha
  cases hk : kidAt p i with
  | none=>rw [hk] at ha; cases ha
  | some x=>
   rw [hk] at ha
   obtain ⟨k0,k1,k2⟩:=kidAt_some hk
   obtain ⟨l1,l2,l3,l4,l5⟩:=hp.own
   have hix:=ih q (show paOf x l = some a from ha) (l5 x (List.mem_of_getElem? k2)) (by simp at hll; omega)
   have hcl:=clonePlans_ok p.ks (by omega) (by omega)
   have h2 : p.ks.getD i.toNat zP = x:=by rw [List.getD_eq_getElem?_getD,k2]; rfl
   rw [rep_cons,h2]
   generalize repP x l q = y at *
   have hst : (p.ks.map pD).set i.toNat (pD y) = (p.ks.set i.toNat y).map pD:=by rw [List.map_set]
   rw [pD_eq y,intsD] at hst
   have hsl : (p.ks.set i.toNat y).length = p.ks.length:=List.length_set
   have htk : ((p.ks.set i.toNat y).map pD).take p.ks.length = (p.ks.set i.toNat y).map pD:=List.take_of_length_le (by rw [List.length_map,hsl]; exact Nat.le_refl _)
   have hdr : List.drop 1 (List.take ((l.length : Int) + 1).toNat (I i :: List.map I l)) = List.map I l:=by
    rw [show ((l.length : Int) + 1).toNat = l.length + 1 by omega,List.take_succ_cons,List.drop_succ_cons,List.drop_zero]
    exact take_all I l
   refine does0 c_Z19 mixed (Nat.le_of_ble_eq_true rfl) ?_
   conv=>arg 3; whnf
   repeat' (first|with_reducible refine acc_none ?_ | (conv in hold _=>simp (disch:=omega) only [go_sem,intsD,List.map_cons])|refine Stp.go ?_|(with_reducible first|refine it_pos rfl ?_|refine it_neg (by decide) ?_|refine st_nil rfl ?_|refine s_op ?_ ?_|exact trivial)|((with_reducible first|refine dw_reg0 ?_|refine dw_regB ?_);(conv=>arg 3;whnf))|(refine Spl.go (fun hq he=>?_) (fun hq he=>?_)<;>first|(exfalso;clear hq;omega)|((try first|(conv=>arg 8;simp only [hq])|(conv=>arg 4;simp only [hq]));clear hq))|((with_reducible first|refine c_split (fun hq=>?_) (fun hq=>?_)|refine q_split (fun hq=>?_) (fun hq=>?_))<;>(try first|(conv=>arg 8;simp only [hq])|(conv=>arg 4;simp only [hq])))|(with_reducible refine fin_0 ?_ (by first|rfl|(conv=>lhs;simp only [go_sem,intsD,List.map_cons])) ?_)|exact Sub.refl _|omega)
   refine c_doesR [3000001] (hcl) (callOK_of rfl (Nat.le_of_ble_eq_true rfl) rfl ?_ ?_) ?_ ?_
   ·repeat' (first|(conv in hold _=>simp (disch:=omega) only [go_sem,intsD,List.map_cons,List.getElem?_map,k2,Option.map_some,List.length_map,hdr])|exact trivial|exact Sub.refl _|omega)
   ·repeat' (first|(conv in hold _=>simp (disch:=omega) only [go_sem,intsD,List.map_cons,List.getElem?_map,k2,Option.map_some,List.length_map,hdr])|exact trivial|exact Sub.refl _|omega)
   ·((conv=>rhs;simp (disch:=omega) only [go_sem,intsD,List.map_cons,List.getElem?_map,k2,Option.map_some,List.length_map,hdr]); try rfl)
   repeat' (first|with_reducible refine acc_none ?_ | (conv in hold _=>simp (disch:=omega) only [go_sem,intsD,List.map_cons,List.getElem?_map,k2,Option.map_some,List.length_map,hdr])|refine Stp.go ?_|(with_reducible first|refine it_pos rfl ?_|refine it_neg (by decide) ?_|refine st_nil rfl ?_|refine s_op ?_ ?_|exact trivial)|((with_reducible first|refine dw_reg0 ?_|refine dw_regB ?_);(conv=>arg 3;whnf))|(refine Spl.go (fun hq he=>?_) (fun hq he=>?_)<;>first|(exfalso;clear hq;omega)|((try first|(conv=>arg 8;simp only [hq])|(conv=>arg 4;simp only [hq]));clear hq))|((with_reducible first|refine c_split (fun hq=>?_) (fun hq=>?_)|refine q_split (fun hq=>?_) (fun hq=>?_))<;>(try first|(conv=>arg 8;simp only [hq])|(conv=>arg 4;simp only [hq])))|(with_reducible refine fin_0 ?_ (by first|rfl|(conv=>lhs;simp only [go_sem,intsD,List.map_cons,List.getElem?_map,k2,Option.map_some,List.length_map,hdr])) ?_)|exact Sub.refl _|omega)
   refine c_doesE (hix) ?_ ?_ ?_
   ·((try (conv=>rhs;simp (disch:=omega) only [go_sem,intsD,List.map_cons,List.getElem?_map,k2,Option.map_some,List.length_map,hst,hdr])); try rfl)
   ·first|rfl|(conv=>lhs;simp only [go_sem,intsD,List.map_cons,List.getElem?_map,k2,Option.map_some,List.length_map,hst,hdr])
   repeat' (first|with_reducible refine acc_none ?_ | (conv in hold _=>simp (disch:=omega) only [go_sem,intsD,List.map_cons,List.getElem?_map,k2,Option.map_some,List.length_map,hst,hdr])|refine Stp.go ?_|(with_reducible first|refine it_pos rfl ?_|refine it_neg (by decide) ?_|refine st_nil rfl ?_|refine s_op ?_ ?_|exact trivial)|((with_reducible first|refine dw_reg0 ?_|refine dw_regB ?_);(conv=>arg 3;whnf))|(refine Spl.go (fun hq he=>?_) (fun hq he=>?_)<;>first|(exfalso;clear hq;omega)|((try first|(conv=>arg 8;simp only [hq])|(conv=>arg 4;simp only [hq]));clear hq))|((with_reducible first|refine c_split (fun hq=>?_) (fun hq=>?_)|refine q_split (fun hq=>?_) (fun hq=>?_))<;>(try first|(conv=>arg 8;simp only [hq])|(conv=>arg 4;simp only [hq])))|exact Sub.refl _|omega)
   refine fin_wk (wk_frzO 2000006 3000001 (by decide) (by decide) rfl (by decide) rfl ?_) ?_
   rotate_left
   (conv in hold _=>simp (disch:=omega) only [go_sem,List.length_map,hsl,htk,Nat.le_refl,hst])
   ·refine fin_L [] ?_ ?_ rfl ?_
    repeat' (first|(conv in hold _=>simp (disch:=omega) only [go_sem])|exact trivial|exact Sub.refl _|omega)
   ·exact plans_pur _
end Go.Proofs.YtgpdmgaemhelgaaGreat
set_option maxHeartbeats 4000000
set_option maxRecDepth 100000
set_option linter.unusedVariables false
set_option linter.unusedSimpArgs false
set_option linter.unusedSectionVars false
namespace Go.Proofs.YtgpdmgaemhelgaaGreat
open Go.RowKit
section
variable {ws : List Int} (hw : wsOk ws) {e : E} {w : Int} {d : Nat}
include hw
theorem rf1 {e' : E} {x : Pl} (hx : Wf ws x d w) (he' : eOk e' w 8) (hd : d + 1 ≤ 8) : Does Tryz.prog 141 [] [pD (.mk 2 0 [e] [] [.mk 2 0 [e'] [] [x]]),I 1,intsD ws] (.tup [pD (.mk 2 0 [.mk 8 0 ⟨false,0⟩ [e',e]] [] [x]),Bo true]) []:=by
 have hk:=(planW hw (Wf.filter hx he') hd).1
 have hx:=(planW hw hx (by omega)).1
 have hf:=filterOf_ok (.mk 8 0 ⟨false,0⟩ [e',e]) x
 refine Bg c_Z35 mixed (go1 trivial ?_)
 refine Uc trivial (hx) (go1 trivial ?_)
 refine Uc trivial (hk) (go1 trivial ?_)
 exact Uc trivial (hf) (go0 trivial)
theorem rf2 {k : Pl} {c : Int} {v : V} {a b : E} (hq : Wf ws k d w) (hd : d ≤ 8) : Does Tryz.prog 141 [] [pD (.mk 2 0 [.mk 8 c v [a,b]] [] [k]),I 2,intsD ws] (.tup [pD (.mk 2 0 [b] [] [.mk 2 0 [a] [] [k]]),Bo true]) []:=by
 have hk:=(planW hw hq hd).1
 have hkid:=wf_kid hw hq hd
 clear hq
 have hf1:=filterOf_ok a k
 have hf2:=filterOf_ok b (.mk 2 0 [a] [] [k])
 obtain ⟨kk,kt,kes,kcs,kks⟩:=k
 simp only [Pl.ks_mk] at hkid
 rcases hkid with rfl | ⟨x,l,a,rfl,hx⟩
 ·refine Bg c_Z35 mixed (go1 trivial ?_)
  refine Uc trivial (hk) (go1 trivial ?_)
  refine Uc trivial (hf1) (go1 trivial ?_)
  exact Uc trivial (hf2) (go0 trivial)
 ·refine Bg c_Z35 mixed (go1 trivial ?_)
  refine Uc trivial (hx) (go1 trivial ?_)
  refine Uc trivial (hk) (go1 trivial ?_)
  refine Uc trivial (hf1) (go1 trivial ?_)
  exact Uc trivial (hf2) (go0 trivial)
theorem rf3 {kk : Int} {e' : E} {x y : Pl} {a b : Int} (hkk : kk = 4 ∨ kk = 5) (hx : Wf ws x d a) (hy : Wf ws y d b) (hab : a + b ≤ 6) (he' : eOk e' (a + b) 8) (he : eOk e (a + b) 8) (hd : d + 1 ≤ 8) : Does Tryz.prog 141 [] [pD (.mk 2 0 [e] [] [.mk kk 0 [e'] [] [x,y]]),I 3,intsD ws] (if lowC e a then .tup [pD (.mk kk 0 [e'] [] [.mk 2 0 [e] [] [x],y]),Bo true] else .tup [pD (.mk 2 0 [e] [] [.mk kk 0 [e'] [] [x,y]]),Bo false]) []:=by
 have hk:=(planW hw (Wf.join hkk hx hy hab he') hd).1
 have ha:=(wf_to hw hx).2
 have hx:=(planW hw hx (by omega)).1
 have hf:=filterOf_ok e x
 have hwi:=within_ok e (eOk_widen hab e 8 he) 0 (a - 1)
 have hiff : (∀ c,c ∈ marked (occ e) 6 → (0 : Int) ≤ c ∧ (c : Int) ≤ a - 1) ↔ lowC e a:=⟨fun h c hc=>by have:=h c hc; omega,fun h c hc=>by have:=h c hc; omega⟩
 rw [decide_eq_decide.2 hiff] at hwi
 by_cases hl : lowC e a
 ·rw [if_pos hl]
  rw [decide_eq_true hl] at hwi
  rcases hkk with rfl | rfl
  ·refine Bg c_Z35 mixed (go1 trivial ?_)
   refine Uc trivial (hx) (go1 trivial ?_)
   refine Uc trivial (hk) (go1 trivial ?_)
   refine Uc trivial (hwi) (go1 trivial ?_)
   refine Uc trivial (hf) (go1 trivial ?_)
   exact Sub.tup ⟨Sub.agg ⟨Sub.refl _,Sub.refl _,Sub.refl _,Sub.nul 1,Sub.refl _,trivial⟩,Sub.refl _,trivial⟩
  ·refine Bg c_Z35 mixed (go1 trivial ?_)
   refine Uc trivial (hx) (go1 trivial ?_)
   refine Uc trivial (hk) (go1 trivial ?_)
   refine Uc trivial (hwi) (go1 trivial ?_)
   refine Uc trivial (hf) (go1 trivial ?_)
   exact Sub.tup ⟨Sub.agg ⟨Sub.refl _,Sub.refl _,Sub.refl _,Sub.nul 1,Sub.refl _,trivial⟩,Sub.refl _,trivial⟩
 ·rw [if_neg hl]
  rw [decide_eq_false hl] at hwi
  rcases hkk with rfl | rfl
  ·refine Bg c_Z35 mixed (go1 trivial ?_)
   refine Uc trivial (hx) (go1 trivial ?_)
   refine Uc trivial (hk) (go1 trivial ?_)
   exact Uc trivial (hwi) (go0 trivial)
  ·refine Bg c_Z35 mixed (go1 trivial ?_)
   refine Uc trivial (hx) (go1 trivial ?_)
   refine Uc trivial (hk) (go1 trivial ?_)
   exact Uc trivial (hwi) (go0 trivial)
theorem rf4 {e' : E} {x y : Pl} {a b : Int} (hx : Wf ws x d a) (hy : Wf ws y d b) (hab : a + b ≤ 6) (he' : eOk e' (a + b) 8) (he : eOk e (a + b) 8) (hd : d + 1 ≤ 8) : Does Tryz.prog 141 [] [pD (.mk 2 0 [e] [] [.mk 4 0 [e'] [] [x,y]]),I 4,intsD ws] (if highC e a then .tup [pD (.mk 4 0 [e'] [] [x,.mk 2 0 [subE (byR a b) e] [] [y]]),Bo true] else .tup [pD (.mk 2 0 [e] [] [.mk 4 0 [e'] [] [x,y]]),Bo false]) []:=by
 have hk:=(planW hw (Wf.join (.inl rfl) hx hy hab he') hd).1
 have ha:=(wf_to hw hx).2
 have hb:=(wf_to hw hy).2
 have hx:=(planW hw hx (by omega)).1
 have hf:=filterOf_ok (subE (byR a b) e) y
 have hwi:=within_ok e (eOk_widen hab e 8 he) a (a + b - 1)
 have hiff : (∀ c,c ∈ marked (occ e) 6 → a ≤ (c : Int) ∧ (c : Int) ≤ a + b - 1) ↔ highC e a:=⟨fun h c hc=>(h c hc).1,fun h c hc=>⟨h c hc,by have:=occ_lt e 8 he c (mem_marked.1 hc).2; omega⟩⟩
 rw [decide_eq_decide.2 hiff] at hwi
 by_cases hl : highC e a
 ·rw [if_pos hl]
  rw [decide_eq_true hl] at hwi
  have hbl : (byR a b).length = a.toNat + b.toNat:=by unfold byR; rw [List.length_append,colF_len,colF_len]
  have hsub:=substitute_ok (byR a b) (fun x hx=>by rw [esz_byR hx]; decide) e 8 (by rw [hbl]; rw [show (((a.toNat + b.toNat : Nat)) : Int) = a + b by omega]; exact he)
  obtain ⟨na,rfl⟩:=Int.eq_ofNat_of_zero_le (show 0 ≤ a by omega)
  obtain ⟨nb',rfl⟩:=Int.eq_ofNat_of_zero_le (show 0 ≤ b by omega)
  have hc1:=columnsFrom_own 0 na (by omega) (by omega)
  have hc2:=columnsFrom_own 0 nb' (by omega) (by omega)
  have e0 : ((na : Int) + (nb' : Int)) - (na : Int) = (nb' : Int):=by omega
  have t1:=take_all cD (ciL 0 na)
  have t2:=take_all cD (ciL 0 nb')
  rw [ciL_len] at t1 t2
  have hby : (ciL 0 na).map cD ++ (ciL 0 nb').map cD = (ciL 0 na ++ ciL 0 nb').map cD:=(List.map_append ..).symm
  have hl1 : ((ciL 0 na).map cD).length = na:=by rw [List.length_map,ciL_len]
  have hl2 : ((ciL 0 nb').map cD).length = nb':=by rw [List.length_map,ciL_len]
  have hl3 : ((ciL 0 na ++ ciL 0 nb').map cD).length = na + nb':=by rw [List.length_map,List.length_append,ciL_len,ciL_len]
  have t3 : ((ciL 0 na ++ ciL 0 nb').map cD).take (na + nb') = (ciL 0 na ++ ciL 0 nb').map cD:=List.take_of_length_le (by omega)
  have hcs : Sub (.sl 5 ((ciL 0 na ++ ciL 0 nb').map cD)) (.sl 5 ((byR (na : Int) (nb' : Int)).map eD)):=by
   have hbe : byR (na : Int) (nb' : Int) = (ciL 0 na ++ ciL 0 nb').map (fun c=>E.mk 1 c ⟨false,0⟩ []):=by
    rw [List.map_append,← colF_ci,← colF_ci]
    rfl
   rw [hbe]
   exact cD_sub _
  have hsub:=hsub.weak (es:=[eD e,.sl 5 ((ciL 0 na ++ ciL 0 nb').map cD)]) ⟨Sub.refl _,hcs,trivial⟩ (Sub.refl _)
  refine Bg c_Z35 mixed (go1 trivial ?_)
  refine Uc trivial (hx) (go1 trivial ?_)
  refine Uc trivial (hk) (go1 trivial ?_)
  refine Uc trivial (hwi) (go1 trivial ?_)
  refine UcR [3000001] @e0 (hc1) (go1 @e0 ?_)
  refine UcR [3000002] (cj5 @t1 @t2 @hby @hl1 @hl2) (hc2) (go1C (cj5 @t1 @t2 @hby @hl1 @hl2) ?_)
  refine s_pre (pre_frz (t:=141) (g:=2000131) (by decide) (by decide) rfl ?_) ?_
  rotate_left
  refine go1 (cj7 @t1 @t2 @hby @t3 @hl1 @hl2 @hl3) ?_
  ·refine Uc (cj4 @t1 @t2 @hby @t3) (hsub) (go1 (cj4 @t1 @t2 @hby @t3) ?_)
   refine Uc trivial (hf) (go1 trivial ?_)
   exact Sub.tup ⟨Sub.agg ⟨Sub.refl _,Sub.refl _,Sub.refl _,Sub.nul 1,Sub.refl _,trivial⟩,Sub.refl _,trivial⟩
  ·exact cD_pur _
 ·rw [if_neg hl]
  rw [decide_eq_false hl] at hwi
  refine Bg c_Z35 mixed (go1 trivial ?_)
  refine Uc trivial (hx) (go1 trivial ?_)
  refine Uc trivial (hk) (go1 trivial ?_)
  exact Uc trivial (hwi) (go0 trivial)
theorem rf5 {e' : E} {x y : Pl} {a b : Int} (hx : Wf ws x d a) (hy : Wf ws y d b) (hab : a + b ≤ 6) (he' : eOk e' (a + b) 8) (hd : d + 1 ≤ 8) : Does Tryz.prog 141 [] [pD (.mk 2 0 [e] [] [.mk 4 0 [e'] [] [x,y]]),I 5,intsD ws] (.tup [pD (.mk 4 0 [.mk 8 0 ⟨false,0⟩ [e',e]] [] [x,y]),Bo true]) []:=by
 have hk:=(planW hw (Wf.join (.inl rfl) hx hy hab he') hd).1
 have hx:=(planW hw hx (by omega)).1
 refine Bg c_Z35 mixed (go1 trivial ?_)
 refine Uc trivial (hx) (go1 trivial ?_)
 refine Uc trivial (hk) (go1 trivial ?_)
 exact Sub.tup ⟨Sub.agg ⟨Sub.refl _,Sub.refl _,Sub.refl _,Sub.nul 1,Sub.refl _,trivial⟩,Sub.refl _,trivial⟩
theorem rf7 {e' : E} {x y : Pl} {a b : Int} (hx : Wf ws x d a) (hy : Wf ws y d b) (hab : a + b ≤ 6) (he' : eOk e' (a + b) 8) (he : eOk e (a + b) 8) (hd : d + 1 ≤ 8) : Does Tryz.prog 141 [] [pD (.mk 2 0 [e] [] [.mk 5 0 [e'] [] [x,y]]),I 7,intsD ws] (if rejB e a b = true then .tup [pD (.mk 2 0 [e] [] [.mk 4 0 [e'] [] [x,y]]),Bo true] else .tup [pD (.mk 2 0 [e] [] [.mk 5 0 [e'] [] [x,y]]),Bo false]) []:=by
 have hk:=(planW hw (Wf.join (.inr rfl) hx hy hab he') hd).1
 have ha:=(wf_to hw hx).2
 have hb:=(wf_to hw hy).2
 have hx:=(planW hw hx (by omega)).1
 have hf:=(filterOf_ok e (.mk 4 0 [e'] [] [x,y])).weak (es:=[eD e,.agg [I 4,I 0,.sl 5 [eD e'],.nul,.sl 5 [pD x,pD y]]]) ⟨Sub.refl _,plS (k:=4) (t:=0) (es:=[e']) (cs:=[]) (ks:=[x,y]) (Sub.refl _) (Sub.nul 1) (Sub.refl _),trivial⟩ (Sub.refl _)
 have hcl:=columnList_own a b (by omega) (by omega)
 have hnl : (nulC a b).length = b.toNat:=by unfold nulC; rw [List.length_map,List.length_range]
 have hn : (((a + b).toNat : Nat) : Int) = a + b:=by omega
 have hre:=rejects_ok (e:=e) (w:=(a + b).toNat) (by omega) (nulC a b) (by omega) (by rw [hn]; exact he)
 rw [hn] at hre
 have t1:=take_all I (nulC a b)
 rw [hnl] at t1
 have hl1 : ((nulC a b).map I).length = b.toNat:=by rw [List.length_map,hnl]
 have hrj : rejB e a b = (intBit .and .i64 (oc e (stL (nulC a b) (a + b).toNat)) 2 == 0):=rfl
 rw [← hrj] at hre
 cases hr : rejB e a b with
 | true=>
  rw [hr] at hre
  rw [if_pos rfl]
  refine Bg c_Z35 mixed (go1 trivial ?_)
  refine Uc trivial (hx) (go1 trivial ?_)
  refine Uc trivial (hk) (go1 trivial ?_)
  refine UcR [3000001] (cj2 @t1 @hl1) (hcl) (go1C (cj2 @t1 @hl1) ?_)
  refine s_pre (pre_frz (t:=180) (g:=3000001) (by decide) (by decide) rfl ?_) ?_
  rotate_left
  refine go1 (cj2 @t1 @hl1) ?_
  ·refine Uc trivial (hre) (go1 trivial ?_)
   exact Uc trivial (hf) (go0 trivial)
  ·exact ints_pur _
 | false=>
  rw [hr] at hre
  rw [if_neg (by decide)]
  refine Bg c_Z35 mixed (go1 trivial ?_)
  refine Uc trivial (hx) (go1 trivial ?_)
  refine Uc trivial (hk) (go1 trivial ?_)
  refine UcR [3000001] (cj2 @t1 @hl1) (hcl) (go1C (cj2 @t1 @hl1) ?_)
  refine s_pre (pre_frz (t:=180) (g:=3000001) (by decide) (by decide) rfl ?_) ?_
  rotate_left
  refine go1 (cj2 @t1 @hl1) ?_
  ·exact Uc trivial (hre) (go0 trivial)
  ·exact ints_pur _
theorem rf8 {x y : Pl} (hx : Wf ws x d w) (hy : Wf ws y d w) (hd : d + 1 ≤ 8) : Does Tryz.prog 141 [] [pD (.mk 2 0 [e] [] [.mk 6 0 [] [] [x,y]]),I 8,intsD ws] (.tup [pD (.mk 6 0 [] [] [.mk 2 0 [e] [] [x],.mk 2 0 [e] [] [y]]),Bo true]) []:=by
 have hk:=(planW hw (Wf.union hx hy) hd).1
 have hx:=(planW hw hx (by omega)).1
 have hf1:=filterOf_ok e x
 have hf2:=filterOf_ok e y
 refine Bg c_Z35 mixed (go1 trivial ?_)
 refine Uc trivial (hx) (go1 trivial ?_)
 refine Uc trivial (hk) (go1 trivial ?_)
 refine Uc trivial (hf1) (go1 trivial ?_)
 refine Uc trivial (hf2) (go1 trivial ?_)
 exact Sub.tup ⟨Sub.agg ⟨Sub.refl _,Sub.refl _,Sub.nul 5,Sub.nul 1,Sub.refl _,trivial⟩,Sub.refl _,trivial⟩
theorem rf10 {es : List E} {x : Pl} {u : Int} (hx : Wf ws x d u) (hl : 1 ≤ es.length ∧ es.length ≤ 6) (hes : ∀ e,e ∈ es → eOk e u 8) (he : eOk e es.length 8) (hd : d + 1 ≤ 8) : Does Tryz.prog 141 [] [pD (.mk 2 0 [e] [] [.mk 3 0 es [] [x]]),I 10,intsD ws] (.tup [pD (.mk 3 0 es [] [.mk 2 0 [subE es e] [] [x]]),Bo true]) []:=by
 have hk:=(planW hw (Wf.project hx hl hes) hd).1
 have hx:=(planW hw hx (by omega)).1
 have hs:=substitute_ok es (fun b hb=>by have:=esz_small b 8 (hes b hb) (by decide); omega) e 8 he
 have hf:=filterOf_ok (subE es e) x
 refine Bg c_Z35 mixed (go1 trivial ?_)
 refine Uc trivial (hx) (go1 trivial ?_)
 refine Uc trivial (hk) (go1 trivial ?_)
 refine Uc trivial (hs) (go1 trivial ?_)
 refine Uc trivial (hf) (go1 trivial ?_)
 exact Sub.tup ⟨Sub.agg ⟨Sub.refl _,Sub.refl _,Sub.refl _,Sub.nul 1,Sub.refl _,trivial⟩,Sub.refl _,trivial⟩
end
end Go.Proofs.YtgpdmgaemhelgaaGreat
