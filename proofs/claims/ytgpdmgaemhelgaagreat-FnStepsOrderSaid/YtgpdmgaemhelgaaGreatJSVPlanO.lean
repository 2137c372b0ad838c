/-
  Plans whose lists are no longer than may be, part by part: their width, their copies. No condition.
-/
import Derived.Test.YtgpdmgaemhelgaaGreatKSDca
import Derived.Test.YtgpdmgaemhelgaaGreatKSDcc
import Derived.Test.YtgpdmgaemhelgaaGreatJSVRej
import Derived.Test.YtgpdmgaemhelgaaGreatJSVCond
import Derived.Test.YtgpdmgaemhelgaaGreatJSVYld
import Derived.Test.YtgpdmgaemhelgaaGreatKSDcf
import Derived.Test.YtgpdmgaemhelgaaGreatJSVClA
import Derived.Test.YtgpdmgaemhelgaaGreatJSDce
import Derived.Test.YtgpdmgaemhelgaaGreatJSVOutD
import Derived.Test.YtgpdmgaemhelgaaGreatJSDco
import Derived.Test.YtgpdmgaemhelgaaGreatJSVLaw
import Derived.Test.YtgpdmgaemhelgaaGreatJSVCplW
import Derived.Test.YtgpdmgaemhelgaaGreatJSVBox
set_option maxHeartbeats 4000000
set_option maxRecDepth 100000
set_option linter.unusedVariables false
set_option linter.unusedSimpArgs false
namespace Go.Proofs.YtgpdmgaemhelgaaGreat
open Go.RowKit
inductive Loc : Pl → Prop
 | mk {p : Pl} (h1 : p.es.length ≤ 1048576) (h2 : p.cs.length ≤ 1048576) (h3 : p.ks.length ≤ 900000) (h4 : ∀ e,e ∈ p.es → esz e ≤ 800000) (h5 : ∀ x,x ∈ p.ks → Loc x) : Loc p
theorem Loc.own {p : Pl} (h : Loc p) : p.es.length ≤ 1048576 ∧ p.cs.length ≤ 1048576 ∧ p.ks.length ≤ 900000 ∧ (∀ e,e ∈ p.es → esz e ≤ 800000) ∧ ∀ x,x ∈ p.ks → Loc x:=by cases h with | mk h1 h2 h3 h4 h5=>exact ⟨h1,h2,h3,h4,h5⟩
theorem loc_of : ∀ p : Pl,psz p ≤ 800000 → Loc p:=by
 refine Pl.indA (fun p ih h=>?_)
 rw [psz_eq] at h
 have h1:=eszL_len p.es
 have h2:=pszL_len p.ks
 exact .mk (by omega) (by omega) (by omega) (fun e he=>by have:=eszL_mem he; omega) (fun x hx=>ih x hx (by have:=pszL_mem hx; omega))
theorem width_loc {ws : List Int} (hw : wsOk ws) : ∀ (p : Pl),Loc p → ∀ d : Nat,d < 1000 → (0 ≤ wdV ws p d ∧ wdV ws p d ≤ 6) ∧ Does Tryz.prog 95 [] [pD p,intsD ws,I d] (I (wdV ws p d)) [] ∧ Does Tryz.prog 56 [] [pD p,intsD ws,I d] (I (wdV ws p d)) []:=by
 refine Pl.indA (fun p ih hs d hd=>?_)
 obtain ⟨l1,l2,l3,l4,l5⟩:=hs.own
 rw [wd_eq]
 by_cases hf : fields p
 ·rw [if_pos hf]
  by_cases hk : p.k = 1
  ·rw [if_pos hk]
   exact ⟨scan_range hw p.t,planWidth_scan p ws hw d hf hk,widthWithin_scan p ws hw d hf hk⟩
  ·rw [if_neg hk]
   have hks : 1 ≤ p.ks.length:=by unfold fields at hf; omega
   by_cases hd0 : d = 0
   ·subst hd0
    rw [if_pos rfl]
    refine ⟨by decide,planWidth_0 p ws hf (by omega),?_⟩
    by_cases hfi : fieldsI p
    ·have h:=widthWithin_main p ws 0 (by decide) hfi hk (by omega) (by omega) (List.replicate p.ks.length 0) (by rw [List.length_replicate]) (fun j x hj=>by have:=List.eq_of_mem_replicate (List.mem_of_getElem? hj); omega) (fun i x n hx hn=>by
      obtain rfl : n = 0:=List.eq_of_mem_replicate (List.mem_of_getElem? hn)
      exact widthWithin_neg x ws)
     rw [resV_z ⟨0,by rw [List.getElem?_replicate,if_pos (by omega)]⟩] at h
     exact h
    ·exact widthWithin_no p ws 0 hfi
   ·rw [if_neg hd0]
    have hc1 : ((d - 1 : Nat) : Int) = (d : Int) - 1:=by omega
    have hp : ∀ (x : Pl),x ∈ p.ks → (0 ≤ wdV ws x (d - 1) ∧ wdV ws x (d - 1) ≤ 6) ∧ Does Tryz.prog 95 [] [pD x,intsD ws,I ((d : Int) - 1)] (I (wdV ws x (d - 1))) [] ∧ Does Tryz.prog 56 [] [pD x,intsD ws,I ((d : Int) - 1)] (I (wdV ws x (d - 1))) []:=fun x hx=>by
     have:=ih x hx (l5 x hx) (d - 1) (by omega)
     rw [hc1] at this
     exact this
    have hl : (p.ks.map (fun x=>wdV ws x (d - 1))).length = p.ks.length:=List.length_map ..
    have hn : ∀ (j : Nat) (x : Int),(p.ks.map (fun x=>wdV ws x (d - 1)))[j]? = some x → 0 ≤ x ∧ x ≤ 6:=fun j x hj=>by
     obtain ⟨y,hy,rfl⟩:=List.mem_map.1 (List.mem_of_getElem? hj)
     exact (hp y hy).1
    refine ⟨resV_range p _ hn,planWidth_main p ws d hd (by omega) hf hk (by omega) (by omega) _ hl hn (fun i x n hx hn=>?_),?_⟩
    ·obtain rfl:=wd_at hx hn
     exact (hp x (List.mem_of_getElem? hx)).2.1
    ·by_cases hfi : fieldsI p
     ·exact widthWithin_main p ws d hd hfi hk (by omega) (by omega) _ hl hn (fun i x n hx hn=>by
       obtain rfl:=wd_at hx hn
       exact (hp x (List.mem_of_getElem? hx)).2.2)
     ·rw [resV_f (fun h=>hfi h.1)]
      exact widthWithin_no p ws d hfi
 ·rw [if_neg hf]
  exact ⟨by decide,planWidth_no p ws d hf,widthWithin_no p ws d (fun h=>hf h.1)⟩
theorem copyPlan_loc : ∀ p : Pl,Loc p → Does Tryz.prog 64 [] [pD p] (pD p) []:=by
 refine Pl.indA (fun p ih h=>?_)
 obtain ⟨l1,l2,l3,l4,l5⟩:=h.own
 have hc:=take_all I p.cs
 refine Bg c_Z123 mixed (go1 trivial ?_)
 refine dw_for (c:=5) (l:=fun i=>[(1,.ref 1000000 0),(2,.ref 1000001 0),(3,.ref 1000002 0),(4,I i),(1000000,.obj [I p.k,I p.t,.sl 5 (p.es.map eD),.sl 1 (p.cs.map I),.sl 5 (p.ks.map pD)]),(1000001,.obj [I 0,I 0,.nul,.nul,.nul]),(1000002,.obj [I p.k,I p.t,.own 1000004 5 i,.own 1000003 1 p.cs.length,.nul]),(1000003,.row 1 (p.cs.map I)),(1000004,.row 5 ((p.es.take i).map eD))]) p.es.length (fun _=>True) 0 trivial ((wk_rowO 2000003 2000099 5 2 (by decide) (by decide) (by decide) rfl rfl rfl).trans (Wk.list [2000001,2000002,2000003,2000013,2000099] rfl rfl ?_)) (fun i hi _=>?_) (Nat.zero_le _)
 ·repeat' (first|(conv in hold _=>simp (disch:=omega) only [go_sem,hc])|exact trivial|exact Sub.refl _|omega)
  exact rfl
 ·have hlt:=take_len (vs:=p.es) (i:=i) (by omega)
  have hmt:=take_map eD (vs:=p.es) (i:=i) (by omega)
  rcases at_or_end hi with ⟨x,hx,hlt1⟩ | rfl
  ·have hix:=copyExpr_ok x (by have:=l4 x (List.mem_of_getElem? hx); omega)
   have hnx:=take_next hx
   refine go1 (cj2 @hx @hc) ?_
   refine Uc @hc (hix) (go1 @hc ?_)
   refine ⟨hlt1,trivial,Wk.list [1000000,1000001,1000002,1000003,2000031] rfl rfl ?_⟩
   repeat' (first|(conv in hold _=>simp (disch:=omega) only [go_sem,hc])|exact trivial|exact Sub.refl _|omega)
   rw [hmt,hnx,List.map_append,List.map_cons,List.map_nil,eD_eq x]
  ·have e1 : p.es.take p.es.length = p.es:=List.take_length
   have e2 : (p.es.map eD).take p.es.length = p.es.map eD:=take_all eD p.es
   refine go1 (cj2 @e1 @hc) ?_
   refine dw_for (c:=6) (l:=fun i=>[(1,.ref 1000000 0),(2,.ref 1000001 0),(3,.ref 1000002 0),(5,I i),(1000000,.obj [I p.k,I p.t,.sl 5 (p.es.map eD),.sl 1 (p.cs.map I),.sl 5 (p.ks.map pD)]),(1000001,.obj [I 0,I 0,.nul,.nul,.nul]),(1000002,.obj [I p.k,I p.t,.own 1000004 5 p.es.length,.own 1000003 1 p.cs.length,.own 1000005 5 i]),(1000003,.row 1 (p.cs.map I)),(1000004,.row 5 (p.es.map eD)),(1000005,.row 5 ((p.ks.take i).map pD))]) p.ks.length (fun _=>True) 0 trivial ((wk_rowO 1000002 2000099 5 4 (by decide) (by decide) (by decide) rfl rfl rfl).trans (Wk.list [1000000,1000001,1000002,1000003,1000004,2000099] rfl rfl ?_)) (fun i hi _=>?_) (Nat.zero_le _)
   ·repeat' (first|(conv in hold _=>simp (disch:=omega) only [go_sem,hc,e1,e2])|exact trivial|exact Sub.refl _|omega)
    exact rfl
   ·have hlt:=take_len (vs:=p.ks) (i:=i) (by omega)
    have hmt:=take_map pD (vs:=p.ks) (i:=i) (by omega)
    rcases at_or_end hi with ⟨x,hx,hlt1⟩ | rfl
    ·have hix:=ih x (List.mem_of_getElem? hx) (l5 x (List.mem_of_getElem? hx))
     have hnx:=take_next hx
     refine go1 (cj3 @hx @hc @e2) ?_
     refine Uc (cj2 @hc @e2) (hix) (go1 (cj2 @hc @e2) ?_)
     refine ⟨hlt1,trivial,Wk.list [1000000,1000001,1000002,1000003,1000004,2000049] rfl rfl ?_⟩
     repeat' (first|(conv in hold _=>simp (disch:=omega) only [go_sem,hc,e2])|exact trivial|exact Sub.refl _|omega)
     rw [hmt,hnx,List.map_append,List.map_cons,List.map_nil,pD_eq x]
     rfl
    ·have e3 : p.ks.take p.ks.length = p.ks:=List.take_length
     have e4 : (p.ks.map pD).take p.ks.length = p.ks.map pD:=take_all pD p.ks
     refine go1F (cj3 @e3 @hc @e2) ?_
     refine fin_wk (wk_frzO 1000001 1000003 (by decide) (by decide) rfl (by decide) rfl ?_) ?_
     rotate_left
     (conv in hold _=>simp (disch:=omega) only [go_sem,e2,hc,e4])
     refine fin_wk (wk_frzO 1000001 1000004 (by decide) (by decide) rfl (by decide) rfl ?_) ?_
     rotate_left
     (conv in hold _=>simp (disch:=omega) only [go_sem,e2,hc,e4])
     refine fin_wk (wk_frzO 1000001 1000005 (by decide) (by decide) rfl (by decide) rfl ?_) ?_
     rotate_left
     (conv in hold _=>simp (disch:=omega) only [go_sem,e2,hc,e4])
     all_goals first
      | exact ints_pur _
      | exact exprs_pur _
      | exact plans_pur _
      | skip
     refine fin_L [] ?_ ?_ rfl ?_
     all_goals exact Ag trivial
theorem copyPlan_kids (p : Pl) (h : Loc p) (h0 : 0 < p.ks.length) : Does Tryz.prog 64 [] [pD p] (.agg [I p.k,I p.t,.sl 5 (p.es.map eD),intsD p.cs,.own 1000000 5 p.ks.length]) [.row 5 (p.ks.map pD)]:=by
 obtain ⟨l1,l2,l3,l4,l5⟩:=h.own
 have hc:=take_all I p.cs
 refine Bk c_Z123 mixed 0 (go1 trivial ?_)
 refine dw_for (c:=5) (l:=fun i=>[(1,.ref 1000000 0),(2,.ref 1000001 0),(3,.ref 1000002 0),(4,I i),(1000000,.obj [I p.k,I p.t,.sl 5 (p.es.map eD),.sl 1 (p.cs.map I),.sl 5 (p.ks.map pD)]),(1000001,.obj [I 0,I 0,.nul,.nul,.nul]),(1000002,.obj [I p.k,I p.t,.own 1000004 5 i,.own 1000003 1 p.cs.length,.nul]),(1000003,.row 1 (p.cs.map I)),(1000004,.row 5 ((p.es.take i).map eD))]) p.es.length (fun _=>True) 0 trivial ((wk_rowO 2000003 2000099 5 2 (by decide) (by decide) (by decide) rfl rfl rfl).trans (Wk.list [2000001,2000002,2000003,2000013,2000099] rfl rfl ?_)) (fun i hi _=>?_) (Nat.zero_le _)
 ·repeat' (first|(conv in hold _=>simp (disch:=omega) only [go_sem,hc])|exact trivial|exact Sub.refl _|omega)
  exact rfl
 ·have hlt:=take_len (vs:=p.es) (i:=i) (by omega)
  have hmt:=take_map eD (vs:=p.es) (i:=i) (by omega)
  rcases at_or_end hi with ⟨x,hx,hlt1⟩ | rfl
  ·have hix:=copyExpr_ok x (by have:=l4 x (List.mem_of_getElem? hx); omega)
   have hnx:=take_next hx
   refine go1 (cj2 @hx @hc) ?_
   refine Uc @hc (hix) (go1 @hc ?_)
   refine ⟨hlt1,trivial,Wk.list [1000000,1000001,1000002,1000003,2000031] rfl rfl ?_⟩
   repeat' (first|(conv in hold _=>simp (disch:=omega) only [go_sem,hc])|exact trivial|exact Sub.refl _|omega)
   rw [hmt,hnx,List.map_append,List.map_cons,List.map_nil,eD_eq x]
  ·have e1 : p.es.take p.es.length = p.es:=List.take_length
   have e2 : (p.es.map eD).take p.es.length = p.es.map eD:=take_all eD p.es
   refine go1 (cj2 @e1 @hc) ?_
   refine dw_for (c:=6) (l:=fun i=>[(1,.ref 1000000 0),(2,.ref 1000001 0),(3,.ref 1000002 0),(5,I i),(1000000,.obj [I p.k,I p.t,.sl 5 (p.es.map eD),.sl 1 (p.cs.map I),.sl 5 (p.ks.map pD)]),(1000001,.obj [I 0,I 0,.nul,.nul,.nul]),(1000002,.obj [I p.k,I p.t,.own 1000004 5 p.es.length,.own 1000003 1 p.cs.length,.own 1000005 5 i]),(1000003,.row 1 (p.cs.map I)),(1000004,.row 5 (p.es.map eD)),(1000005,.row 5 ((p.ks.take i).map pD))]) p.ks.length (fun _=>True) 0 trivial ((wk_rowO 1000002 2000099 5 4 (by decide) (by decide) (by decide) rfl rfl rfl).trans (Wk.list [1000000,1000001,1000002,1000003,1000004,2000099] rfl rfl ?_)) (fun i hi _=>?_) (Nat.zero_le _)
   ·repeat' (first|(conv in hold _=>simp (disch:=omega) only [go_sem,hc,e1,e2])|exact trivial|exact Sub.refl _|omega)
    exact rfl
   ·have hlt:=take_len (vs:=p.ks) (i:=i) (by omega)
    have hmt:=take_map pD (vs:=p.ks) (i:=i) (by omega)
    rcases at_or_end hi with ⟨x,hx,hlt1⟩ | rfl
    ·have hix:=copyPlan_loc x (l5 x (List.mem_of_getElem? hx))
     have hnx:=take_next hx
     refine go1 (cj3 @hx @hc @e2) ?_
     refine Uc (cj2 @hc @e2) (hix) (go1 (cj2 @hc @e2) ?_)
     refine ⟨hlt1,trivial,Wk.list [1000000,1000001,1000002,1000003,1000004,2000049] rfl rfl ?_⟩
     repeat' (first|(conv in hold _=>simp (disch:=omega) only [go_sem,hc,e2])|exact trivial|exact Sub.refl _|omega)
     rw [hmt,hnx,List.map_append,List.map_cons,List.map_nil,pD_eq x]
     rfl
    ·have e3 : p.ks.take p.ks.length = p.ks:=List.take_length
     have e4 : (p.ks.map pD).take p.ks.length = p.ks.map pD:=take_all pD p.ks
     refine go1F (cj3 @e3 @hc @e2) ?_
     refine fin_wk (wk_frzO 1000001 1000003 (by decide) (by decide) rfl (by decide) rfl ?_) ?_
     rotate_left
     (conv in hold _=>simp (disch:=omega) only [go_sem,e2,hc,e4])
     refine fin_wk (wk_frzO 1000001 1000004 (by decide) (by decide) rfl (by decide) rfl ?_) ?_
     rotate_left
     (conv in hold _=>simp (disch:=omega) only [go_sem,e2,hc,e4])
     all_goals first
      | exact ints_pur _
      | exact exprs_pur _
      | exact plans_pur _
      | skip
     refine fin_L [1000005] ?_ ?_ rfl ?_
     all_goals exact Ag trivial
end Go.Proofs.YtgpdmgaemhelgaaGreat
set_option maxHeartbeats 4000000
set_option maxRecDepth 100000
set_option linter.unusedVariables false
namespace Go.Proofs.YtgpdmgaemhelgaaGreat
open Go.RowKit
theorem RejectsNulls_I {e : E} {m : Nat} (hw : 1 ≤ m ∧ m ≤ 6) (he : eOk e m 8) (ns : List Int) (hl : ns.length ≤ 1048576) : Does Tryz.prog 169 [] [eD e,I m,intsD ns] (Bo (intBit .and .i64 (oc e (stL ns m)) 2 == 0)) []:=by
 have h2:=implValidExpr_ok e m
 rw [decide_eq_true ⟨by omega,he⟩] at h2
 have hsl:=stL_len ns m
 obtain ⟨_,_,hB⟩:=oc_ok (stL_ok ns m) (by kernel_rfl) (by kernel_rfl) e 8 (by rw [hsl]; exact he)
 generalize oc e (stL ns m) = n at hB
 have hz:=fil_zero I (I 0) (stL ns m)
 have hren:=fil_ren I (I 0) (fun _=>rfl) rfl (stL ns m)
 refine Bg c_Z36 mixed (go1 trivial ?_)
 refine Uc trivial (h2) (go1 trivial ?_)
 refine dw_for (c:=2) (l:=fun i=>[(2,intsD ns),(3,.ref 1000000 0),(7,.own 1000001 1 m),(16,I m),(17,I i),(1000000,.obj [I e.k,I e.c,Bo e.v.b,I e.v.n,.sl 5 (e.ks.map eD)]),(1000001,.row 1 (fil I (I 0) (stL ns m) i))]) m (fun _=>True) 0 trivial (Wk.list [2000003,2000014] rfl rfl ?_) (fun i hi _=>?_) (Nat.zero_le _)
 ·repeat' (first|(conv in hold _=>simp (disch:=omega) only [go_sem,hren])|exact trivial|exact Sub.refl _|omega)
  rw [hz,hsl]
  exact ⟨rfl,rfl⟩
 ·have hfl:=fil_len I (I 0) (stL ns m) (show i ≤ (stL ns m).length by omega)
  rw [hsl] at hfl
  by_cases hil : i < m
  ·have hget:=stL_get ns hil
   have hst:=fil_set I (I 0) hget
   have hgi : (fil I (I 0) (stL ns m) i)[i]? = some (I 0):=fil_get I (I 0) (by omega)
   have hct:=contains_ok ns hl i
   have hg7 : ((fil I (I 0) (stL ns m) i).set i (I 7))[i]? = some (I 7):=by rw [List.getElem?_set_self (by omega)]
   by_cases hm : (i : Int) ∈ ns
   ·rw [decide_eq_true hm] at hct
    rw [show stN ns i = 4 from if_pos hm] at hst
    refine go1 (cj2 @hfl @hgi) ?_
    refine Uc (cj3 @hfl @hgi @hg7) (hct) (go1 (cj3 @hfl @hgi @hg7) ?_)
    refine ⟨hil,trivial,Wk.list [1000000,1000001] rfl rfl ?_⟩
    repeat' (first|(conv in hold _=>simp (disch:=omega) only [go_sem,List.set_set,hst,hren])|exact trivial|exact Sub.refl _|omega)
   ·rw [decide_eq_false hm] at hct
    rw [show stN ns i = 7 from if_neg hm] at hst
    refine go1 (cj2 @hfl @hgi) ?_
    refine Uc (cj3 @hfl @hgi @hg7) (hct) (go1 (cj3 @hfl @hgi @hg7) ?_)
    refine ⟨hil,trivial,Wk.list [1000000,1000001] rfl rfl ?_⟩
    repeat' (first|(conv in hold _=>simp (disch:=omega) only [go_sem,hst,hren])|exact trivial|exact Sub.refl _|omega)
  ·obtain rfl : i = m:=by omega
   have hend:=fil_end I (I 0) (stL ns i)
   rw [hsl] at hend
   have e2 : ((stL ns i).map I).take i = (stL ns i).map I:=List.take_of_length_le (by rw [List.length_map]; omega)
   refine go1C @hend ?_
   refine s_pre (pre_frz (t:=31) (g:=1000001) (by decide) (by decide) rfl ?_) ?_
   rotate_left
   refine go1 (cj3 @hend @e2 @hsl) ?_
   ·exact Uc trivial (hB) (go0 trivial)
   ·exact ints_pur _
end Go.Proofs.YtgpdmgaemhelgaaGreat
set_option maxHeartbeats 4000000
set_option maxRecDepth 100000
set_option linter.unusedVariables false
set_option linter.unusedSimpArgs false
namespace Go.Proofs.YtgpdmgaemhelgaaGreat
open Go.RowKit
mutual
def scn (t : Int) : Pl → Bool
 | .mk k tb _ _ ks=>if k = 1 then tb == t else scnL t ks
def scnL (t : Int) : List Pl → Bool
 | []=>false
 | p :: l=>scn t p || scnL t l
end
theorem scnL_any (t : Int) : ∀ l : List Pl,scnL t l = l.any (scn t)
 | []=>by rw [scnL]; rfl
 | p :: l=>by rw [scnL,scnL_any t l,List.any_cons]
theorem scn_eq (t : Int) (p : Pl) : scn t p = if p.k = 1 then p.t == t else p.ks.any (scn t):=by
 cases p
 rw [scn,scnL_any]
 rfl
def placeL {α : Type} (p : α → Bool) (l : List α) : Int:=if l.any p then (l.findIdx p : Int) else -1
theorem placeL_at {α : Type} {p : α → Bool} {l : List α} {i : Nat} {x : α} (hx : l[i]? = some x) (hp : p x = true) (h : ∀ (j : Nat) (u : α),j < i → l[j]? = some u → p u = false) : placeL p l = i:=by
 have hlt:=(List.getElem?_eq_some_iff.1 hx).1
 have hxe:=(List.getElem?_eq_some_iff.1 hx).2
 have h1 : l.findIdx p = i:=(List.findIdx_eq hlt).2 ⟨by rw [hxe]; exact hp,fun j hj=>h j _ hj (List.getElem?_eq_getElem (by omega))⟩
 unfold placeL
 rw [if_pos (List.any_eq_true.2 ⟨x,List.mem_of_getElem? hx,hp⟩),h1]
theorem placeL_none {α : Type} {p : α → Bool} {l : List α} (h : ∀ u,u ∈ l → p u = false) : placeL p l = -1:=by
 unfold placeL
 rw [if_neg]
 intro ha
 obtain ⟨x,hx,hp⟩:=List.any_eq_true.1 ha
 rw [h x hx] at hp
 cases hp
theorem placeL_pos {α : Type} (p : α → Bool) (l : List α) : (0 ≤ placeL p l) ↔ l.any p = true:=by
 unfold placeL
 by_cases h : l.any p = true
 ·rw [if_pos h]; exact ⟨fun _=>h,fun _=>by omega⟩
 ·rw [if_neg h]; exact ⟨fun h'=>by omega,fun h'=>absurd h' h⟩
end Go.Proofs.YtgpdmgaemhelgaaGreat
set_option maxHeartbeats 4000000
set_option maxRecDepth 100000
set_option linter.unusedVariables false
set_option linter.unusedSimpArgs false
namespace Go.Proofs.YtgpdmgaemhelgaaGreat
open Go.RowKit
def rootD (a b : Nat) (x : Pl) : D:=.agg [I x.k,I x.t,.own a 5 x.es.length,.own b 1 x.cs.length,.sl 5 (x.ks.map pD)]
def esR (x : Pl) : D:=.row 5 (x.es.map eD)
def csR (x : Pl) : D:=.row 1 (x.cs.map I)
attribute [go_sem] rootD esR csR
abbrev OPlan (bs : List Nat) (ws : List Int) (p j u : Nat) (d : Int) (x : Pl) (q j' u' : Nat) : Prop:=
 Does Tryz.prog 153 [gnD ws j u,rdD bs p,wrD ws] [.ref 1000000 0,I d] (rootD 1000003 1000004 x) [gnD ws j' u',rdD bs q,wrD ws,esR x,csR x]
theorem filterOf_own (e : E) (x : Pl) : Does Tryz.prog 154 [] [eD e,pD x] (rootD 1000000 1000001 (.mk 2 0 [e] [] [x])) [esR (.mk 2 0 [e] [] [x]),csR (.mk 2 0 [e] [] [x])]:=by
 refine Bk c_Z102 mixed 0 (go1F trivial ?_)
 refine fin_wk (wk_rowO 2000004 2000099 1 3 (by decide) (by decide) (by decide) rfl rfl rfl) ?_
 (conv in hold _=>simp (disch:=omega) only [go_sem])
 refine fin_L [2000006,2000099] ?_ ?_ rfl ?_
 all_goals exact Ag trivial
theorem oplan_zero {bs : List Nat} {ws : List Int} {p j u : Nat} (hl : ws.length ≤ 10) {t : Int} (h1 : DPick bs p ws.length t) : OPlan bs ws p j u 0 (.mk 1 t [] [] []) (p + 1) j u:=by
 refine Bk c_Z26 mixed 3 (go1 trivial ?_)
 refine UcR [1000001] trivial (h1) (go1F trivial ?_)
 refine fin_wk (wk_rowO 2000004 2000098 5 2 (by decide) (by decide) (by decide) rfl rfl rfl) ?_
 (conv in hold _=>simp (disch:=omega) only [go_sem])
 refine fin_wk (wk_rowO 2000004 2000099 1 3 (by decide) (by decide) (by decide) rfl rfl rfl) ?_
 (conv in hold _=>simp (disch:=omega) only [go_sem])
 refine fin_L [1000000,1000001,1000002,2000098,2000099] ?_ ?_ rfl ?_
 repeat' (first|(conv in hold _=>simp (disch:=omega) only [go_sem])|exact trivial|exact Sub.refl _|omega)
 exact Sub.agg ⟨Sub.refl _,Sub.refl _,Sub.refl _,Sub.refl _,Sub.nul 5,trivial⟩
theorem oplan_scan {bs : List Nat} {ws : List Int} {p j u : Nat} (hl : ws.length ≤ 10) {t : Int} (d : Nat) (h1 : DPick bs p ws.length t) (h2 : DPick bs (p + 1) 6 0) : OPlan bs ws p j u ((d + 1 : Nat) : Int) (.mk 1 t [] [] []) (p + 2) j u:=by
 refine Bk c_Z26 mixed 3 (go1 trivial ?_)
 refine UcR [1000001] trivial (h1) (go1 trivial ?_)
 refine UcR [1000001] trivial (h2) (go1F trivial ?_)
 refine fin_wk (wk_rowO 2000004 2000098 5 2 (by decide) (by decide) (by decide) rfl rfl rfl) ?_
 (conv in hold _=>simp (disch:=omega) only [go_sem])
 refine fin_wk (wk_rowO 2000004 2000099 1 3 (by decide) (by decide) (by decide) rfl rfl rfl) ?_
 (conv in hold _=>simp (disch:=omega) only [go_sem])
 refine fin_L [1000000,1000001,1000002,2000098,2000099] ?_ ?_ rfl ?_
 repeat' (first|(conv in hold _=>simp (disch:=omega) only [go_sem])|exact trivial|exact Sub.refl _|omega)
 exact Sub.agg ⟨Sub.refl _,Sub.refl _,Sub.refl _,Sub.refl _,Sub.nul 5,trivial⟩
variable {bs : List Nat} {ws : List Int} {p j u d : Nat} {x : Pl} {t k6 c n : Int} {q j1 u1 : Nat}
theorem oplan_fil (h : Pre bs ws p j u d x t k6 c n q j1 u1) (hc : c = 0 ∨ c = 1 ∨ c = 2) {e : E} {q2 : Nat} (hce : DCond bs (q + 1) n e q2) : OPlan bs ws p j u ((d + 1 : Nat) : Int) (.mk 2 0 [e] [] [x]) q2 j1 u1:=by
 obtain ⟨hl,hd,h1,h2,h6,hk,hw,hn,h3,hj,hu⟩:=h
 have hf:=filterOf_own e x
 rcases hc with rfl | rfl | rfl
 all_goals
  refine Bk c_Z26 mixed 3 (go1 trivial ?_)
  refine UcR [1000001] trivial (h1) (go1 trivial ?_)
  refine UcR [1000001] trivial (h2) (go1 trivial ?_)
  refine UcR [1000000,1000001,1000002] trivial (hk) (go1 trivial ?_)
  refine UcR [1000002] trivial (hw) (go1 trivial ?_)
  refine UcR [1000001] trivial (h3) (go1 trivial ?_)
  refine UcR [1000001] trivial (hce) (go1 trivial ?_)
  refine UcR [3000001,3000002] trivial (hf) (go1 trivial ?_)
  refine fin_L [1000000,1000001,1000002,3000001,3000002] ?_ ?_ rfl ?_
  all_goals exact Ag trivial
theorem oplan_def (h : Pre bs ws p j u d x t k6 c n q j1 u1) (hc : ((c = 5 ∨ c = 6) ∧ ¬ (0 < j1 ∧ n ≤ 4)) ∨ (c = 7 ∧ u1 = 0)) {e : E} {q2 : Nat} (hce : DCond bs (q + 1) n e q2) : OPlan bs ws p j u ((d + 1 : Nat) : Int) (.mk 2 0 [e] [] [x]) q2 j1 u1:=by
 obtain ⟨hl,hd,h1,h2,h6,hk,hw,hn,h3,hj,hu⟩:=h
 have hf:=filterOf_own e x
 have hcc : (c = 5 ∧ 0 < j1 ∧ ¬ n ≤ 4) ∨ (c = 5 ∧ ¬ 0 < j1) ∨ (c = 6 ∧ 0 < j1 ∧ ¬ n ≤ 4) ∨ (c = 6 ∧ ¬ 0 < j1) ∨ (c = 7 ∧ u1 = 0):=by omega
 rcases hcc with ⟨rfl,hc1,hc2⟩ | ⟨rfl,hc1⟩ | ⟨rfl,hc1,hc2⟩ | ⟨rfl,hc1⟩ | ⟨rfl,rfl⟩
 all_goals
  refine Bk c_Z26 mixed 3 (go1 trivial ?_)
  refine UcR [1000001] trivial (h1) (go1 trivial ?_)
  refine UcR [1000001] trivial (h2) (go1 trivial ?_)
  refine UcR [1000000,1000001,1000002] trivial (hk) (go1 trivial ?_)
  refine UcR [1000002] trivial (hw) (go1 trivial ?_)
  refine UcR [1000001] trivial (h3) (go1 trivial ?_)
  refine UcR [1000001] trivial (hce) (go1 trivial ?_)
  refine UcR [3000001,3000002] trivial (hf) (go1 trivial ?_)
  refine fin_L [1000000,1000001,1000002,3000001,3000002] ?_ ?_ rfl ?_
  all_goals exact Ag trivial
theorem oplan_dist (h : Pre bs ws p j u d x t k6 c n q j1 u1) (hc : c = 8) : OPlan bs ws p j u ((d + 1 : Nat) : Int) (.mk 7 0 [] [] [x]) (q + 1) j1 u1:=by
 obtain ⟨hl,hd,h1,h2,h6,hk,hw,hn,h3,hj,hu⟩:=h
 subst hc
 refine Bk c_Z26 mixed 3 (go1 trivial ?_)
 refine UcR [1000001] trivial (h1) (go1 trivial ?_)
 refine UcR [1000001] trivial (h2) (go1 trivial ?_)
 refine UcR [1000000,1000001,1000002] trivial (hk) (go1 trivial ?_)
 refine UcR [1000002] trivial (hw) (go1 trivial ?_)
 refine UcR [1000001] trivial (h3) (go1F trivial ?_)
 refine fin_wk (wk_rowO 2000004 2000098 5 2 (by decide) (by decide) (by decide) rfl rfl rfl) ?_
 (conv in hold _=>simp (disch:=omega) only [go_sem])
 refine fin_wk (wk_rowO 2000004 2000099 1 3 (by decide) (by decide) (by decide) rfl rfl rfl) ?_
 (conv in hold _=>simp (disch:=omega) only [go_sem])
 refine fin_L [1000000,1000001,1000002,2000098,2000099] ?_ ?_ rfl ?_
 all_goals exact Ag trivial
theorem oplan_grp (h : Pre bs ws p j u d x t k6 c n q j1 u1) (hc : c = 9) (hn1 : ¬ 1 < n) : OPlan bs ws p j u ((d + 1 : Nat) : Int) (.mk 8 0 [] [] [x]) (q + 1) j1 u1:=by
 obtain ⟨hl,hd,h1,h2,h6,hk,hw,hn,h3,hj,hu⟩:=h
 subst hc
 refine Bk c_Z26 mixed 3 (go1 trivial ?_)
 refine UcR [1000001] trivial (h1) (go1 trivial ?_)
 refine UcR [1000001] trivial (h2) (go1 trivial ?_)
 refine UcR [1000000,1000001,1000002] trivial (hk) (go1 trivial ?_)
 refine UcR [1000002] trivial (hw) (go1 trivial ?_)
 refine UcR [1000001] trivial (h3) (go1F trivial ?_)
 refine fin_wk (wk_rowO 2000004 2000098 5 2 (by decide) (by decide) (by decide) rfl rfl rfl) ?_
 (conv in hold _=>simp (disch:=omega) only [go_sem])
 refine fin_wk (wk_rowO 2000004 2000099 1 3 (by decide) (by decide) (by decide) rfl rfl rfl) ?_
 (conv in hold _=>simp (disch:=omega) only [go_sem])
 refine fin_L [1000000,1000001,1000002,2000098,2000099] ?_ ?_ rfl ?_
 all_goals exact Ag trivial
theorem oplan_grpc (h : Pre bs ws p j u d x t k6 c n q j1 u1) (hc : c = 9) (hn1 : 1 < n) {g : Int} (hg : DPick bs (q + 1) n g) : OPlan bs ws p j u ((d + 1 : Nat) : Int) (.mk 8 0 [] [g] [x]) (q + 2) j1 u1:=by
 obtain ⟨hl,hd,h1,h2,h6,hk,hw,hn,h3,hj,hu⟩:=h
 subst hc
 refine Bk c_Z26 mixed 3 (go1 trivial ?_)
 refine UcR [1000001] trivial (h1) (go1 trivial ?_)
 refine UcR [1000001] trivial (h2) (go1 trivial ?_)
 refine UcR [1000000,1000001,1000002] trivial (hk) (go1 trivial ?_)
 refine UcR [1000002] trivial (hw) (go1 trivial ?_)
 refine UcR [1000001] trivial (h3) (go1 trivial ?_)
 refine UcR [1000001] trivial (hg) (go1F trivial ?_)
 refine fin_wk (wk_rowO 2000004 2000098 5 2 (by decide) (by decide) (by decide) rfl rfl rfl) ?_
 (conv in hold _=>simp (disch:=omega) only [go_sem])
 refine fin_L [1000000,1000001,1000002,2000098,2000158] ?_ ?_ rfl ?_
 all_goals exact Ag trivial
theorem oplan_uni (h : Pre bs ws p j u d x t k6 c n q j1 u1) (hc : c = 7) (hu1 : 0 < u1) (hsz : psz x ≤ 900000) {e : E} {q2 : Nat} (hce : DCond bs (q + 1) n e q2) : OPlan bs ws p j u ((d + 1 : Nat) : Int) (.mk 6 0 [] [] [x,.mk 2 0 [e] [] [x]]) q2 j1 (u1 - 1):=by
 obtain ⟨hl,hd,h1,h2,h6,hk,hw,hn,h3,hj,hu⟩:=h
 subst hc
 have hf:=filterOf_ok e x
 have hcp:=copyPlan_ok x hsz
 have hu2 : ((u1 - 1 : Nat) : Int) = (u1 : Int) - 1:=by omega
 refine Bk c_Z26 mixed 3 (go1 trivial ?_)
 refine UcR [1000001] trivial (h1) (go1 trivial ?_)
 refine UcR [1000001] trivial (h2) (go1 trivial ?_)
 refine UcR [1000000,1000001,1000002] trivial (hk) (go1 trivial ?_)
 refine UcR [1000002] trivial (hw) (go1 trivial ?_)
 refine UcR [1000001] trivial (h3) (go1 trivial ?_)
 refine UcR [1000001] trivial (hce) (go1 trivial ?_)
 refine Uc trivial (hcp) (go1 trivial ?_)
 refine Uc trivial (hf) (go1F trivial ?_)
 refine fin_wk (wk_rowO 2000004 2000098 5 2 (by decide) (by decide) (by decide) rfl rfl rfl) ?_
 (conv in hold _=>simp (disch:=omega) only [go_sem])
 refine fin_wk (wk_rowO 2000004 2000099 1 3 (by decide) (by decide) (by decide) rfl rfl rfl) ?_
 (conv in hold _=>simp (disch:=omega) only [go_sem])
 refine fin_L [1000000,1000001,1000002,2000098,2000099] ?_ ?_ rfl ?_
 all_goals exact Ag @hu2
theorem oplan_join (h : Pre bs ws p j u d x t k6 c n q j1 u1) (hc : c = 5 ∨ c = 6) (hj0 : 0 < j1) (hn4 : n ≤ 4) {d2 : Int} (hd2 : DPick bs (q + 1) 2 d2) {y : Pl} {q2 j2 u2 : Nat} (hy : DPlan bs ws (q + 2) (j1 - 1) u1 d2 y q2 j2 u2) {m : Int} (hm : DWid ws y m) (hm0 : 0 ≤ m ∧ m ≤ 6) (hnm : n + m ≤ 6)
  {k : Int} (hkk : Does Tryz.prog 82 [rdD bs q2] [.ref 1000000 0,.sl 1 ([4,5].map I)] (I k) [rdD bs (q2 + 1)]) {e : E} {q3 : Nat} (hce : DCond bs (q2 + 1) (n + m) e q3) : OPlan bs ws p j u ((d + 1 : Nat) : Int) (.mk k 0 [e] [] [x,y]) q3 j2 u2:=by
 obtain ⟨hl,hd,h1,h2,h6,hk,hw,hn,h3,hj,hu⟩:=h
 have hj2 : ((j1 - 1 : Nat) : Int) = (j1 : Int) - 1:=by omega
 unfold DPlan gnD at hy
 rw [hj2] at hy
 rcases hc with rfl | rfl
 all_goals
  refine Bk c_Z26 mixed 3 (go1 trivial ?_)
  refine UcR [1000001] trivial (h1) (go1 trivial ?_)
  refine UcR [1000001] trivial (h2) (go1 trivial ?_)
  refine UcR [1000000,1000001,1000002] trivial (hk) (go1 trivial ?_)
  refine UcR [1000002] trivial (hw) (go1 trivial ?_)
  refine UcR [1000001] trivial (h3) (go1 trivial ?_)
  refine UcR [1000001] trivial (hd2) (go1 trivial ?_)
  refine UcR [1000000,1000001,1000002] trivial (hy) (go1 trivial ?_)
  refine UcR [1000002] trivial (hm) (go1 trivial ?_)
  refine UcR [1000001] trivial (hkk) (go1 trivial ?_)
  refine UcR [1000001] trivial (hce) (go1F trivial ?_)
  refine fin_wk (wk_rowO 2000004 2000099 1 3 (by decide) (by decide) (by decide) rfl rfl rfl) ?_
  (conv in hold _=>simp (disch:=omega) only [go_sem])
  refine fin_L [1000000,1000001,1000002,2000117,2000099] ?_ ?_ rfl ?_
  all_goals exact Ag trivial
theorem oplan_wide (h : Pre bs ws p j u d x t k6 c n q j1 u1) (hc : c = 5 ∨ c = 6) (hj0 : 0 < j1) (hn4 : n ≤ 4) {d2 : Int} (hd2 : DPick bs (q + 1) 2 d2) {y : Pl} {q2 j2 u2 : Nat} (hy : DPlan bs ws (q + 2) (j1 - 1) u1 d2 y q2 j2 u2) {m : Int} (hm : DWid ws y m) (hm0 : 0 ≤ m ∧ m ≤ 6) (hnm : ¬ n + m ≤ 6)
  {e : E} {q3 : Nat} (hce : DCond bs q2 n e q3) : OPlan bs ws p j u ((d + 1 : Nat) : Int) (.mk 2 0 [e] [] [x]) q3 j2 u2:=by
 obtain ⟨hl,hd,h1,h2,h6,hk,hw,hn,h3,hj,hu⟩:=h
 have hf:=filterOf_own e x
 have hj2 : ((j1 - 1 : Nat) : Int) = (j1 : Int) - 1:=by omega
 unfold DPlan gnD at hy
 rw [hj2] at hy
 rcases hc with rfl | rfl
 all_goals
  refine Bk c_Z26 mixed 3 (go1 trivial ?_)
  refine UcR [1000001] trivial (h1) (go1 trivial ?_)
  refine UcR [1000001] trivial (h2) (go1 trivial ?_)
  refine UcR [1000000,1000001,1000002] trivial (hk) (go1 trivial ?_)
  refine UcR [1000002] trivial (hw) (go1 trivial ?_)
  refine UcR [1000001] trivial (h3) (go1 trivial ?_)
  refine UcR [1000001] trivial (hd2) (go1 trivial ?_)
  refine UcR [1000000,1000001,1000002] trivial (hy) (go1 trivial ?_)
  refine UcR [1000002] trivial (hm) (go1 trivial ?_)
  refine UcR [1000001] trivial (hce) (go1 trivial ?_)
  refine UcR [3000001,3000002] trivial (hf) (go1 trivial ?_)
  refine fin_L [1000000,1000001,1000002,3000001,3000002] ?_ ?_ rfl ?_
  all_goals exact Ag trivial
end Go.Proofs.YtgpdmgaemhelgaaGreat
