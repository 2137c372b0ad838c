/-
  Plans whose lists are no longer than may be, part by part: their width, their copies. No condition.
-/
import Derived.Test.YtgpdmgaemhelgaaGreatKSDca
import Derived.Test.YtgpdmgaemhelgaaGreatKSDcc
import Derived.Test.YtgpdmgaemhelgaaGreatJSVRej
import Derived.Test.YtgpdmgaemhelgaaGreatJSVCond
import Derived.Test.YtgpdmgaemhelgaaGreatJSVYld
import Derived.Test.YtgpdmgaemhelgaaGreatKSDcf
import Derived.Test.YtgpdmgaemhelgaaGreatJSVClA
import Derived.Test.YtgpdmgaemhelgaaGreatJSDce
import Derived.Test.YtgpdmgaemhelgaaGreatJSVOutD
set_option maxHeartbeats 4000000
set_option maxRecDepth 100000
set_option linter.unusedVariables false
set_option linter.unusedSimpArgs false
namespace Go.Proofs.YtgpdmgaemhelgaaGreat
open Go.RowKit
inductive Loc : Pl → Prop
 | mk {p : Pl} (h1 : p.es.length ≤ 1048576) (h2 : p.cs.length ≤ 1048576) (h3 : p.ks.length ≤ 900000) (h4 : ∀ e,e ∈ p.es → esz e ≤ 800000) (h5 : ∀ x,x ∈ p.ks → Loc x) : Loc p
theorem Loc.own {p : Pl} (h : Loc p) : p.es.length ≤ 1048576 ∧ p.cs.length ≤ 1048576 ∧ p.ks.length ≤ 900000 ∧ (∀ e,e ∈ p.es → esz e ≤ 800000) ∧ ∀ x,x ∈ p.ks → Loc x:=by cases h with | mk h1 h2 h3 h4 h5=>exact ⟨h1,h2,h3,h4,h5⟩
theorem loc_of : ∀ p : Pl,psz p ≤ 800000 → Loc p:=by
 refine Pl.indA (fun p ih h=>?_)
 rw [psz_eq] at h
 have h1:=eszL_len p.es
 have h2:=pszL_len p.ks
 exact .mk (by omega) (by omega) (by omega) (fun e he=>by have:=eszL_mem he; omega) (fun x hx=>ih x hx (by have:=pszL_mem hx; omega))
theorem width_loc {ws : List Int} (hw : wsOk ws) : ∀ (p : Pl),Loc p → ∀ d : Nat,d < 1000 → (0 ≤ wdV ws p d ∧ wdV ws p d ≤ 6) ∧ Does Tryz.prog 95 [] [pD p,intsD ws,I d] (I (wdV ws p d)) [] ∧ Does Tryz.prog 56 [] [pD p,intsD ws,I d] (I (wdV ws p d)) []:=by
 refine Pl.indA (fun p ih hs d hd=>?_)
 obtain ⟨l1,l2,l3,l4,l5⟩:=hs.own
 rw [wd_eq]
 by_cases hf : fields p
 ·rw [if_pos hf]
  by_cases hk : p.k = 1
  ·rw [if_pos hk]
   exact ⟨scan_range hw p.t,planWidth_scan p ws hw d hf hk,widthWithin_scan p ws hw d hf hk⟩
  ·rw [if_neg hk]
   have hks : 1 ≤ p.ks.length:=by unfold fields at hf; omega
   by_cases hd0 : d = 0
   ·subst hd0
    rw [if_pos rfl]
    refine ⟨by decide,planWidth_0 p ws hf (by omega),?_⟩
    by_cases hfi : fieldsI p
    ·have h:=widthWithin_main p ws 0 (by decide) hfi hk (by omega) (by omega) (List.replicate p.ks.length 0) (by rw [List.length_replicate]) (fun j x hj=>by have:=List.eq_of_mem_replicate (List.mem_of_getElem? hj); omega) (fun i x n hx hn=>by
      obtain rfl : n = 0:=List.eq_of_mem_replicate (List.mem_of_getElem? hn)
      exact widthWithin_neg x ws)
     rw [resV_z ⟨0,by rw [List.getElem?_replicate,if_pos (by omega)]⟩] at h
     exact h
    ·exact widthWithin_no p ws 0 hfi
   ·rw [if_neg hd0]
    have hc1 : ((d - 1 : Nat) : Int) = (d : Int) - 1:=by omega
    have hp : ∀ (x : Pl),x ∈ p.ks → (0 ≤ wdV ws x (d - 1) ∧ wdV ws x (d - 1) ≤ 6) ∧ Does Tryz.prog 95 [] [pD x,intsD ws,I ((d : Int) - 1)] (I (wdV ws x (d - 1))) [] ∧ Does Tryz.prog 56 [] [pD x,intsD ws,I ((d : Int) - 1)] (I (wdV ws x (d - 1))) []:=fun x hx=>by
     have:=ih x hx (l5 x hx) (d - 1) (by omega)
     rw [hc1] at this
     exact this
    have hl : (p.ks.map (fun x=>wdV ws x (d - 1))).length = p.ks.length:=List.length_map ..
    have hn : ∀ (j : Nat) (x : Int),(p.ks.map (fun x=>wdV ws x (d - 1)))[j]? = some x → 0 ≤ x ∧ x ≤ 6:=fun j x hj=>by
     obtain ⟨y,hy,rfl⟩:=List.mem_map.1 (List.mem_of_getElem? hj)
     exact (hp y hy).1
    refine ⟨resV_range p _ hn,planWidth_main p ws d hd (by omega) hf hk (by omega) (by omega) _ hl hn (fun i x n hx hn=>?_),?_⟩
    ·obtain rfl:=wd_at hx hn
     exact (hp x (List.mem_of_getElem? hx)).2.1
    ·by_cases hfi : fieldsI p
     ·exact widthWithin_main p ws d hd hfi hk (by omega) (by omega) _ hl hn (fun i x n hx hn=>by
       obtain rfl:=wd_at hx hn
       exact (hp x (List.mem_of_getElem? hx)).2.2)
     ·rw [resV_f (fun h=>hfi h.1)]
      exact widthWithin_no p ws d hfi
 ·rw [if_neg hf]
  exact ⟨by decide,planWidth_no p ws d hf,widthWithin_no p ws d (fun h=>hf h.1)⟩
theorem copyPlan_loc : ∀ p : Pl,Loc p → Does Tryz.prog 64 [] [pD p] (pD p) []:=by
 refine Pl.indA (fun p ih h=>?_)
 obtain ⟨l1,l2,l3,l4,l5⟩:=h.own
 have hc:=take_all I p.cs
 refine Bg c_Z138 mixed (go1 trivial ?_)
 refine dw_for (c:=5) (l:=fun i=>[(1,.ref 1000000 0),(2,.ref 1000001 0),(3,.ref 1000002 0),(4,I i),(1000000,.obj [I p.k,I p.t,.sl 5 (p.es.map eD),.sl 1 (p.cs.map I),.sl 5 (p.ks.map pD)]),(1000001,.obj [I 0,I 0,.nul,.nul,.nul]),(1000002,.obj [I p.k,I p.t,.own 1000004 5 i,.own 1000003 1 p.cs.length,.nul]),(1000003,.row 1 (p.cs.map I)),(1000004,.row 5 ((p.es.take i).map eD))]) p.es.length (fun _=>True) 0 trivial ((wk_rowO 2000003 2000099 5 2 (by decide) (by decide) (by decide) rfl rfl rfl).trans (Wk.list [2000001,2000002,2000003,2000013,2000099] rfl rfl ?_)) (fun i hi _=>?_) (Nat.zero_le _)
 ·repeat' (first|(conv in hold _=>simp (disch:=omega) only [go_sem,hc])|exact trivial|exact Sub.refl _|omega)
  exact rfl
 ·have hlt:=take_len (vs:=p.es) (i:=i) (by omega)
  have hmt:=take_map eD (vs:=p.es) (i:=i) (by omega)
  rcases at_or_end hi with ⟨x,hx,hlt1⟩ | rfl
  ·have hix:=copyExpr_ok x (by have:=l4 x (List.mem_of_getElem? hx); omega)
   have hnx:=take_next hx
   refine go1 (cj2 @hx @hc) ?_
   refine Uc @hc (hix) (go1 @hc ?_)
   refine ⟨hlt1,trivial,Wk.list [1000000,1000001,1000002,1000003,2000031] rfl rfl ?_⟩
   repeat' (first|(conv in hold _=>simp (disch:=omega) only [go_sem,hc])|exact trivial|exact Sub.refl _|omega)
   rw [hmt,hnx,List.map_append,List.map_cons,List.map_nil,eD_eq x]
  ·have e1 : p.es.take p.es.length = p.es:=List.take_length
   have e2 : (p.es.map eD).take p.es.length = p.es.map eD:=take_all eD p.es
   refine go1 (cj2 @e1 @hc) ?_
   refine dw_for (c:=6) (l:=fun i=>[(1,.ref 1000000 0),(2,.ref 1000001 0),(3,.ref 1000002 0),(5,I i),(1000000,.obj [I p.k,I p.t,.sl 5 (p.es.map eD),.sl 1 (p.cs.map I),.sl 5 (p.ks.map pD)]),(1000001,.obj [I 0,I 0,.nul,.nul,.nul]),(1000002,.obj [I p.k,I p.t,.own 1000004 5 p.es.length,.own 1000003 1 p.cs.length,.own 1000005 5 i]),(1000003,.row 1 (p.cs.map I)),(1000004,.row 5 (p.es.map eD)),(1000005,.row 5 ((p.ks.take i).map pD))]) p.ks.length (fun _=>True) 0 trivial ((wk_rowO 1000002 2000099 5 4 (by decide) (by decide) (by decide) rfl rfl rfl).trans (Wk.list [1000000,1000001,1000002,1000003,1000004,2000099] rfl rfl ?_)) (fun i hi _=>?_) (Nat.zero_le _)
   ·repeat' (first|(conv in hold _=>simp (disch:=omega) only [go_sem,hc,e1,e2])|exact trivial|exact Sub.refl _|omega)
    exact rfl
   ·have hlt:=take_len (vs:=p.ks) (i:=i) (by omega)
    have hmt:=take_map pD (vs:=p.ks) (i:=i) (by omega)
    rcases at_or_end hi with ⟨x,hx,hlt1⟩ | rfl
    ·have hix:=ih x (List.mem_of_getElem? hx) (l5 x (List.mem_of_getElem? hx))
     have hnx:=take_next hx
     refine go1 (cj3 @hx @hc @e2) ?_
     refine Uc (cj2 @hc @e2) (hix) (go1 (cj2 @hc @e2) ?_)
     refine ⟨hlt1,trivial,Wk.list [1000000,1000001,1000002,1000003,1000004,2000049] rfl rfl ?_⟩
     repeat' (first|(conv in hold _=>simp (disch:=omega) only [go_sem,hc,e2])|exact trivial|exact Sub.refl _|omega)
     rw [hmt,hnx,List.map_append,List.map_cons,List.map_nil,pD_eq x]
     rfl
    ·have e3 : p.ks.take p.ks.length = p.ks:=List.take_length
     have e4 : (p.ks.map pD).take p.ks.length = p.ks.map pD:=take_all pD p.ks
     refine go1F (cj3 @e3 @hc @e2) ?_
     refine fin_wk (wk_frzO 1000001 1000003 (by decide) (by decide) rfl (by decide) rfl ?_) ?_
     rotate_left
     (conv in hold _=>simp (disch:=omega) only [go_sem,e2,hc,e4])
     refine fin_wk (wk_frzO 1000001 1000004 (by decide) (by decide) rfl (by decide) rfl ?_) ?_
     rotate_left
     (conv in hold _=>simp (disch:=omega) only [go_sem,e2,hc,e4])
     refine fin_wk (wk_frzO 1000001 1000005 (by decide) (by decide) rfl (by decide) rfl ?_) ?_
     rotate_left
     (conv in hold _=>simp (disch:=omega) only [go_sem,e2,hc,e4])
     all_goals first
      | exact ints_pur _
      | exact exprs_pur _
      | exact plans_pur _
      | skip
     refine fin_L [] ?_ ?_ rfl ?_
     all_goals exact Ag trivial
theorem copyPlan_kids (p : Pl) (h : Loc p) (h0 : 0 < p.ks.length) : Does Tryz.prog 64 [] [pD p] (.agg [I p.k,I p.t,.sl 5 (p.es.map eD),intsD p.cs,.own 1000000 5 p.ks.length]) [.row 5 (p.ks.map pD)]:=by
 obtain ⟨l1,l2,l3,l4,l5⟩:=h.own
 have hc:=take_all I p.cs
 refine Bk c_Z138 mixed 0 (go1 trivial ?_)
 refine dw_for (c:=5) (l:=fun i=>[(1,.ref 1000000 0),(2,.ref 1000001 0),(3,.ref 1000002 0),(4,I i),(1000000,.obj [I p.k,I p.t,.sl 5 (p.es.map eD),.sl 1 (p.cs.map I),.sl 5 (p.ks.map pD)]),(1000001,.obj [I 0,I 0,.nul,.nul,.nul]),(1000002,.obj [I p.k,I p.t,.own 1000004 5 i,.own 1000003 1 p.cs.length,.nul]),(1000003,.row 1 (p.cs.map I)),(1000004,.row 5 ((p.es.take i).map eD))]) p.es.length (fun _=>True) 0 trivial ((wk_rowO 2000003 2000099 5 2 (by decide) (by decide) (by decide) rfl rfl rfl).trans (Wk.list [2000001,2000002,2000003,2000013,2000099] rfl rfl ?_)) (fun i hi _=>?_) (Nat.zero_le _)
 ·repeat' (first|(conv in hold _=>simp (disch:=omega) only [go_sem,hc])|exact trivial|exact Sub.refl _|omega)
  exact rfl
 ·have hlt:=take_len (vs:=p.es) (i:=i) (by omega)
  have hmt:=take_map eD (vs:=p.es) (i:=i) (by omega)
  rcases at_or_end hi with ⟨x,hx,hlt1⟩ | rfl
  ·have hix:=copyExpr_ok x (by have:=l4 x (List.mem_of_getElem? hx); omega)
   have hnx:=take_next hx
   refine go1 (cj2 @hx @hc) ?_
   refine Uc @hc (hix) (go1 @hc ?_)
   refine ⟨hlt1,trivial,Wk.list [1000000,1000001,1000002,1000003,2000031] rfl rfl ?_⟩
   repeat' (first|(conv in hold _=>simp (disch:=omega) only [go_sem,hc])|exact trivial|exact Sub.refl _|omega)
   rw [hmt,hnx,List.map_append,List.map_cons,List.map_nil,eD_eq x]
  ·have e1 : p.es.take p.es.length = p.es:=List.take_length
   have e2 : (p.es.map eD).take p.es.length = p.es.map eD:=take_all eD p.es
   refine go1 (cj2 @e1 @hc) ?_
   refine dw_for (c:=6) (l:=fun i=>[(1,.ref 1000000 0),(2,.ref 1000001 0),(3,.ref 1000002 0),(5,I i),(1000000,.obj [I p.k,I p.t,.sl 5 (p.es.map eD),.sl 1 (p.cs.map I),.sl 5 (p.ks.map pD)]),(1000001,.obj [I 0,I 0,.nul,.nul,.nul]),(1000002,.obj [I p.k,I p.t,.own 1000004 5 p.es.length,.own 1000003 1 p.cs.length,.own 1000005 5 i]),(1000003,.row 1 (p.cs.map I)),(1000004,.row 5 (p.es.map eD)),(1000005,.row 5 ((p.ks.take i).map pD))]) p.ks.length (fun _=>True) 0 trivial ((wk_rowO 1000002 2000099 5 4 (by decide) (by decide) (by decide) rfl rfl rfl).trans (Wk.list [1000000,1000001,1000002,1000003,1000004,2000099] rfl rfl ?_)) (fun i hi _=>?_) (Nat.zero_le _)
   ·repeat' (first|(conv in hold _=>simp (disch:=omega) only [go_sem,hc,e1,e2])|exact trivial|exact Sub.refl _|omega)
    exact rfl
   ·have hlt:=take_len (vs:=p.ks) (i:=i) (by omega)
    have hmt:=take_map pD (vs:=p.ks) (i:=i) (by omega)
    rcases at_or_end hi with ⟨x,hx,hlt1⟩ | rfl
    ·have hix:=copyPlan_loc x (l5 x (List.mem_of_getElem? hx))
     have hnx:=take_next hx
     refine go1 (cj3 @hx @hc @e2) ?_
     refine Uc (cj2 @hc @e2) (hix) (go1 (cj2 @hc @e2) ?_)
     refine ⟨hlt1,trivial,Wk.list [1000000,1000001,1000002,1000003,1000004,2000049] rfl rfl ?_⟩
     repeat' (first|(conv in hold _=>simp (disch:=omega) only [go_sem,hc,e2])|exact trivial|exact Sub.refl _|omega)
     rw [hmt,hnx,List.map_append,List.map_cons,List.map_nil,pD_eq x]
     rfl
    ·have e3 : p.ks.take p.ks.length = p.ks:=List.take_length
     have e4 : (p.ks.map pD).take p.ks.length = p.ks.map pD:=take_all pD p.ks
     refine go1F (cj3 @e3 @hc @e2) ?_
     refine fin_wk (wk_frzO 1000001 1000003 (by decide) (by decide) rfl (by decide) rfl ?_) ?_
     rotate_left
     (conv in hold _=>simp (disch:=omega) only [go_sem,e2,hc,e4])
     refine fin_wk (wk_frzO 1000001 1000004 (by decide) (by decide) rfl (by decide) rfl ?_) ?_
     rotate_left
     (conv in hold _=>simp (disch:=omega) only [go_sem,e2,hc,e4])
     all_goals first
      | exact ints_pur _
      | exact exprs_pur _
      | exact plans_pur _
      | skip
     refine fin_L [1000005] ?_ ?_ rfl ?_
     all_goals exact Ag trivial
end Go.Proofs.YtgpdmgaemhelgaaGreat
set_option maxHeartbeats 4000000
set_option maxRecDepth 100000
set_option linter.unusedVariables false
namespace Go.Proofs.YtgpdmgaemhelgaaGreat
open Go.RowKit
theorem RejectsNulls_I {e : E} {m : Nat} (hw : 1 ≤ m ∧ m ≤ 6) (he : eOk e m 8) (ns : List Int) (hl : ns.length ≤ 1048576) : Does Tryz.prog 169 [] [eD e,I m,intsD ns] (Bo (intBit .and .i64 (oc e (stL ns m)) 2 == 0)) []:=by
 have h2:=implValidExpr_ok e m
 rw [decide_eq_true ⟨by omega,he⟩] at h2
 have hsl:=stL_len ns m
 obtain ⟨_,_,hB⟩:=oc_ok (stL_ok ns m) (by kernel_rfl) (by kernel_rfl) e 8 (by rw [hsl]; exact he)
 generalize oc e (stL ns m) = n at hB
 have hz:=fil_zero I (I 0) (stL ns m)
 have hren:=fil_ren I (I 0) (fun _=>rfl) rfl (stL ns m)
 refine Bg c_Z44 mixed (go1 trivial ?_)
 refine Uc trivial (h2) (go1 trivial ?_)
 refine dw_for (c:=2) (l:=fun i=>[(2,intsD ns),(3,.ref 1000000 0),(7,.own 1000001 1 m),(16,I m),(17,I i),(1000000,.obj [I e.k,I e.c,Bo e.v.b,I e.v.n,.sl 5 (e.ks.map eD)]),(1000001,.row 1 (fil I (I 0) (stL ns m) i))]) m (fun _=>True) 0 trivial (Wk.list [2000003,2000014] rfl rfl ?_) (fun i hi _=>?_) (Nat.zero_le _)
 ·repeat' (first|(conv in hold _=>simp (disch:=omega) only [go_sem,hren])|exact trivial|exact Sub.refl _|omega)
  rw [hz,hsl]
  exact ⟨rfl,rfl⟩
 ·have hfl:=fil_len I (I 0) (stL ns m) (show i ≤ (stL ns m).length by omega)
  rw [hsl] at hfl
  by_cases hil : i < m
  ·have hget:=stL_get ns hil
   have hst:=fil_set I (I 0) hget
   have hgi : (fil I (I 0) (stL ns m) i)[i]? = some (I 0):=fil_get I (I 0) (by omega)
   have hct:=contains_ok ns hl i
   have hg7 : ((fil I (I 0) (stL ns m) i).set i (I 7))[i]? = some (I 7):=by rw [List.getElem?_set_self (by omega)]
   by_cases hm : (i : Int) ∈ ns
   ·rw [decide_eq_true hm] at hct
    rw [show stN ns i = 4 from if_pos hm] at hst
    refine go1 (cj2 @hfl @hgi) ?_
    refine Uc (cj3 @hfl @hgi @hg7) (hct) (go1 (cj3 @hfl @hgi @hg7) ?_)
    refine ⟨hil,trivial,Wk.list [1000000,1000001] rfl rfl ?_⟩
    repeat' (first|(conv in hold _=>simp (disch:=omega) only [go_sem,List.set_set,hst,hren])|exact trivial|exact Sub.refl _|omega)
   ·rw [decide_eq_false hm] at hct
    rw [show stN ns i = 7 from if_neg hm] at hst
    refine go1 (cj2 @hfl @hgi) ?_
    refine Uc (cj3 @hfl @hgi @hg7) (hct) (go1 (cj3 @hfl @hgi @hg7) ?_)
    refine ⟨hil,trivial,Wk.list [1000000,1000001] rfl rfl ?_⟩
    repeat' (first|(conv in hold _=>simp (disch:=omega) only [go_sem,hst,hren])|exact trivial|exact Sub.refl _|omega)
  ·obtain rfl : i = m:=by omega
   have hend:=fil_end I (I 0) (stL ns i)
   rw [hsl] at hend
   have e2 : ((stL ns i).map I).take i = (stL ns i).map I:=List.take_of_length_le (by rw [List.length_map]; omega)
   refine go1C @hend ?_
   refine s_pre (pre_frz (t:=31) (g:=1000001) (by decide) (by decide) rfl ?_) ?_
   rotate_left
   refine go1 (cj3 @hend @e2 @hsl) ?_
   ·exact Uc trivial (hB) (go0 trivial)
   ·exact ints_pur _
end Go.Proofs.YtgpdmgaemhelgaaGreat
set_option maxHeartbeats 4000000
set_option maxRecDepth 100000
set_option linter.unusedVariables false
set_option linter.unusedSimpArgs false
namespace Go.Proofs.YtgpdmgaemhelgaaGreat
open Go.RowKit
mutual
def scn (t : Int) : Pl → Bool
 | .mk k tb _ _ ks=>if k = 1 then tb == t else scnL t ks
def scnL (t : Int) : List Pl → Bool
 | []=>false
 | p :: l=>scn t p || scnL t l
end
theorem scnL_any (t : Int) : ∀ l : List Pl,scnL t l = l.any (scn t)
 | []=>by rw [scnL]; rfl
 | p :: l=>by rw [scnL,scnL_any t l,List.any_cons]
theorem scn_eq (t : Int) (p : Pl) : scn t p = if p.k = 1 then p.t == t else p.ks.any (scn t):=by
 cases p
 rw [scn,scnL_any]
 rfl
def placeL {α : Type} (p : α → Bool) (l : List α) : Int:=if l.any p then (l.findIdx p : Int) else -1
theorem placeL_at {α : Type} {p : α → Bool} {l : List α} {i : Nat} {x : α} (hx : l[i]? = some x) (hp : p x = true) (h : ∀ (j : Nat) (u : α),j < i → l[j]? = some u → p u = false) : placeL p l = i:=by
 have hlt:=(List.getElem?_eq_some_iff.1 hx).1
 have hxe:=(List.getElem?_eq_some_iff.1 hx).2
 have h1 : l.findIdx p = i:=(List.findIdx_eq hlt).2 ⟨by rw [hxe]; exact hp,fun j hj=>h j _ hj (List.getElem?_eq_getElem (by omega))⟩
 unfold placeL
 rw [if_pos (List.any_eq_true.2 ⟨x,List.mem_of_getElem? hx,hp⟩),h1]
theorem placeL_none {α : Type} {p : α → Bool} {l : List α} (h : ∀ u,u ∈ l → p u = false) : placeL p l = -1:=by
 unfold placeL
 rw [if_neg]
 intro ha
 obtain ⟨x,hx,hp⟩:=List.any_eq_true.1 ha
 rw [h x hx] at hp
 cases hp
theorem placeL_pos {α : Type} (p : α → Bool) (l : List α) : (0 ≤ placeL p l) ↔ l.any p = true:=by
 unfold placeL
 by_cases h : l.any p = true
 ·rw [if_pos h]; exact ⟨fun _=>h,fun _=>by omega⟩
 ·rw [if_neg h]; exact ⟨fun h'=>by omega,fun h'=>absurd h' h⟩
theorem indexP_ok (l : List Pl) (hl : l.length < 2000000) (t : Int) (h : ∀ x,x ∈ l → Does Tryz.prog 104 [.obj [I t]] [pD x,.ref 1000000 0] (Bo (scn t x)) [.obj [I t]]) : Does Tryz.prog 148 [.obj [I t]] [.sl 5 (l.map pD),.fn 104 [.ref 1000000 0]] (I (placeL (scn t) l)) [.obj [I t]]:=by
 refine Bk c_Z3 mixed 1 (go1 trivial ?_)
 refine dw_for (c:=1) (l:=fun i=>[(0,.sl 5 (l.map pD)),(1,.fn 104 [.ref 1000000 0]),(7,I l.length),(8,I i),(1000000,.obj [I t])]) l.length (fun i=>∀ (j : Nat) (u : Pl),j < i → l[j]? = some u → scn t u = false) 0 (by omega) (Wk.list [1000000] rfl rfl ?_) (fun i hi hJ=>?_) (Nat.zero_le _)
 ·repeat' (first|(conv in hold _=>simp (disch:=omega) only [go_sem])|exact trivial|exact Sub.refl _|omega)
  exact rfl
 ·rcases at_or_end hi with ⟨x,hx,hlt⟩ | rfl
  ·have hix:=h x (List.mem_of_getElem? hx)
   cases hq : scn t x with
   | true=>
    rw [hq] at hix
    refine go1 @hx ?_
    refine v_fn ((by kernel_rfl)) ?_
    refine UcR [1000000] trivial (hix) (go1 trivial ?_)
    refine fin_L [1000000] ?_ ?_ rfl ?_
    repeat' (first|(conv in hold _=>simp (disch:=omega) only [go_sem])|exact trivial|exact Sub.refl _|omega)
    exact Sub.of_eq (by rw [placeL_at hx hq hJ])
   | false=>
    rw [hq] at hix
    refine go1 @hx ?_
    refine v_fn ((by kernel_rfl)) ?_
    refine UcR [1000000] trivial (hix) (go1 trivial ?_)
    refine ⟨hlt,upto_next (p:=fun u=>scn t u = false) hx hJ hq,Wk.list [1000000] rfl rfl ?_⟩
    repeat' (first|(conv in hold _=>simp (disch:=omega) only [go_sem])|exact trivial|exact Sub.refl _|omega)
  ·refine go1 trivial ?_
   refine fin_L [1000000] ?_ ?_ rfl ?_
   repeat' (first|(conv in hold _=>simp (disch:=omega) only [go_sem])|exact trivial|exact Sub.refl _|omega)
   exact Sub.of_eq (by rw [placeL_none (upto_all (p:=fun u=>scn t u = false) hJ)])
theorem containsP_ok (l : List Pl) (hl : l.length < 2000000) (t : Int) (h : ∀ x,x ∈ l → Does Tryz.prog 104 [.obj [I t]] [pD x,.ref 1000000 0] (Bo (scn t x)) [.obj [I t]]) : Does Tryz.prog 103 [.obj [I t]] [.sl 5 (l.map pD),.fn 104 [.ref 1000000 0]] (Bo (l.any (scn t))) [.obj [I t]]:=by
 have h1:=indexP_ok l hl t h
 have h2:=placeL_pos (scn t) l
 refine Bk c_Z2 mixed 1 (go1 trivial ?_)
 refine UcR [1000000] trivial (h1) (go1 trivial ?_)
 have h3 : decide (0 ≤ placeL (scn t) l) = l.any (scn t):=by
  rw [Bool.eq_iff_iff,decide_eq_true_iff]
  exact h2
 refine fin_L [1000000] ?_ ?_ rfl ?_
 repeat' (first|(conv in hold _=>simp (disch:=omega) only [go_sem])|exact trivial|exact Sub.refl _|omega)
 rw [h3]
 exact Sub.refl _
theorem scans_ok (t : Int) : ∀ p : Pl,psz p ≤ 1048576 → Does Tryz.prog 57 [] [pD p,I t] (Bo (scn t p)) []:=by
 refine Pl.indA (fun p ih h=>?_)
 rw [psz_eq] at h
 have hlen:=pszL_len p.ks
 rw [scn_eq]
 by_cases hk : p.k = 1
 ·rw [if_pos hk]
  exact Bg c_Z162 mixed (go0 trivial)
 ·rw [if_neg hk]
  have hkid : ∀ x,x ∈ p.ks → Does Tryz.prog 104 [.obj [I t]] [pD x,.ref 1000000 0] (Bo (scn t x)) [.obj [I t]]:=fun x hx=>by
   have hix:=ih x hx (by have:=pszL_mem hx; omega)
   refine Bk c_Z144 mixed 1 (go1 trivial ?_)
   refine Uc trivial (hix) (go1 trivial ?_)
   refine fin_L [1000000] ?_ ?_ rfl ?_
   repeat' (first|(conv in hold _=>simp (disch:=omega) only [go_sem])|exact trivial|exact Sub.refl _|omega)
  have hc:=containsP_ok p.ks (by omega) t hkid
  refine Bg c_Z162 mixed (go1 trivial ?_)
  exact UcR [2000003] trivial (hc) (go0 trivial)
def tbs (p : Pl) (i : Nat) : List Int:=((List.range i).filter (fun t : Nat=>scn (t : Int) p)).map (fun t : Nat=>(t : Int))
theorem tbs_t {p : Pl} {i : Nat} (h : scn (i : Int) p = true) : tbs p (i + 1) = tbs p i ++ [(i : Int)]:=by
 unfold tbs
 rw [List.range_succ,List.filter_append,List.map_append,List.filter_cons,if_pos h]
 rfl
theorem tbs_f {p : Pl} {i : Nat} (h : scn (i : Int) p = false) : tbs p (i + 1) = tbs p i:=by
 unfold tbs
 rw [List.range_succ,List.filter_append,List.map_append,List.filter_cons,if_neg (by rw [h]; decide)]
 exact List.append_nil _
theorem tbs_le (p : Pl) (i : Nat) : (tbs p i).length ≤ i:=by
 unfold tbs
 rw [List.length_map]
 exact Nat.le_trans (List.length_filter_le ..) (by rw [List.length_range]; exact Nat.le_refl _)
theorem TablesOf_impl {ws : List Int} (hl : ws.length ≤ 1048576) {p : Pl} (hs : psz p ≤ 1048576) (hw : PV ws p ≠ 0) : Does Tryz.prog 21 [] [pD p,intsD ws] (intsD (tbs p ws.length)) []:=by
 obtain ⟨_,_,h2⟩:=PlanWidth_fn p hs ws hl
 have e0 : (PV ws p == 0) = false:=beq_eq_false_iff_ne.2 hw
 generalize PV ws p = w at *
 have t4 : ((tbs p ws.length).map I).take (tbs p ws.length).length = (tbs p ws.length).map I:=List.take_of_length_le (by rw [List.length_map]; exact Nat.le_refl _)
 refine Bg c_Z121 mixed (go1 trivial ?_)
 refine Uc @e0 (h2) (go1 @e0 ?_)
 refine dw_for (c:=2) (l:=fun i=>[(1,intsD ws),(2,.ref 1000000 0),(5,.own 1000001 1 (tbs p i).length),(12,I ws.length),(13,I i),(1000000,.obj [I p.k,I p.t,.sl 5 (p.es.map eD),intsD p.cs,.sl 5 (p.ks.map pD)]),(1000001,.row 1 ((tbs p i).map I))]) ws.length (fun _=>True) 0 trivial ((wk_row 5 2000099 1 (by decide) (by decide) rfl rfl).trans (Wk.list [2000002,2000099] rfl rfl ?_)) (fun i hi _=>?_) (Nat.zero_le _)
 ·repeat' (first|(conv in hold _=>simp (disch:=omega) only [go_sem])|exact trivial|exact Sub.refl _|omega)
  exact ⟨rfl,rfl,rfl⟩
 ·have hle:=tbs_le p i
  have hix:=scans_ok (i : Int) p hs
  by_cases hil : i < ws.length
  ·cases hq : scn (i : Int) p with
   | true=>
    rw [hq] at hix
    have hnx:=tbs_t hq
    refine go1 trivial ?_
    refine Uc trivial (hix) (go1 trivial ?_)
    refine ⟨hil,trivial,Wk.list [1000000,2000022] rfl rfl ?_⟩
    repeat' (first|(conv in hold _=>simp (disch:=omega) only [go_sem,List.length_map])|exact trivial|exact Sub.refl _|omega)
    rw [hnx,List.map_append,List.length_append]
    exact ⟨rfl,rfl⟩
   | false=>
    rw [hq] at hix
    have hnx:=tbs_f hq
    refine go1 trivial ?_
    refine Uc trivial (hix) (go1 trivial ?_)
    refine ⟨hil,trivial,Wk.list [1000000,1000001] rfl rfl ?_⟩
    repeat' (first|(conv in hold _=>simp (disch:=omega) only [go_sem])|exact trivial|exact Sub.refl _|omega)
    rw [hnx]
    exact ⟨rfl,rfl⟩
  ·obtain rfl : i = ws.length:=by omega
   refine go1F trivial ?_
   refine fin_wk (wk_frz 4 1000001 (by decide) (by decide) rfl ?_) ?_
   rotate_left
   (conv in hold _=>simp (disch:=omega) only [go_sem,t4,Nat.le_refl,List.length_map])
   ·refine fin_L [] ?_ ?_ rfl ?_
    repeat' (first|(conv in hold _=>simp (disch:=omega) only [go_sem])|exact trivial|exact Sub.refl _|omega)
   ·exact ints_pur _
end Go.Proofs.YtgpdmgaemhelgaaGreat
