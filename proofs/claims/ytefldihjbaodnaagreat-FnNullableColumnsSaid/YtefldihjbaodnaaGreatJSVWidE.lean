/-
  What the parts of a plan make of rows; the model's tables. No condition.
-/
import Derived.Test.YtefldihjbaodnaaGreatKSDca
import Derived.Test.YtefldihjbaodnaaGreatJSDcWPRowE
import Derived.Test.YtefldihjbaodnaaGreatKSDcc
import Derived.Test.YtefldihjbaodnaaGreatJSVDrawTb
import Derived.Test.YtefldihjbaodnaaGreatJSVEvS
import Derived.Test.YtefldihjbaodnaaGreatJSVGo
import Derived.Test.YtefldihjbaodnaaGreatJSDcVWidD
import Derived.Test.YtefldihjbaodnaaGreatJSDcVWid
import Derived.Test.YtefldihjbaodnaaGreatJSVOutB
set_option maxHeartbeats 4000000
set_option maxRecDepth 100000
set_option linter.unusedVariables false
set_option linter.unusedSimpArgs false
namespace Go.Proofs.YtefldihjbaodnaaGreat
open Go.RowKit
theorem fil_next {α : Type} {p : α → Bool} {l : List α} {i : Nat} {x : α} (hx : l[i]? = some x) : (l.take (i + 1)).filter p = (l.take i).filter p ++ (if p x = true then [x] else []):=by
 rw [take_next hx,List.filter_append]
 congr 1
 cases h : p x <;> simp [List.filter,h]
theorem fil_t {α : Type} {p : α → Bool} {l : List α} {i : Nat} {x : α} (hx : l[i]? = some x) (h : p x = true) : (l.take (i + 1)).filter p = (l.take i).filter p ++ [x]:=by rw [fil_next hx,if_pos h]
theorem fil_f {α : Type} {p : α → Bool} {l : List α} {i : Nat} {x : α} (hx : l[i]? = some x) (h : p x = false) : (l.take (i + 1)).filter p = (l.take i).filter p:=by rw [fil_next hx,if_neg (by rw [h]; decide),List.append_nil]
theorem fil_len {α : Type} (p : α → Bool) (l : List α) (i : Nat) (hi : i ≤ l.length) : ((l.take i).filter p).length ≤ i:=Nat.le_trans (List.length_filter_le _ _) (by rw [List.length_take]; omega)
def tabT (w : Int) (rs : List (List V)) : Ta:=⟨w,if rs.length ≤ 400 then srt rs else []⟩
theorem tabT_s {w : Int} {rs : List (List V)} (h : rs.length ≤ 400) : tabT w rs = ⟨w,srt rs⟩:=by unfold tabT; rw [if_pos h]
theorem tabT_n {w : Int} {rs : List (List V)} (h : ¬ rs.length ≤ 400) : tabT w rs = ⟨w,[]⟩:=by unfold tabT; rw [if_neg h]
theorem tableOf_fz (w : Int) (k : Nat) (hk : k < 1000) (rs : List (List V)) (hl : rs.length ≤ 400) (hs : RsW k rs) : Does Tryz.prog 74 [] [I w,rowsD rs] (taD ⟨w,srt rs⟩) []:=by
 have hsl:=srt_len rs
 have htz : ((srt rs).map rowD).take rs.length = (srt rs).map rowD:=by rw [← hsl]; exact take_all rowD _
 have hres : taD ⟨w,srt rs⟩ = .agg [I w,rowsD (srt rs)]:=rfl
 rw [hres]
 refine Bg c_Z189 mixed (go1 trivial ?_)
 refine dw_for (c:=3) (l:=fun i=>[(0,I w),(1,rowsD rs),(4,.ref 1000000 0),(5,.ref 1000001 0),(6,I i),(1000000,.obj [I 0,.nul]),(1000001,.obj [I w,.own 1000002 1 i]),(1000002,.row 1 ((srt (rs.take i)).map rowD))]) rs.length (fun _=>True) 0 trivial ((wk_rowO 2000005 2000090 1 1 (by decide) (by decide) (by decide) rfl rfl rfl).trans (Wk.list [2000004,2000005,2000090] rfl rfl ?_)) (fun i hi _=>?_) (Nat.zero_le _)
 ·repeat' (first|(conv in hold _=>simp (disch:=omega) only [go_sem])|exact trivial|exact Sub.refl _|omega)
  exact ⟨rfl,rfl⟩
 ·have htl : (srt (rs.take i)).length = i:=by rw [srt_len]; exact take_len hi
  have htk : ((srt (rs.take i)).map rowD).take i = (srt (rs.take i)).map rowD:=List.take_of_length_le (by rw [List.length_map,htl]; exact Nat.le_refl _)
  rcases at_or_end hi with ⟨x,hx,hlt⟩ | rfl
  ·have hnx:=srt_next hx
   have hts : RsW k (srt (rs.take i)):=srt_rsw (hs.take i)
   have hin:=insertRow_own (srt (rs.take i)) x k hk (by omega) (fun r hr=>by
    rcases List.mem_cons.1 hr with rfl | hr
    ·exact hs r (List.mem_of_getElem? hx)
    ·exact hts r hr) (srt_asc (hs.take i))
   rw [← hnx] at hin
   have hnl : (srt (rs.take (i + 1))).length = i + 1:=by rw [srt_len]; exact take_len (by omega)
   rw [hnl] at hin
   refine go1C @hx ?_
   refine s_pre (pre_frz (t:=20) (g:=1000002) (by decide) (by decide) rfl ?_) ?_
   rotate_left
   refine go1 (cj3 @htl @htk @hx) ?_
   refine c_doesR [3000001] (hin) (callOK_of rfl (Nat.le_of_ble_eq_true rfl) rfl ?_ ?_) ?_ ?_
   ·repeat' (first|(conv in hold _=>simp (disch:=omega) only [go_sem,List.getElem?_map,hx,Option.map_some])|exact trivial|exact Sub.refl _|omega)
   ·repeat' (first|(conv in hold _=>simp (disch:=omega) only [go_sem,List.getElem?_map,hx,Option.map_some])|exact trivial|exact Sub.refl _|omega)
   ·((conv=>rhs;simp (disch:=omega) only [go_sem,List.getElem?_map,hx,Option.map_some]); try rfl)
   repeat' (first|with_reducible refine acc_none ?_ | (conv in hold _=>simp (disch:=omega) only [go_sem,List.getElem?_map,hx,Option.map_some])|refine Stp.go ?_|(with_reducible first|refine it_pos rfl ?_|refine it_neg (by decide) ?_|refine st_nil rfl ?_|refine s_op ?_ ?_|exact trivial)|((with_reducible first|refine dw_reg0 ?_|refine dw_regB ?_);(conv=>arg 3;whnf))|(refine Spl.go (fun hq he=>?_) (fun hq he=>?_)<;>first|(exfalso;clear hq;omega)|((try first|(conv=>arg 8;simp only [hq])|(conv=>arg 4;simp only [hq]));clear hq))|((with_reducible first|refine c_split (fun hq=>?_) (fun hq=>?_)|refine q_split (fun hq=>?_) (fun hq=>?_))<;>(try first|(conv=>arg 8;simp only [hq])|(conv=>arg 4;simp only [hq])))|(with_reducible refine fin_0 ?_ (by first|rfl|(conv=>lhs;simp only [go_sem,List.getElem?_map,hx,Option.map_some])) ?_)|exact Sub.refl _|omega)
   ·refine ⟨hlt,trivial,Wk.list [1000000,1000001,3000001] rfl rfl ?_⟩
    repeat' (first|(conv in hold _=>simp (disch:=omega) only [go_sem])|exact trivial|exact Sub.refl _|omega)
   ·exact rows_pur _
  ·have e1 : rs.take rs.length = rs:=List.take_length
   rw [e1]
   refine go1F trivial ?_
   refine fin_wk (wk_frzO 1000000 1000002 (by decide) (by decide) rfl (by decide) rfl ?_) ?_
   rotate_left
   (conv in hold _=>simp (disch:=omega) only [go_sem,htz,hsl,List.length_map,Nat.le_refl])
   ·refine fin_L [] ?_ ?_ rfl ?_
    repeat' (first|(conv in hold _=>simp (disch:=omega) only [go_sem])|exact trivial|exact Sub.refl _|omega)
   ·exact rows_pur _
theorem tableOf_tab (w : Int) (k : Nat) (hk : k < 1000) (rs : List (List V)) (hl2 : rs.length < 2000000) (hs : RsW k rs) : Does Tryz.prog 74 [] [I w,rowsD rs] (taD (tabT w rs)) []:=by
 by_cases hl : rs.length ≤ 400
 ·rw [tabT_s hl]
  exact tableOf_fz w k hk rs hl hs
 ·rw [tabT_n hl]
  refine Bg c_Z189 mixed (go1 trivial ?_)
  exact Sub.agg ⟨Sub.refl _,Sub.nul 1,trivial⟩
-- rows
def nulR (n : Nat) : List V:=List.replicate n ⟨true,0⟩
def holdsB (e : E) (r : List V) : Bool:=tr (ev e r) == 1
theorem holds_ok {row : List V} (hr : ∀ v,v ∈ row → v.ok) (e : E) (d : Nat) (h : eOk e row.length d) : Does Tryz.prog 134 [] [eD e,rowD row] (Bo (holdsB e row)) []:=by
 have h1:=evalExpr_ok hr e d h
 have h2:=truth_ok (ev e row)
 unfold holdsB
 refine Bg c_Z197 mixed (go1 trivial ?_)
 refine Uc trivial (h1) (go1 trivial ?_)
 exact Uc trivial (h2) (go0 trivial)
theorem filterTable_ok {w : Nat} (hw : w < 1000) (rs : List (List V)) (hl : rs.length < 1000000) (hs : RsW w rs) (e : E) (d : Nat) (he : eOk e w d) : Does Tryz.prog 75 [] [taD ⟨w,rs⟩,eD e] (taD (tabT w (rs.filter (holdsB e)))) []:=by
 have hsub : (rs.filter (holdsB e)).Sublist rs:=List.filter_sublist
 have h3:=tableOf_tab w w hw (rs.filter (holdsB e)) (by have:=hsub.length_le; omega) (rsw_sub hsub hs)
 have hfin : (rs.take rs.length).filter (holdsB e) = rs.filter (holdsB e):=by rw [List.take_length]
 have htk : ((rs.filter (holdsB e)).map rowD).take (rs.filter (holdsB e)).length = (rs.filter (holdsB e)).map rowD:=take_all rowD _
 refine Bg c_Z110 mixed (go1 trivial ?_)
 refine dw_for (c:=4) (l:=fun i=>[(2,.ref 1000000 0),(3,.ref 1000001 0),(4,.ref 1000002 0),(5,.own 1000003 1 ((rs.take i).filter (holdsB e)).length),(6,I i),(1000000,.obj [I w,rowsD rs]),(1000001,.obj [I e.k,I e.c,Bo e.v.b,I e.v.n,.sl 5 (e.ks.map eD)]),(1000002,.obj [I 0,.nul]),(1000003,.row 1 (((rs.take i).filter (holdsB e)).map rowD))]) rs.length (fun _=>True) 0 trivial ((wk_row 5 2000090 1 (by decide) (by decide) rfl rfl).trans (Wk.list [2000002,2000003,2000004,2000090] rfl rfl ?_)) (fun i hi _=>?_) (Nat.zero_le _)
 ·repeat' (first|(conv in hold _=>simp (disch:=omega) only [go_sem])|exact trivial|exact Sub.refl _|omega)
  first | exact rfl | exact ⟨rfl,rfl⟩ | exact ⟨rfl,rfl,rfl⟩
 ·have hfi:=fil_len (holdsB e) rs i hi
  have htm : (((rs.take i).filter (holdsB e)).map rowD).take ((rs.take i).filter (holdsB e)).length = ((rs.take i).filter (holdsB e)).map rowD:=take_all rowD _
  rcases at_or_end hi with ⟨x,hx,hlt⟩ | rfl
  ·have hxr:=hs x (List.mem_of_getElem? hx)
   have h1:=holds_ok hxr.2 e d (by rw [hxr.1]; exact he)
   cases hq : holdsB e x with
   | true=>
    rw [hq] at h1
    have e1:=fil_t hx hq
    refine go1 @hx ?_
    refine Uc (cj2 @hx @htm) (h1) (go1 (cj2 @hx @htm) ?_)
    refine ⟨hlt,trivial,Wk.list [1000000,1000001,1000002,2000029] rfl rfl ?_⟩
    repeat' (first|(conv in hold _=>simp (disch:=omega) only [go_sem,e1,htm])|exact trivial|exact Sub.refl _|omega)
    rw [List.map_append]
    rfl
   | false=>
    rw [hq] at h1
    have e1:=fil_f hx hq
    refine go1 @hx ?_
    refine Uc @hx (h1) (go1 @hx ?_)
    refine ⟨hlt,trivial,Wk.list [1000000,1000001,1000002,1000003] rfl rfl ?_⟩
    repeat' (first|(conv in hold _=>simp (disch:=omega) only [go_sem,e1])|exact trivial|exact Sub.refl _|omega)
  ·rw [hfin]
   refine go1C trivial ?_
   refine s_pre (pre_frz (t:=32) (g:=1000003) (by decide) (by decide) rfl ?_) ?_
   rotate_left
   refine go1 @htk ?_
   refine c_doesE (h3) ?_ ?_ ?_
   ·((try (conv=>rhs;simp (disch:=omega) only [go_sem])); try rfl)
   ·first|rfl|(conv=>lhs;simp only [go_sem])
   repeat' (first|with_reducible refine acc_none ?_ | (conv in hold _=>simp (disch:=omega) only [go_sem])|refine Stp.go ?_|(with_reducible first|refine it_pos rfl ?_|refine it_neg (by decide) ?_|refine st_nil rfl ?_|refine s_op ?_ ?_|exact trivial)|((with_reducible first|refine dw_reg0 ?_|refine dw_regB ?_);(conv=>arg 3;whnf))|(refine Spl.go (fun hq he=>?_) (fun hq he=>?_)<;>first|(exfalso;clear hq;omega)|((try first|(conv=>arg 8;simp only [hq])|(conv=>arg 4;simp only [hq]));clear hq))|((with_reducible first|refine c_split (fun hq=>?_) (fun hq=>?_)|refine q_split (fun hq=>?_) (fun hq=>?_))<;>(try first|(conv=>arg 8;simp only [hq])|(conv=>arg 4;simp only [hq])))|(with_reducible refine fin_0 ?_ (by first|rfl|(conv=>lhs;simp only [go_sem])) ?_)|exact Sub.refl _|omega)
   ·exact rows_pur _
end Go.Proofs.YtefldihjbaodnaaGreat
set_option maxHeartbeats 4000000
set_option maxRecDepth 100000
namespace Go.Proofs.YtefldihjbaodnaaGreat
open Go.RowKit
theorem list_of {α β : Type} {P : α → β → Prop} : ∀ l : List α,(∀ x,x ∈ l → ∃ y,P x y) → ∃ m : List β,m.length = l.length ∧ ∀ (i : Nat) (x : α) (y : β),l[i]? = some x → m[i]? = some y → P x y
 | [],_=>⟨[],rfl,fun i x y h=>by simp at h⟩
 | a :: l,h=>by
  obtain ⟨b,hb⟩:=h a (List.mem_cons_self ..)
  obtain ⟨m,hm,hp⟩:=list_of l (fun x hx=>h x (List.mem_cons_of_mem _ hx))
  refine ⟨b :: m,by rw [List.length_cons,List.length_cons,hm],fun i x y hx hy=>?_⟩
  rcases i with _ | i
  ·cases hx; cases hy; exact hb
  ·exact hp i x y (by simpa using hx) (by simpa using hy)
theorem resV_range (p : Pl) (ns : List Int) (hn : ∀ (j : Nat) (x : Int),ns[j]? = some x → 0 ≤ x ∧ x ≤ 6) : 0 ≤ resV p ns ∧ resV p ns ≤ 6:=by
 by_cases hz : zeroIn ns
 ·rw [resV_z hz]; decide
 ·by_cases hq : fieldsI p ∧ fitsV p ns
  ·rw [resV_t hz hq.1 hq.2]
   have hf:=hq.1
   have hv:=hq.2
   unfold fieldsI fields at hf
   unfold fromV
   by_cases h3 : p.k = 3
   ·rw [if_pos h3]; omega
   ·rw [if_neg h3]
    by_cases h4 : p.k = 4 ∨ p.k = 5
    ·rw [if_pos h4]
     unfold fitsV at hv
     rw [if_neg (by omega),if_neg (by omega)] at hv
     obtain ⟨x,hx⟩ : ∃ x,p.es[0]? = some x:=⟨_,List.getElem?_eq_getElem (by omega)⟩
     have:=(hv 0 x hx).1
     omega
    ·rw [if_neg h4]
     by_cases h8 : p.k = 8
     ·rw [if_pos h8]
      unfold fitsV at hv
      rw [if_neg (by omega),if_pos h8] at hv
      have:=hv.1
      omega
     ·rw [if_neg h8,List.getD_eq_getElem?_getD]
      cases h0 : ns[0]? with
      | none=>decide
      | some x=>exact hn 0 x h0
  ·rw [resV_f hq]; decide
theorem widthWithin_neg (p : Pl) (ws : List Int) : Does Tryz.prog 63 [] [pD p,intsD ws,I (-1)] (I 0) []:=by
 exact Bg c_Z107 mixed (go0 trivial)
theorem widthWithin_no (p : Pl) (ws : List Int) (d : Nat) (hf : ¬ fieldsI p) : Does Tryz.prog 63 [] [pD p,intsD ws,I d] (I 0) []:=by
 have ho:=hasOwnFields_ok p
 rw [decide_eq_false hf] at ho
 refine Bg c_Z107 mixed (go1 trivial ?_)
 exact Uc trivial (ho) (go0 trivial)
theorem planWidth_no (p : Pl) (ws : List Int) (d : Int) (hf : ¬ fields p) : Does Tryz.prog 72 [] [pD p,intsD ws,I d] (I 0) []:=by
 have ho:=onlyFields_ok p
 rw [decide_eq_false hf] at ho
 refine Bg c_Z148 mixed (go1 trivial ?_)
 exact Uc trivial (ho) (go0 trivial)
theorem planWidth_0 (p : Pl) (ws : List Int) (hf : fields p) (hk : 0 < p.ks.length) : Does Tryz.prog 72 [] [pD p,intsD ws,I 0] (I 0) []:=by
 have ho:=onlyFields_ok p
 rw [decide_eq_true hf] at ho
 refine Bg c_Z148 mixed (go1 trivial ?_)
 exact Uc trivial (ho) (go0 trivial)
def scanV (ws : List Int) (t : Int) : Int:=if 0 ≤ t ∧ t ≤ ws.length - 1 then ws.getD t.toNat 0 else 0
theorem scan_range {ws : List Int} (hw : wsOk ws) (t : Int) : 0 ≤ scanV ws t ∧ scanV ws t ≤ 6:=by
 unfold scanV
 split
 ·rw [List.getD_eq_getElem?_getD]
  cases h0 : ws[t.toNat]? with
  | none=>decide
  | some x=>have:=hw.2 _ x h0; exact ⟨by show (0 : Int) ≤ x; omega,by show x ≤ 6; omega⟩
 ·decide
theorem planWidth_scan (p : Pl) (ws : List Int) (hw : wsOk ws) (d : Int) (hf : fields p) (hk : p.k = 1) : Does Tryz.prog 72 [] [pD p,intsD ws,I d] (I (scanV ws p.t)) []:=by
 have ho:=onlyFields_ok p
 rw [decide_eq_true hf] at ho
 have hwl:=hw.1
 have hks : p.ks.length = 0:=by unfold fields at hf; omega
 have hr:=inRange_ok p.t 0 (ws.length - 1)
 refine Bg c_Z148 mixed (go1 trivial ?_)
 refine Uc trivial (ho) (go1 trivial ?_)
 refine dw_for (c:=1) (l:=fun i=>[(1,intsD ws),(3,.ref 1000000 0),(8,I i),(1000000,.obj [I p.k,I p.t,.sl 5 (p.es.map eD),intsD p.cs,.sl 5 (p.ks.map pD)])]) 0 (fun _=>True) 0 trivial (Wk.list [2000003] rfl rfl ?_) (fun i hi _=>?_) (Nat.zero_le _)
 ·repeat' (first|(conv in hold _=>simp (disch:=omega) only [go_sem])|exact trivial|exact Sub.refl _|omega)
  exact rfl
 ·obtain rfl : i = 0:=by omega
  by_cases ht : 0 ≤ p.t ∧ p.t ≤ ws.length - 1
  ·rw [decide_eq_true ht] at hr
   obtain ⟨n,h0,g0⟩:=get_ex (ns:=ws) (i:=p.t.toNat) (by omega)
   rw [show scanV ws p.t = n by unfold scanV; rw [if_pos ht,g0]]
   refine go1 @hks ?_
   exact Uc @h0 (hr) (go0 @h0)
  ·rw [decide_eq_false ht] at hr
   rw [show scanV ws p.t = 0 from if_neg ht]
   refine go1 @hks ?_
   exact Uc trivial (hr) (go0 trivial)
theorem widthWithin_scan (p : Pl) (ws : List Int) (hw : wsOk ws) (d : Nat) (hf : fields p) (hk : p.k = 1) : Does Tryz.prog 63 [] [pD p,intsD ws,I d] (I (scanV ws p.t)) []:=by
 have ho:=hasOwnFields_ok p
 rw [decide_eq_true (show fieldsI p from ⟨hf,by omega⟩)] at ho
 have hwl:=hw.1
 by_cases ht : 0 ≤ p.t ∧ p.t ≤ ws.length - 1
 ·obtain ⟨n,h0,g0⟩:=get_ex (ns:=ws) (i:=p.t.toNat) (by omega)
  rw [show scanV ws p.t = n by unfold scanV; rw [if_pos ht,g0]]
  refine Bg c_Z107 mixed (go1 @h0 ?_)
  exact Uc @h0 (ho) (go0 @h0)
 ·rw [show scanV ws p.t = 0 from if_neg ht]
  refine Bg c_Z107 mixed (go1 trivial ?_)
  exact Uc trivial (ho) (go0 trivial)
theorem width_ok {ws : List Int} (hw : wsOk ws) : ∀ (p : Pl),psz p ≤ 1048576 → ∀ d : Nat,d < 1000 → ∃ n : Int,(0 ≤ n ∧ n ≤ 6) ∧ Does Tryz.prog 72 [] [pD p,intsD ws,I d] (I n) [] ∧ Does Tryz.prog 63 [] [pD p,intsD ws,I d] (I n) []:=by
 refine Pl.indA (fun p ih hs d hd=>?_)
 rw [psz_eq] at hs
 have hce:=eszL_len p.es
 by_cases hf : fields p
 ·by_cases hk : p.k = 1
  ·exact ⟨_,scan_range hw p.t,planWidth_scan p ws hw d hf hk,widthWithin_scan p ws hw d hf hk⟩
  ·have hks : 1 ≤ p.ks.length:=by unfold fields at hf; omega
   by_cases hd0 : d = 0
   ·subst hd0
    refine ⟨0,by decide,planWidth_0 p ws hf (by omega),?_⟩
    by_cases hfi : fieldsI p
    ·have h:=widthWithin_main p ws 0 (by decide) hfi hk (by omega) (by omega) (List.replicate p.ks.length 0) (by rw [List.length_replicate]) (fun j x hj=>by have:=List.eq_of_mem_replicate (List.mem_of_getElem? hj); omega) (fun i x n hx hn=>by
      obtain rfl : n = 0:=List.eq_of_mem_replicate (List.mem_of_getElem? hn)
      exact widthWithin_neg x ws)
     rw [resV_z ⟨0,by rw [List.getElem?_replicate,if_pos (by omega)]⟩] at h
     exact h
    ·exact widthWithin_no p ws 0 hfi
   ·have hc1 : ((d - 1 : Nat) : Int) = (d : Int) - 1:=by omega
    obtain ⟨ns,hl,hp⟩:=list_of (P:=fun (x : Pl) (n : Int)=>(0 ≤ n ∧ n ≤ 6) ∧ Does Tryz.prog 72 [] [pD x,intsD ws,I ((d : Int) - 1)] (I n) [] ∧ Does Tryz.prog 63 [] [pD x,intsD ws,I ((d : Int) - 1)] (I n) []) p.ks (fun x hx=>by
     have:=ih x hx (by have:=pszL_mem hx; omega) (d - 1) (by omega)
     rw [hc1] at this
     exact this)
    have hn : ∀ (j : Nat) (x : Int),ns[j]? = some x → 0 ≤ x ∧ x ≤ 6:=fun j x hj=>by
     obtain ⟨y,hy⟩ : ∃ y,p.ks[j]? = some y:=⟨_,List.getElem?_eq_getElem (by have:=(List.getElem?_eq_some_iff.1 hj).1; omega)⟩
     exact (hp j y x hy hj).1
    refine ⟨resV p ns,resV_range p ns hn,planWidth_main p ws d hd (by omega) hf hk (by omega) (by omega) ns hl hn (fun i x n hx hn=>(hp i x n hx hn).2.1),?_⟩
    by_cases hfi : fieldsI p
    ·exact widthWithin_main p ws d hd hfi hk (by omega) (by omega) ns hl hn (fun i x n hx hn=>(hp i x n hx hn).2.2)
    ·rw [resV_f (fun h=>hfi h.1)]
     exact widthWithin_no p ws d hfi
 ·exact ⟨0,by decide,planWidth_no p ws d hf,widthWithin_no p ws d (fun h=>hf h.1)⟩
end Go.Proofs.YtefldihjbaodnaaGreat
