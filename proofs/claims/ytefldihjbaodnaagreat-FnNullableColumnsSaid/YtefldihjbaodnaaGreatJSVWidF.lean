/-
  Joins of the model. No condition.
-/
import Derived.Test.YtefldihjbaodnaaGreatKSDca
import Derived.Test.YtefldihjbaodnaaGreatKSDce
import Derived.Test.YtefldihjbaodnaaGreatJSVPlan
import Derived.Test.YtefldihjbaodnaaGreatJSVGo
import Derived.Test.YtefldihjbaodnaaGreatJSDcVWid
set_option maxHeartbeats 4000000
set_option maxRecDepth 100000
set_option linter.unusedVariables false
set_option linter.unusedSimpArgs false
namespace Go.Proofs.YtefldihjbaodnaaGreat
open Go.RowKit
def mtL (e : E) (r : List V) (rb : List (List V)) : List (List V):=(rb.map (fun b=>r ++ b)).filter (holdsB e)
def fnd (l : List (List V)) : Bool:=!l.isEmpty
def outL (o : Bool) (n : Nat) (e : E) (r : List V) (rb : List (List V)) : List (List V):=if (o && !fnd (mtL e r rb)) = true then [r ++ nulR n] else mtL e r rb
def joiL (o : Bool) (n : Nat) (e : E) (ra rb : List (List V)) : List (List V):=ra.flatMap (fun r=>outL o n e r rb)
theorem mtL_next {e : E} {r : List V} {rb : List (List V)} {k : Nat} {y : List V} (hy : rb[k]? = some y) : mtL e r (rb.take (k + 1)) = mtL e r (rb.take k) ++ (if holdsB e (r ++ y) = true then [r ++ y] else []):=by
 unfold mtL
 rw [List.map_take,List.map_take]
 exact fil_next (by rw [List.getElem?_map,hy]; rfl)
theorem mtL_len (e : E) (r : List V) (rb : List (List V)) : (mtL e r rb).length ≤ rb.length:=by
 unfold mtL
 exact Nat.le_trans (List.length_filter_le _ _) (by rw [List.length_map]; exact Nat.le_refl _)
theorem fnd_app (l : List (List V)) (x : List V) : fnd (l ++ [x]) = true:=by unfold fnd; cases l <;> rfl
theorem fnd_f {l : List (List V)} (h : fnd l = false) : l = []:=by cases l with | nil=>rfl | cons a l=>cases h
theorem outL_len (o : Bool) (n : Nat) (e : E) (r : List V) (rb : List (List V)) : (outL o n e r rb).length ≤ rb.length + 1:=by
 unfold outL
 have:=mtL_len e r rb
 split
 ·rw [List.length_singleton]; omega
 ·omega
theorem joiL_len (o : Bool) (n : Nat) (e : E) (rb : List (List V)) : ∀ ra : List (List V),(joiL o n e ra rb).length ≤ ra.length * (rb.length + 1)
 | []=>Nat.zero_le _
 | a :: ra=>by
  have h1:=outL_len o n e a rb
  have h2:=joiL_len o n e rb ra
  have h3 : joiL o n e (a :: ra) rb = outL o n e a rb ++ joiL o n e ra rb:=List.flatMap_cons
  rw [h3,List.length_append,List.length_cons,Nat.add_mul]
  omega
theorem joiL_next {o : Bool} {n : Nat} {e : E} {ra rb : List (List V)} {i : Nat} {x : List V} (hx : ra[i]? = some x) :
  joiL o n e (ra.take (i + 1)) rb = (if (o && !fnd (mtL e x rb)) = true then (joiL o n e (ra.take i) rb ++ mtL e x rb) ++ [x ++ nulR n] else joiL o n e (ra.take i) rb ++ mtL e x rb):=by
 have h1 : joiL o n e (ra.take (i + 1)) rb = joiL o n e (ra.take i) rb ++ outL o n e x rb:=by
  unfold joiL
  rw [take_next hx,List.flatMap_append,List.flatMap_cons,List.flatMap_nil,List.append_nil]
 rw [h1]
 unfold outL
 split
 ·rename_i h
  rw [Bool.and_eq_true,Bool.not_eq_true'] at h
  rw [fnd_f h.2,List.append_nil]
 ·rfl
theorem nulR_ok (n : Nat) : (nulR n).length = n ∧ ∀ v,v ∈ nulR n → v.ok:=⟨List.length_replicate,fun v hv=>by
 rw [List.eq_of_mem_replicate hv]
 exact okV (by decide) (by decide) (fun _=>rfl)⟩
theorem rsw_joi {wa wb : Nat} {ra rb : List (List V)} (ha : RsW wa ra) (hb : RsW wb rb) (o : Bool) (e : E) : RsW (wa + wb) (joiL o wb e ra rb):=fun r hr=>by
 obtain ⟨x,hx,hr⟩:=List.mem_flatMap.1 hr
 have hxr:=ha x hx
 have happ : ∀ y : List V,(y.length = wb ∧ ∀ v,v ∈ y → v.ok) → (x ++ y).length = wa + wb ∧ ∀ v,v ∈ x ++ y → v.ok:=fun y hy=>⟨by rw [List.length_append,hxr.1,hy.1],fun v hv=>(List.mem_append.1 hv).elim (hxr.2 v) (hy.2 v)⟩
 unfold outL at hr
 split at hr
 ·rw [List.mem_singleton.1 hr]
  exact happ _ (nulR_ok wb)
 ·obtain ⟨y,hy,rfl⟩:=List.mem_map.1 (List.mem_filter.1 hr).1
  exact happ y (hb y hy)
theorem joinTables_ok {wa wb : Nat} (hw : wa + wb < 1000) (ra rb : List (List V)) (hla : ra.length ≤ 1000) (hlb : rb.length ≤ 1000) (ha : RsW wa ra) (hb : RsW wb rb) (e : E) (d : Nat) (hev : eOk e ((wa : Int) + (wb : Int)) d) (o : Bool) :
  Does Tryz.prog 77 [] [taD ⟨wa,ra⟩,taD ⟨wb,rb⟩,eD e,Bo o] (taD (tabT ((wa : Int) + (wb : Int)) (joiL o wb e ra rb))) []:=by
 have hcap : ∀ i,i ≤ ra.length → (joiL o wb e (ra.take i) rb).length ≤ 1001000:=fun i hi=>by
  have h1:=joiL_len o wb e rb (ra.take i)
  have h2 : (ra.take i).length * (rb.length + 1) ≤ 1000 * 1001:=Nat.mul_le_mul (by rw [List.length_take]; omega) (by omega)
  omega
 have hcl:=hcap ra.length (Nat.le_refl _)
 rw [List.take_length] at hcl
 have h3:=tableOf_tab ((wa : Int) + (wb : Int)) (wa + wb) hw (joiL o wb e ra rb) (by omega) (rsw_joi ha hb o e)
 have hnul:=nulls_ok wb (by omega)
 have htk : ((joiL o wb e ra rb).map rowD).take (joiL o wb e ra rb).length = (joiL o wb e ra rb).map rowD:=take_all rowD _
 refine Bg c_Z126 mixed (go1 trivial ?_)
 refine dw_for (c:=5) (l:=fun i=>[(3,Bo o),(4,.ref 1000000 0),(5,.ref 1000001 0),(6,.ref 1000002 0),(8,.ref 1000003 0),(9,.own 1000004 1 (joiL o wb e (ra.take i) rb).length),(10,I i),(1000000,.obj [I wa,rowsD ra]),(1000001,.obj [I wb,rowsD rb]),(1000002,.obj [I e.k,I e.c,Bo e.v.b,I e.v.n,.sl 5 (e.ks.map eD)]),(1000003,.obj [I 0,.nul]),(1000004,.row 1 ((joiL o wb e (ra.take i) rb).map rowD))]) ra.length (fun _=>True) 0 trivial ((wk_row 9 2000090 1 (by decide) (by decide) rfl rfl).trans (Wk.list [2000004,2000005,2000006,2000008,2000090] rfl rfl ?_)) (fun i hi _=>?_) (Nat.zero_le _)
 ·repeat' (first|(conv in hold _=>simp (disch:=omega) only [go_sem])|exact trivial|exact Sub.refl _|omega)
  first | exact rfl | exact ⟨rfl,rfl⟩ | exact ⟨rfl,rfl,rfl⟩
 ·have hcp:=hcap i hi
  rcases at_or_end hi with ⟨x,hx,hlt⟩ | rfl
  ·have hxr:=ha x (List.mem_of_getElem? hx)
   have hnx:=joiL_next (o:=o) (n:=wb) (e:=e) (rb:=rb) hx
   generalize joiL o wb e (ra.take i) rb = L at hcp hnx
   have h0 : L ++ mtL e x (rb.take 0) = L:=List.append_nil L
   have hf0 : fnd (mtL e x (rb.take 0)) = false:=rfl
   refine go1 trivial ?_
   refine dw_for (c:=5) (l:=fun k=>[(3,Bo o),(4,.ref 1000000 0),(5,.ref 1000001 0),(6,.ref 1000002 0),(8,.ref 1000003 0),(9,.own 1000004 1 (L ++ mtL e x (rb.take k)).length),(10,I i),(11,Bo (fnd (mtL e x (rb.take k)))),(12,I k),(1000000,.obj [I wa,rowsD ra]),(1000001,.obj [I wb,rowsD rb]),(1000002,.obj [I e.k,I e.c,Bo e.v.b,I e.v.n,.sl 5 (e.ks.map eD)]),(1000003,.obj [I 0,.nul]),(1000004,.row 1 ((L ++ mtL e x (rb.take k)).map rowD))]) rb.length (fun _=>True) 0 trivial (Wk.list [1000000,1000001,1000002,1000003,1000004] rfl rfl ?_) (fun k hk _=>?_) (Nat.zero_le _)
   ·repeat' (first|(conv in hold _=>simp (disch:=omega) only [go_sem])|exact trivial|exact Sub.refl _|omega)
    rw [show mtL e x ([] : List (List V)) = [] from rfl,List.append_nil]
    first | exact ⟨rfl,rfl,rfl,rfl⟩ | exact ⟨rfl,rfl,rfl⟩
   ·have hml:=mtL_len e x (rb.take k)
    have hql : (L ++ mtL e x (rb.take k)).length ≤ 1002000:=by
     rw [List.length_append]
     have : (rb.take k).length ≤ 1000:=by rw [List.length_take]; omega
     omega
    rcases at_or_end hk with ⟨y,hy,hklt⟩ | rfl
    ·have hyr:=hb y (List.mem_of_getElem? hy)
     have hrow : ∀ v,v ∈ x ++ y → v.ok:=fun v hv=>(List.mem_append.1 hv).elim (hxr.2 v) (hyr.2 v)
     have hrl : (((x ++ y).length : Nat) : Int) = (wa : Int) + (wb : Int):=by rw [List.length_append,hxr.1,hyr.1]; omega
     have h1:=concat_ok x y (by omega) (by omega)
     have h2:=holds_ok hrow e d (by rw [hrl]; exact hev)
     have hnk:=mtL_next (e:=e) (r:=x) hy
     have htm : ((L ++ mtL e x (rb.take k)).map rowD).take (L ++ mtL e x (rb.take k)).length = (L ++ mtL e x (rb.take k)).map rowD:=take_all rowD _
     cases hq : holdsB e (x ++ y) with
     | true=>
      rw [hq] at h2 hnk
      have hn1 : L ++ mtL e x (rb.take (k + 1)) = (L ++ mtL e x (rb.take k)) ++ [x ++ y]:=by rw [hnk,List.append_assoc]; rfl
      have hn2 : fnd (mtL e x (rb.take (k + 1))) = true:=by rw [hnk]; exact fnd_app _ _
      generalize L ++ mtL e x (rb.take k) = Q at hql htm hn1
      refine go1 (cj2 @hx @hy) ?_
      refine Uc (cj2 @hx @hy) (h1) (go1 (cj2 @hx @hy) ?_)
      refine Uc (cj3 @hx @hy @htm) (h2) (go1 (cj3 @hx @hy @htm) ?_)
      refine ⟨hklt,trivial,Wk.list [1000000,1000001,1000002,1000003,2000046] rfl rfl ?_⟩
      repeat' (first|(conv in hold _=>simp (disch:=omega) only [go_sem,hn1,hn2,htm])|exact trivial|exact Sub.refl _|omega)
      rw [show List.map rowD (Q ++ [x ++ y]) = List.map rowD Q ++ [D.sl 2 (List.map vD (x ++ y))] from List.map_append,show (x ++ y).map vD = x.map vD ++ (y).map vD from List.map_append]
     | false=>
      rw [hq] at h2 hnk
      have hnk : mtL e x (rb.take (k + 1)) = mtL e x (rb.take k):=by rw [hnk]; exact List.append_nil _
      refine go1 (cj2 @hx @hy) ?_
      refine Uc (cj2 @hx @hy) (h1) (go1 (cj2 @hx @hy) ?_)
      refine Uc (cj2 @hx @hy) (h2) (go1 (cj2 @hx @hy) ?_)
      refine ⟨hklt,trivial,Wk.list [1000000,1000001,1000002,1000003,1000004] rfl rfl ?_⟩
      repeat' (first|(conv in hold _=>simp (disch:=omega) only [go_sem,hnk])|exact trivial|exact Sub.refl _|omega)
    ·rw [List.take_length] at hql ⊢
     have htm : ((L ++ mtL e x rb).map rowD).take (L ++ mtL e x rb).length = (L ++ mtL e x rb).map rowD:=take_all rowD _
     have hcc:=concat_ok x (nulR wb) (by omega) (by rw [(nulR_ok wb).1]; omega)
     generalize fnd (mtL e x rb) = f at hnx
     generalize L ++ mtL e x rb = Q at hql htm hnx
     cases o with
     | false=>
      have hnx : joiL false wb e (ra.take (i + 1)) rb = Q:=hnx
      refine go1 trivial ?_
      refine ⟨hlt,trivial,Wk.list [1000000,1000001,1000002,1000003,1000004] rfl rfl ?_⟩
      repeat' (first|(conv in hold _=>simp (disch:=omega) only [go_sem,hnx])|exact trivial|exact Sub.refl _|omega)
     | true=>
      cases f with
      | true=>
       have hnx : joiL true wb e (ra.take (i + 1)) rb = Q:=hnx
       refine go1 trivial ?_
       refine ⟨hlt,trivial,Wk.list [1000000,1000001,1000002,1000003,1000004] rfl rfl ?_⟩
       repeat' (first|(conv in hold _=>simp (disch:=omega) only [go_sem,hnx])|exact trivial|exact Sub.refl _|omega)
      | false=>
       have hnx : joiL true wb e (ra.take (i + 1)) rb = Q ++ [x ++ nulR wb]:=hnx
       refine go1 @hx ?_
       refine Uc @hx (hnul) (go1 @hx ?_)
       refine Uc (cj2 @hx @htm) (hcc) (go1 (cj2 @hx @htm) ?_)
       refine ⟨hlt,trivial,Wk.list [1000000,1000001,1000002,1000003,2000063] rfl rfl ?_⟩
       repeat' (first|(conv in hold _=>simp (disch:=omega) only [go_sem,hnx,htm])|exact trivial|exact Sub.refl _|omega)
       rw [show List.map rowD (Q ++ [x ++ nulR wb]) = List.map rowD Q ++ [D.sl 2 (List.map vD (x ++ nulR wb))] from List.map_append,show (x ++ nulR wb).map vD = x.map vD ++ (nulR wb).map vD from List.map_append]
  ·rw [List.take_length]
   refine go1C trivial ?_
   refine s_pre (pre_frz (t:=69) (g:=1000004) (by decide) (by decide) rfl ?_) ?_
   rotate_left
   refine go1 @htk ?_
   refine c_doesE (h3) ?_ ?_ ?_
   ·((try (conv=>rhs;simp (disch:=omega) only [go_sem])); try rfl)
   ·first|rfl|(conv=>lhs;simp only [go_sem])
   repeat' (first|with_reducible refine acc_none ?_ | (conv in hold _=>simp (disch:=omega) only [go_sem])|refine Stp.go ?_|(with_reducible first|refine it_pos rfl ?_|refine it_neg (by decide) ?_|refine st_nil rfl ?_|refine s_op ?_ ?_|exact trivial)|((with_reducible first|refine dw_reg0 ?_|refine dw_regB ?_);(conv=>arg 3;whnf))|(refine Spl.go (fun hq he=>?_) (fun hq he=>?_)<;>first|(exfalso;clear hq;omega)|((try first|(conv=>arg 8;simp only [hq])|(conv=>arg 4;simp only [hq]));clear hq))|((with_reducible first|refine c_split (fun hq=>?_) (fun hq=>?_)|refine q_split (fun hq=>?_) (fun hq=>?_))<;>(try first|(conv=>arg 8;simp only [hq])|(conv=>arg 4;simp only [hq])))|(with_reducible refine fin_0 ?_ (by first|rfl|(conv=>lhs;simp only [go_sem])) ?_)|exact Sub.refl _|omega)
   ·exact rows_pur _
end Go.Proofs.YtefldihjbaodnaaGreat
set_option maxHeartbeats 4000000
set_option maxRecDepth 100000
set_option linter.unusedVariables false
set_option linter.unusedSimpArgs false
namespace Go.Proofs.YtefldihjbaodnaaGreat
open Go.RowKit
mutual
noncomputable def wdV (ws : List Int) : Pl → Nat → Int
 | .mk k t es cs ks,d=>if fields (.mk k t es cs ks) then (if k = 1 then scanV ws t else if d = 0 then 0 else resV (.mk k t es cs ks) (wdL ws ks (d - 1))) else 0
noncomputable def wdL (ws : List Int) : List Pl → Nat → List Int
 | [],_=>[]
 | x :: l,d=>wdV ws x d :: wdL ws l d
end
theorem wdL_map (ws : List Int) (d : Nat) : ∀ l : List Pl,wdL ws l d = l.map (fun x=>wdV ws x d)
 | []=>by rw [wdL]; rfl
 | x :: l=>by rw [wdL,wdL_map ws d l]; rfl
theorem wd_eq (ws : List Int) (p : Pl) (d : Nat) : wdV ws p d = if fields p then (if p.k = 1 then scanV ws p.t else if d = 0 then 0 else resV p (p.ks.map (fun x=>wdV ws x (d - 1)))) else 0:=by
 cases p with
 | mk k t es cs ks=>rw [wdV,wdL_map]; rfl
theorem wd_at {ws : List Int} {l : List Pl} {d i : Nat} {x : Pl} {n : Int} (hx : l[i]? = some x) (hn : (l.map (fun x=>wdV ws x d))[i]? = some n) : n = wdV ws x d:=by
 rw [List.getElem?_map,hx] at hn
 simpa using hn.symm
theorem width_fn {ws : List Int} (hw : wsOk ws) : ∀ (p : Pl),psz p ≤ 1048576 → ∀ d : Nat,d < 1000 → (0 ≤ wdV ws p d ∧ wdV ws p d ≤ 6) ∧ Does Tryz.prog 72 [] [pD p,intsD ws,I d] (I (wdV ws p d)) [] ∧ Does Tryz.prog 63 [] [pD p,intsD ws,I d] (I (wdV ws p d)) []:=by
 refine Pl.indA (fun p ih hs d hd=>?_)
 rw [psz_eq] at hs
 have hce:=eszL_len p.es
 rw [wd_eq]
 by_cases hf : fields p
 ·rw [if_pos hf]
  by_cases hk : p.k = 1
  ·rw [if_pos hk]
   exact ⟨scan_range hw p.t,planWidth_scan p ws hw d hf hk,widthWithin_scan p ws hw d hf hk⟩
  ·rw [if_neg hk]
   have hks : 1 ≤ p.ks.length:=by unfold fields at hf; omega
   by_cases hd0 : d = 0
   ·subst hd0
    rw [if_pos rfl]
    refine ⟨by decide,planWidth_0 p ws hf (by omega),?_⟩
    by_cases hfi : fieldsI p
    ·have h:=widthWithin_main p ws 0 (by decide) hfi hk (by omega) (by omega) (List.replicate p.ks.length 0) (by rw [List.length_replicate]) (fun j x hj=>by have:=List.eq_of_mem_replicate (List.mem_of_getElem? hj); omega) (fun i x n hx hn=>by
      obtain rfl : n = 0:=List.eq_of_mem_replicate (List.mem_of_getElem? hn)
      exact widthWithin_neg x ws)
     rw [resV_z ⟨0,by rw [List.getElem?_replicate,if_pos (by omega)]⟩] at h
     exact h
    ·exact widthWithin_no p ws 0 hfi
   ·rw [if_neg hd0]
    have hc1 : ((d - 1 : Nat) : Int) = (d : Int) - 1:=by omega
    have hp : ∀ (x : Pl),x ∈ p.ks → (0 ≤ wdV ws x (d - 1) ∧ wdV ws x (d - 1) ≤ 6) ∧ Does Tryz.prog 72 [] [pD x,intsD ws,I ((d : Int) - 1)] (I (wdV ws x (d - 1))) [] ∧ Does Tryz.prog 63 [] [pD x,intsD ws,I ((d : Int) - 1)] (I (wdV ws x (d - 1))) []:=fun x hx=>by
     have:=ih x hx (by have:=pszL_mem hx; omega) (d - 1) (by omega)
     rw [hc1] at this
     exact this
    have hl : (p.ks.map (fun x=>wdV ws x (d - 1))).length = p.ks.length:=List.length_map ..
    have hn : ∀ (j : Nat) (x : Int),(p.ks.map (fun x=>wdV ws x (d - 1)))[j]? = some x → 0 ≤ x ∧ x ≤ 6:=fun j x hj=>by
     obtain ⟨y,hy,rfl⟩:=List.mem_map.1 (List.mem_of_getElem? hj)
     exact (hp y hy).1
    refine ⟨resV_range p _ hn,planWidth_main p ws d hd (by omega) hf hk (by omega) (by omega) _ hl hn (fun i x n hx hn=>?_),?_⟩
    ·obtain rfl:=wd_at hx hn
     exact (hp x (List.mem_of_getElem? hx)).2.1
    ·by_cases hfi : fieldsI p
     ·exact widthWithin_main p ws d hd hfi hk (by omega) (by omega) _ hl hn (fun i x n hx hn=>by
       obtain rfl:=wd_at hx hn
       exact (hp x (List.mem_of_getElem? hx)).2.2)
     ·rw [resV_f (fun h=>hfi h.1)]
      exact widthWithin_no p ws d hfi
 ·rw [if_neg hf]
  exact ⟨by decide,planWidth_no p ws d hf,widthWithin_no p ws d (fun h=>hf h.1)⟩
noncomputable def PV (ws : List Int) (p : Pl) : Int:=if wsOk ws then wdV ws p 8 else 0
theorem PV_t {ws : List Int} (h : wsOk ws) (p : Pl) : PV ws p = wdV ws p 8:=if_pos h
theorem PV_ok {ws : List Int} {p : Pl} (h : PV ws p ≠ 0) : wsOk ws:=Classical.byContradiction fun hn=>h (if_neg hn)
theorem PlanWidth_fn (p : Pl) (hs : psz p ≤ 1048576) (ws : List Int) (hl : ws.length ≤ 1048576) : (0 ≤ PV ws p ∧ PV ws p ≤ 6) ∧ Does Tryz.prog 33 [] [pD p,intsD ws] (I (PV ws p)) [] ∧ Does Tryz.prog 26 [] [pD p,intsD ws] (I (PV ws p)) []:=by
 have h1:=validWidths_spec ws hl
 have h2:=validWidths_impl ws hl
 by_cases hw : wsOk ws
 ·rw [decide_eq_true hw] at h1 h2
  rw [PV_t hw]
  obtain ⟨hn,hA,hB⟩:=width_fn hw p hs 8 (by decide)
  refine ⟨hn,?_,?_⟩
  ·refine Bg c_Z190 mixed (go1 trivial ?_)
   refine Uc trivial (h1) (go1 trivial ?_)
   exact Uc trivial (hA) (go0 trivial)
  ·refine Bg c_Z133 mixed (go1 trivial ?_)
   refine Uc trivial (h2) (go1 trivial ?_)
   exact Uc trivial (hB) (go0 trivial)
 ·rw [decide_eq_false hw] at h1 h2
  rw [show PV ws p = 0 from if_neg hw]
  refine ⟨by decide,?_,?_⟩
  ·refine Bg c_Z190 mixed (go1 trivial ?_)
   exact Uc trivial (h1) (go0 trivial)
  ·refine Bg c_Z133 mixed (go1 trivial ?_)
   exact Uc trivial (h2) (go0 trivial)
/-! What follows from a width. -/
theorem wd_fields {ws : List Int} {p : Pl} {d : Nat} (h : wdV ws p d ≠ 0) : fields p:=Classical.byContradiction fun hf=>h (by rw [wd_eq,if_neg hf])
theorem wd_scan {ws : List Int} {p : Pl} {d : Nat} (h : wdV ws p d ≠ 0) (hk : p.k = 1) : wdV ws p d = scanV ws p.t ∧ 0 ≤ p.t ∧ p.t ≤ (ws.length : Int) - 1:=by
 have hf:=wd_fields h
 rw [wd_eq,if_pos hf,if_pos hk] at h ⊢
 exact ⟨rfl,Decidable.byContradiction fun hn=>h (if_neg hn)⟩
theorem wd_res {ws : List Int} {p : Pl} {d : Nat} (h : wdV ws p d ≠ 0) (hk : ¬ p.k = 1) : d ≠ 0 ∧ wdV ws p d = resV p (p.ks.map (fun x=>wdV ws x (d - 1))):=by
 have hf:=wd_fields h
 rw [wd_eq,if_pos hf,if_neg hk] at h ⊢
 by_cases hd : d = 0
 ·rw [if_pos hd] at h
  exact absurd rfl h
 ·rw [if_neg hd]
  exact ⟨hd,rfl⟩
theorem wd_fit {ws : List Int} {p : Pl} {d : Nat} (h : wdV ws p d ≠ 0) (hk : ¬ p.k = 1) : (fieldsI p ∧ fitsV p (p.ks.map (fun x=>wdV ws x (d - 1)))) ∧ wdV ws p d = fromV p (p.ks.map (fun x=>wdV ws x (d - 1))) ∧ ∀ x,x ∈ p.ks → wdV ws x (d - 1) ≠ 0:=by
 obtain ⟨hd,hr⟩:=wd_res h hk
 rw [hr] at h
 have hz : ¬ zeroIn (p.ks.map (fun x=>wdV ws x (d - 1))):=fun hz=>h (resV_z hz)
 have hv : fieldsI p ∧ fitsV p (p.ks.map (fun x=>wdV ws x (d - 1))):=Classical.byContradiction fun hv=>h (resV_f hv)
 refine ⟨hv,by rw [hr,resV_t hz hv.1 hv.2],fun x hx h0=>hz ?_⟩
 obtain ⟨j,hj⟩:=List.mem_iff_getElem?.1 hx
 exact ⟨j,by rw [List.getElem?_map,hj,Option.map_some,h0]⟩
end Go.Proofs.YtefldihjbaodnaaGreat
