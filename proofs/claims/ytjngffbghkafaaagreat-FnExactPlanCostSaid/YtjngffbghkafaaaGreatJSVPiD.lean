/-
  Joins of the model. No condition.
-/
import Derived.Test.YtjngffbghkafaaaGreatKSDca
import Derived.Test.YtjngffbghkafaaaGreatJSDce
import Derived.Test.YtjngffbghkafaaaGreatJSVPeB
import Derived.Test.YtjngffbghkafaaaGreatJSVGo
import Derived.Test.YtjngffbghkafaaaGreatJSDcVWidD
import Derived.Test.YtjngffbghkafaaaGreatJSDcVWidA
import Derived.Test.YtjngffbghkafaaaGreatJSVPiC
import Derived.Test.YtjngffbghkafaaaGreatJSVClone
set_option maxHeartbeats 4000000
set_option maxRecDepth 100000
set_option linter.unusedVariables false
set_option linter.unusedSimpArgs false
namespace Go.Proofs.YtjngffbghkafaaaGreat
open Go.RowKit
def mtL (e : E) (r : List V) (rb : List (List V)) : List (List V):=(rb.map (fun b=>r ++ b)).filter (holdsB e)
def fnd (l : List (List V)) : Bool:=!l.isEmpty
def outL (o : Bool) (n : Nat) (e : E) (r : List V) (rb : List (List V)) : List (List V):=if (o && !fnd (mtL e r rb)) = true then [r ++ nulR n] else mtL e r rb
def joiL (o : Bool) (n : Nat) (e : E) (ra rb : List (List V)) : List (List V):=ra.flatMap (fun r=>outL o n e r rb)
theorem mtL_next {e : E} {r : List V} {rb : List (List V)} {k : Nat} {y : List V} (hy : rb[k]? = some y) : mtL e r (rb.take (k + 1)) = mtL e r (rb.take k) ++ (if holdsB e (r ++ y) = true then [r ++ y] else []):=by
 unfold mtL
 rw [List.map_take,List.map_take]
 exact fil_next (by rw [List.getElem?_map,hy]; rfl)
theorem mtL_len (e : E) (r : List V) (rb : List (List V)) : (mtL e r rb).length ≤ rb.length:=by
 unfold mtL
 exact Nat.le_trans (List.length_filter_le _ _) (by rw [List.length_map]; exact Nat.le_refl _)
theorem fnd_app (l : List (List V)) (x : List V) : fnd (l ++ [x]) = true:=by unfold fnd; cases l <;> rfl
theorem fnd_f {l : List (List V)} (h : fnd l = false) : l = []:=by cases l with | nil=>rfl | cons a l=>cases h
theorem outL_len (o : Bool) (n : Nat) (e : E) (r : List V) (rb : List (List V)) : (outL o n e r rb).length ≤ rb.length + 1:=by
 unfold outL
 have:=mtL_len e r rb
 split
 ·rw [List.length_singleton]; omega
 ·omega
theorem joiL_len (o : Bool) (n : Nat) (e : E) (rb : List (List V)) : ∀ ra : List (List V),(joiL o n e ra rb).length ≤ ra.length * (rb.length + 1)
 | []=>Nat.zero_le _
 | a :: ra=>by
  have h1:=outL_len o n e a rb
  have h2:=joiL_len o n e rb ra
  have h3 : joiL o n e (a :: ra) rb = outL o n e a rb ++ joiL o n e ra rb:=List.flatMap_cons
  rw [h3,List.length_append,List.length_cons,Nat.add_mul]
  omega
theorem joiL_next {o : Bool} {n : Nat} {e : E} {ra rb : List (List V)} {i : Nat} {x : List V} (hx : ra[i]? = some x) :
  joiL o n e (ra.take (i + 1)) rb = (if (o && !fnd (mtL e x rb)) = true then (joiL o n e (ra.take i) rb ++ mtL e x rb) ++ [x ++ nulR n] else joiL o n e (ra.take i) rb ++ mtL e x rb):=by
 have h1 : joiL o n e (ra.take (i + 1)) rb = joiL o n e (ra.take i) rb ++ outL o n e x rb:=by
  unfold joiL
  rw [take_next hx,List.flatMap_append,List.flatMap_cons,List.flatMap_nil,List.append_nil]
 rw [h1]
 unfold outL
 split
 ·rename_i h
  rw [Bool.and_eq_true,Bool.not_eq_true'] at h
  rw [fnd_f h.2,List.append_nil]
 ·rfl
theorem nulR_ok (n : Nat) : (nulR n).length = n ∧ ∀ v,v ∈ nulR n → v.ok:=⟨List.length_replicate,fun v hv=>by
 rw [List.eq_of_mem_replicate hv]
 exact okV (by decide) (by decide) (fun _=>rfl)⟩
theorem rsw_joi {wa wb : Nat} {ra rb : List (List V)} (ha : RsW wa ra) (hb : RsW wb rb) (o : Bool) (e : E) : RsW (wa + wb) (joiL o wb e ra rb):=fun r hr=>by
 obtain ⟨x,hx,hr⟩:=List.mem_flatMap.1 hr
 have hxr:=ha x hx
 have happ : ∀ y : List V,(y.length = wb ∧ ∀ v,v ∈ y → v.ok) → (x ++ y).length = wa + wb ∧ ∀ v,v ∈ x ++ y → v.ok:=fun y hy=>⟨by rw [List.length_append,hxr.1,hy.1],fun v hv=>(List.mem_append.1 hv).elim (hxr.2 v) (hy.2 v)⟩
 unfold outL at hr
 split at hr
 ·rw [List.mem_singleton.1 hr]
  exact happ _ (nulR_ok wb)
 ·obtain ⟨y,hy,rfl⟩:=List.mem_map.1 (List.mem_filter.1 hr).1
  exact happ y (hb y hy)
theorem joinTables_ok {wa wb : Nat} (hw : wa + wb < 1000) (ra rb : List (List V)) (hla : ra.length ≤ 1000) (hlb : rb.length ≤ 1000) (ha : RsW wa ra) (hb : RsW wb rb) (e : E) (d : Nat) (hev : eOk e ((wa : Int) + (wb : Int)) d) (o : Bool) :
  Does Tryz.prog 101 [] [taD ⟨wa,ra⟩,taD ⟨wb,rb⟩,eD e,Bo o] (taD (tabT ((wa : Int) + (wb : Int)) (joiL o wb e ra rb))) []:=by
 have hcap : ∀ i,i ≤ ra.length → (joiL o wb e (ra.take i) rb).length ≤ 1001000:=fun i hi=>by
  have h1:=joiL_len o wb e rb (ra.take i)
  have h2 : (ra.take i).length * (rb.length + 1) ≤ 1000 * 1001:=Nat.mul_le_mul (by rw [List.length_take]; omega) (by omega)
  omega
 have hcl:=hcap ra.length (Nat.le_refl _)
 rw [List.take_length] at hcl
 have h3:=tableOf_tab ((wa : Int) + (wb : Int)) (wa + wb) hw (joiL o wb e ra rb) (by omega) (rsw_joi ha hb o e)
 have hnul:=nulls_ok wb (by omega)
 have htk : ((joiL o wb e ra rb).map rowD).take (joiL o wb e ra rb).length = (joiL o wb e ra rb).map rowD:=take_all rowD _
 refine Bg c_Z90 mixed (go1 trivial ?_)
 refine dw_for (c:=5) (l:=fun i=>[(3,Bo o),(4,.ref 1000000 0),(5,.ref 1000001 0),(6,.ref 1000002 0),(8,.ref 1000003 0),(9,.own 1000004 1 (joiL o wb e (ra.take i) rb).length),(10,I i),(1000000,.obj [I wa,rowsD ra]),(1000001,.obj [I wb,rowsD rb]),(1000002,.obj [I e.k,I e.c,Bo e.v.b,I e.v.n,.sl 5 (e.ks.map eD)]),(1000003,.obj [I 0,.nul]),(1000004,.row 1 ((joiL o wb e (ra.take i) rb).map rowD))]) ra.length (fun _=>True) 0 trivial ((wk_row 9 2000090 1 (by decide) (by decide) rfl rfl).trans (Wk.list [2000004,2000005,2000006,2000008,2000090] rfl rfl ?_)) (fun i hi _=>?_) (Nat.zero_le _)
 ·repeat' (first|(conv in hold _=>simp (disch:=omega) only [go_sem])|exact trivial|exact Sub.refl _|omega)
  first | exact rfl | exact ⟨rfl,rfl⟩ | exact ⟨rfl,rfl,rfl⟩
 ·have hcp:=hcap i hi
  rcases at_or_end hi with ⟨x,hx,hlt⟩ | rfl
  ·have hxr:=ha x (List.mem_of_getElem? hx)
   have hnx:=joiL_next (o:=o) (n:=wb) (e:=e) (rb:=rb) hx
   generalize joiL o wb e (ra.take i) rb = L at hcp hnx
   have h0 : L ++ mtL e x (rb.take 0) = L:=List.append_nil L
   have hf0 : fnd (mtL e x (rb.take 0)) = false:=rfl
   refine go1 trivial ?_
   refine dw_for (c:=5) (l:=fun k=>[(3,Bo o),(4,.ref 1000000 0),(5,.ref 1000001 0),(6,.ref 1000002 0),(8,.ref 1000003 0),(9,.own 1000004 1 (L ++ mtL e x (rb.take k)).length),(10,I i),(11,Bo (fnd (mtL e x (rb.take k)))),(12,I k),(1000000,.obj [I wa,rowsD ra]),(1000001,.obj [I wb,rowsD rb]),(1000002,.obj [I e.k,I e.c,Bo e.v.b,I e.v.n,.sl 5 (e.ks.map eD)]),(1000003,.obj [I 0,.nul]),(1000004,.row 1 ((L ++ mtL e x (rb.take k)).map rowD))]) rb.length (fun _=>True) 0 trivial (Wk.list [1000000,1000001,1000002,1000003,1000004] rfl rfl ?_) (fun k hk _=>?_) (Nat.zero_le _)
   ·repeat' (first|(conv in hold _=>simp (disch:=omega) only [go_sem])|exact trivial|exact Sub.refl _|omega)
    rw [show mtL e x ([] : List (List V)) = [] from rfl,List.append_nil]
    first | exact ⟨rfl,rfl,rfl,rfl⟩ | exact ⟨rfl,rfl,rfl⟩
   ·have hml:=mtL_len e x (rb.take k)
    have hql : (L ++ mtL e x (rb.take k)).length ≤ 1002000:=by
     rw [List.length_append]
     have : (rb.take k).length ≤ 1000:=by rw [List.length_take]; omega
     omega
    rcases at_or_end hk with ⟨y,hy,hklt⟩ | rfl
    ·have hyr:=hb y (List.mem_of_getElem? hy)
     have hrow : ∀ v,v ∈ x ++ y → v.ok:=fun v hv=>(List.mem_append.1 hv).elim (hxr.2 v) (hyr.2 v)
     have hrl : (((x ++ y).length : Nat) : Int) = (wa : Int) + (wb : Int):=by rw [List.length_append,hxr.1,hyr.1]; omega
     have h1:=concat_ok x y (by omega) (by omega)
     have h2:=holds_ok hrow e d (by rw [hrl]; exact hev)
     have hnk:=mtL_next (e:=e) (r:=x) hy
     have htm : ((L ++ mtL e x (rb.take k)).map rowD).take (L ++ mtL e x (rb.take k)).length = (L ++ mtL e x (rb.take k)).map rowD:=take_all rowD _
     cases hq : holdsB e (x ++ y) with
     | true=>
      rw [hq] at h2 hnk
      have hn1 : L ++ mtL e x (rb.take (k + 1)) = (L ++ mtL e x (rb.take k)) ++ [x ++ y]:=by rw [hnk,List.append_assoc]; rfl
      have hn2 : fnd (mtL e x (rb.take (k + 1))) = true:=by rw [hnk]; exact fnd_app _ _
      generalize L ++ mtL e x (rb.take k) = Q at hql htm hn1
      refine go1 (cj2 @hx @hy) ?_
      refine Uc (cj2 @hx @hy) (h1) (go1 (cj2 @hx @hy) ?_)
      refine Uc (cj3 @hx @hy @htm) (h2) (go1 (cj3 @hx @hy @htm) ?_)
      refine ⟨hklt,trivial,Wk.list [1000000,1000001,1000002,1000003,2000046] rfl rfl ?_⟩
      repeat' (first|(conv in hold _=>simp (disch:=omega) only [go_sem,hn1,hn2,htm])|exact trivial|exact Sub.refl _|omega)
      rw [show List.map rowD (Q ++ [x ++ y]) = List.map rowD Q ++ [D.sl 2 (List.map vD (x ++ y))] from List.map_append,show (x ++ y).map vD = x.map vD ++ (y).map vD from List.map_append]
     | false=>
      rw [hq] at h2 hnk
      have hnk : mtL e x (rb.take (k + 1)) = mtL e x (rb.take k):=by rw [hnk]; exact List.append_nil _
      refine go1 (cj2 @hx @hy) ?_
      refine Uc (cj2 @hx @hy) (h1) (go1 (cj2 @hx @hy) ?_)
      refine Uc (cj2 @hx @hy) (h2) (go1 (cj2 @hx @hy) ?_)
      refine ⟨hklt,trivial,Wk.list [1000000,1000001,1000002,1000003,1000004] rfl rfl ?_⟩
      repeat' (first|(conv in hold _=>simp (disch:=omega) only [go_sem,hnk])|exact trivial|exact Sub.refl _|omega)
    ·rw [List.take_length] at hql ⊢
     have htm : ((L ++ mtL e x rb).map rowD).take (L ++ mtL e x rb).length = (L ++ mtL e x rb).map rowD:=take_all rowD _
     have hcc:=concat_ok x (nulR wb) (by omega) (by rw [(nulR_ok wb).1]; omega)
     generalize fnd (mtL e x rb) = f at hnx
     generalize L ++ mtL e x rb = Q at hql htm hnx
     cases o with
     | false=>
      have hnx : joiL false wb e (ra.take (i + 1)) rb = Q:=hnx
      refine go1 trivial ?_
      refine ⟨hlt,trivial,Wk.list [1000000,1000001,1000002,1000003,1000004] rfl rfl ?_⟩
      repeat' (first|(conv in hold _=>simp (disch:=omega) only [go_sem,hnx])|exact trivial|exact Sub.refl _|omega)
     | true=>
      cases f with
      | true=>
       have hnx : joiL true wb e (ra.take (i + 1)) rb = Q:=hnx
       refine go1 trivial ?_
       refine ⟨hlt,trivial,Wk.list [1000000,1000001,1000002,1000003,1000004] rfl rfl ?_⟩
       repeat' (first|(conv in hold _=>simp (disch:=omega) only [go_sem,hnx])|exact trivial|exact Sub.refl _|omega)
      | false=>
       have hnx : joiL true wb e (ra.take (i + 1)) rb = Q ++ [x ++ nulR wb]:=hnx
       refine go1 @hx ?_
       refine Uc @hx (hnul) (go1 @hx ?_)
       refine Uc (cj2 @hx @htm) (hcc) (go1 (cj2 @hx @htm) ?_)
       refine ⟨hlt,trivial,Wk.list [1000000,1000001,1000002,1000003,2000063] rfl rfl ?_⟩
       repeat' (first|(conv in hold _=>simp (disch:=omega) only [go_sem,hnx,htm])|exact trivial|exact Sub.refl _|omega)
       rw [show List.map rowD (Q ++ [x ++ nulR wb]) = List.map rowD Q ++ [D.sl 2 (List.map vD (x ++ nulR wb))] from List.map_append,show (x ++ nulR wb).map vD = x.map vD ++ (nulR wb).map vD from List.map_append]
  ·rw [List.take_length]
   refine go1C trivial ?_
   refine s_pre (pre_frz (t:=69) (g:=1000004) (by decide) (by decide) rfl ?_) ?_
   rotate_left
   refine go1 @htk ?_
   refine c_doesE (h3) ?_ ?_ ?_
   ·((try (conv=>rhs;simp (disch:=omega) only [go_sem])); try rfl)
   ·first|rfl|(conv=>lhs;simp only [go_sem])
   repeat' (first|with_reducible refine acc_none ?_ | (conv in hold _=>simp (disch:=omega) only [go_sem])|refine Stp.go ?_|(with_reducible first|refine it_pos rfl ?_|refine it_neg (by decide) ?_|refine st_nil rfl ?_|refine s_op ?_ ?_|exact trivial)|((with_reducible first|refine dw_reg0 ?_|refine dw_regB ?_);(conv=>arg 3;whnf))|(refine Spl.go (fun hq he=>?_) (fun hq he=>?_)<;>first|(exfalso;clear hq;omega)|((try first|(conv=>arg 8;simp only [hq])|(conv=>arg 4;simp only [hq]));clear hq))|((with_reducible first|refine c_split (fun hq=>?_) (fun hq=>?_)|refine q_split (fun hq=>?_) (fun hq=>?_))<;>(try first|(conv=>arg 8;simp only [hq])|(conv=>arg 4;simp only [hq])))|(with_reducible refine fin_0 ?_ (by first|rfl|(conv=>lhs;simp only [go_sem])) ?_)|exact Sub.refl _|omega)
   ·exact rows_pur _
end Go.Proofs.YtjngffbghkafaaaGreat
set_option maxHeartbeats 4000000
set_option maxRecDepth 100000
namespace Go.Proofs.YtjngffbghkafaaaGreat
open Go.RowKit
theorem list_of {α β : Type} {P : α → β → Prop} : ∀ l : List α,(∀ x,x ∈ l → ∃ y,P x y) → ∃ m : List β,m.length = l.length ∧ ∀ (i : Nat) (x : α) (y : β),l[i]? = some x → m[i]? = some y → P x y
 | [],_=>⟨[],rfl,fun i x y h=>by simp at h⟩
 | a :: l,h=>by
  obtain ⟨b,hb⟩:=h a (List.mem_cons_self ..)
  obtain ⟨m,hm,hp⟩:=list_of l (fun x hx=>h x (List.mem_cons_of_mem _ hx))
  refine ⟨b :: m,by rw [List.length_cons,List.length_cons,hm],fun i x y hx hy=>?_⟩
  rcases i with _ | i
  ·cases hx; cases hy; exact hb
  ·exact hp i x y (by simpa using hx) (by simpa using hy)
theorem resV_range (p : Pl) (ns : List Int) (hn : ∀ (j : Nat) (x : Int),ns[j]? = some x → 0 ≤ x ∧ x ≤ 6) : 0 ≤ resV p ns ∧ resV p ns ≤ 6:=by
 by_cases hz : zeroIn ns
 ·rw [resV_z hz]; decide
 ·by_cases hq : fieldsI p ∧ fitsV p ns
  ·rw [resV_t hz hq.1 hq.2]
   have hf:=hq.1
   have hv:=hq.2
   unfold fieldsI fields at hf
   unfold fromV
   by_cases h3 : p.k = 3
   ·rw [if_pos h3]; omega
   ·rw [if_neg h3]
    by_cases h4 : p.k = 4 ∨ p.k = 5
    ·rw [if_pos h4]
     unfold fitsV at hv
     rw [if_neg (by omega),if_neg (by omega)] at hv
     obtain ⟨x,hx⟩ : ∃ x,p.es[0]? = some x:=⟨_,List.getElem?_eq_getElem (by omega)⟩
     have:=(hv 0 x hx).1
     omega
    ·rw [if_neg h4]
     by_cases h8 : p.k = 8
     ·rw [if_pos h8]
      unfold fitsV at hv
      rw [if_neg (by omega),if_pos h8] at hv
      have:=hv.1
      omega
     ·rw [if_neg h8,List.getD_eq_getElem?_getD]
      cases h0 : ns[0]? with
      | none=>decide
      | some x=>exact hn 0 x h0
  ·rw [resV_f hq]; decide
theorem widthWithin_neg (p : Pl) (ws : List Int) : Does Tryz.prog 82 [] [pD p,intsD ws,I (-1)] (I 0) []:=by
 exact Bg c_Z77 mixed (go0 trivial)
theorem widthWithin_no (p : Pl) (ws : List Int) (d : Nat) (hf : ¬ fieldsI p) : Does Tryz.prog 82 [] [pD p,intsD ws,I d] (I 0) []:=by
 have ho:=hasOwnFields_ok p
 rw [decide_eq_false hf] at ho
 refine Bg c_Z77 mixed (go1 trivial ?_)
 exact Uc trivial (ho) (go0 trivial)
theorem planWidth_no (p : Pl) (ws : List Int) (d : Int) (hf : ¬ fields p) : Does Tryz.prog 77 [] [pD p,intsD ws,I d] (I 0) []:=by
 have ho:=onlyFields_ok p
 rw [decide_eq_false hf] at ho
 refine Bg c_Z106 mixed (go1 trivial ?_)
 exact Uc trivial (ho) (go0 trivial)
theorem planWidth_0 (p : Pl) (ws : List Int) (hf : fields p) (hk : 0 < p.ks.length) : Does Tryz.prog 77 [] [pD p,intsD ws,I 0] (I 0) []:=by
 have ho:=onlyFields_ok p
 rw [decide_eq_true hf] at ho
 refine Bg c_Z106 mixed (go1 trivial ?_)
 exact Uc trivial (ho) (go0 trivial)
def scanV (ws : List Int) (t : Int) : Int:=if 0 ≤ t ∧ t ≤ ws.length - 1 then ws.getD t.toNat 0 else 0
theorem scan_range {ws : List Int} (hw : wsOk ws) (t : Int) : 0 ≤ scanV ws t ∧ scanV ws t ≤ 6:=by
 unfold scanV
 split
 ·rw [List.getD_eq_getElem?_getD]
  cases h0 : ws[t.toNat]? with
  | none=>decide
  | some x=>have:=hw.2 _ x h0; exact ⟨by show (0 : Int) ≤ x; omega,by show x ≤ 6; omega⟩
 ·decide
theorem planWidth_scan (p : Pl) (ws : List Int) (hw : wsOk ws) (d : Int) (hf : fields p) (hk : p.k = 1) : Does Tryz.prog 77 [] [pD p,intsD ws,I d] (I (scanV ws p.t)) []:=by
 have ho:=onlyFields_ok p
 rw [decide_eq_true hf] at ho
 have hwl:=hw.1
 have hks : p.ks.length = 0:=by unfold fields at hf; omega
 have hr:=inRange_ok p.t 0 (ws.length - 1)
 refine Bg c_Z106 mixed (go1 trivial ?_)
 refine Uc trivial (ho) (go1 trivial ?_)
 refine dw_for (c:=1) (l:=fun i=>[(1,intsD ws),(3,.ref 1000000 0),(8,I i),(1000000,.obj [I p.k,I p.t,.sl 5 (p.es.map eD),intsD p.cs,.sl 5 (p.ks.map pD)])]) 0 (fun _=>True) 0 trivial (Wk.list [2000003] rfl rfl ?_) (fun i hi _=>?_) (Nat.zero_le _)
 ·repeat' (first|(conv in hold _=>simp (disch:=omega) only [go_sem])|exact trivial|exact Sub.refl _|omega)
  exact rfl
 ·obtain rfl : i = 0:=by omega
  by_cases ht : 0 ≤ p.t ∧ p.t ≤ ws.length - 1
  ·rw [decide_eq_true ht] at hr
   obtain ⟨n,h0,g0⟩:=get_ex (ns:=ws) (i:=p.t.toNat) (by omega)
   rw [show scanV ws p.t = n by unfold scanV; rw [if_pos ht,g0]]
   refine go1 @hks ?_
   exact Uc @h0 (hr) (go0 @h0)
  ·rw [decide_eq_false ht] at hr
   rw [show scanV ws p.t = 0 from if_neg ht]
   refine go1 @hks ?_
   exact Uc trivial (hr) (go0 trivial)
theorem widthWithin_scan (p : Pl) (ws : List Int) (hw : wsOk ws) (d : Nat) (hf : fields p) (hk : p.k = 1) : Does Tryz.prog 82 [] [pD p,intsD ws,I d] (I (scanV ws p.t)) []:=by
 have ho:=hasOwnFields_ok p
 rw [decide_eq_true (show fieldsI p from ⟨hf,by omega⟩)] at ho
 have hwl:=hw.1
 by_cases ht : 0 ≤ p.t ∧ p.t ≤ ws.length - 1
 ·obtain ⟨n,h0,g0⟩:=get_ex (ns:=ws) (i:=p.t.toNat) (by omega)
  rw [show scanV ws p.t = n by unfold scanV; rw [if_pos ht,g0]]
  refine Bg c_Z77 mixed (go1 @h0 ?_)
  exact Uc @h0 (ho) (go0 @h0)
 ·rw [show scanV ws p.t = 0 from if_neg ht]
  refine Bg c_Z77 mixed (go1 trivial ?_)
  exact Uc trivial (ho) (go0 trivial)
end Go.Proofs.YtjngffbghkafaaaGreat
set_option maxHeartbeats 4000000
set_option maxRecDepth 100000
set_option linter.unusedVariables false
set_option linter.unusedSimpArgs false
namespace Go.Proofs.YtjngffbghkafaaaGreat
open Go.RowKit
def at3 {α : Type} (x y z : α) : Nat → α
 | 0=>x
 | 1=>y
 | _=>z
theorem at3_0 {α : Type} (x y z : α) : at3 x y z 0 = x:=rfl
theorem at3_1 {α : Type} (x y z : α) : at3 x y z 1 = y:=rfl
theorem at3_2 {α : Type} (x y z : α) : at3 x y z 2 = z:=rfl
theorem cast0 : ((0 : Nat) : Int) = 0:=rfl
theorem growV_ok (n : Nat) (h0 : 0 < n) (hn : n ≤ 1000000) : Does Tryz.prog 220 [] [.nul,I n] (.own 1000000 2 0) [.row 2 (List.replicate n (.agg [Bo false,I 0]))]:=by
 have hp : D.renL [2000022] (List.replicate n (.agg [Bo false,I 0])) = List.replicate n (.agg [Bo false,I 0]):=by rw [D.renL_map,List.map_replicate]; rfl
 refine Bk c_Z9 mixed 0 (go1 (cj3 @cast0 @Int.sub_self @Int.sub_zero) ?_)
 refine fin_L [2000022] ?_ ?_ rfl ?_
 repeat' (first|(conv in hold _=>simp (disch:=omega) only [go_sem,cast0,Int.sub_self,Int.sub_zero,hp])|exact trivial|exact Sub.refl _|omega)
theorem concatV_own (a b : List V) (h0 : 0 < a.length + b.length) (hl : a.length + b.length ≤ 100000) : Does Tryz.prog 186 [] [.sl 1 [rowD a,rowD b]] (.own 1000000 2 (a.length + b.length)) [.row 2 ((a ++ b).map vD)]:=by
 have hg:=growV_ok (a.length + b.length) h0 (by omega)
 have e0 : (List.replicate (a.length + b.length) (D.agg [Bo false,I 0])).take 0 = []:=rfl
 have ea:=take_all vD a
 have hp : ∀ L,D.renL L (List.replicate (a.length + b.length) (.agg [Bo false,I 0])) = List.replicate (a.length + b.length) (.agg [Bo false,I 0]):=fun L=>by rw [D.renL_map,List.map_replicate]; rfl
 have ec : (((a.length + b.length : Nat) : Int)) = (a.length : Int) + (b.length : Int):=by omega
 refine Bk c_Z6 mixed 0 (go1 trivial ?_)
 refine dw_for (c:=0) (l:=fun i=>[(0,.sl 1 [rowD a,rowD b]),(3,I (at3 0 (a.length : Int) (a.length + b.length : Nat) i)),(9,.sl 1 [rowD a,rowD b]),(10,I 2),(11,I (at3 0 1 2 i))]) 2 (fun _=>True) 0 trivial (Wk.list [] rfl rfl ?_) (fun i hi _=>?_) (by decide)
 ·repeat' (first|(conv in hold _=>simp (disch:=omega) only [go_sem,at3_0,Int.reduceAdd])|exact trivial|exact Sub.refl _|omega)
  first | exact rfl | exact ⟨rfl,rfl⟩
 ·have h3 : i = 0 ∨ i = 1 ∨ i = 2:=by omega
  rcases h3 with rfl | rfl | rfl
  ·refine go1 (cj2 @at3_0 @Int.zero_add) ?_
   refine ⟨by decide,trivial,Wk.list [] rfl rfl ?_⟩
   repeat' (first|(conv in hold _=>simp (disch:=omega) only [go_sem,at3_1,Nat.reduceAdd,Int.reduceAdd])|exact trivial|exact Sub.refl _|omega)
  ·refine go1 @at3_1 ?_
   refine ⟨by decide,trivial,Wk.list [] rfl rfl ?_⟩
   repeat' (first|(conv in hold _=>simp (disch:=omega) only [go_sem,at3_2,Nat.reduceAdd,Int.reduceAdd,ec])|exact trivial|exact Sub.refl _|omega)
  ·refine go1 @at3_2 ?_
   refine UcR [3000001] trivial (hg) (go1 trivial ?_)
   refine dw_for (c:=1) (l:=fun i=>[(6,.own 1000000 2 (at3 0 a.length (a.length + b.length) i)),(25,.sl 1 [rowD a,rowD b]),(26,I 2),(27,I (at3 0 1 2 i)),(1000000,.row 2 (at3 (List.replicate (a.length + b.length) (.agg [Bo false,I 0])) (a.map vD) ((a ++ b).map vD) i))]) 2 (fun _=>True) 0 trivial (Wk.list [3000001] rfl rfl ?_) (fun i hi _=>?_) (by decide)
   ·repeat' (first|(conv in hold _=>simp (disch:=omega) only [go_sem,at3_0,Int.reduceAdd,hp])|exact trivial|exact Sub.refl _|omega)
    first | exact rfl | exact ⟨rfl,rfl⟩
   ·have h3 : i = 0 ∨ i = 1 ∨ i = 2:=by omega
    rcases h3 with rfl | rfl | rfl
    ·refine go1 (cj2 @at3_0 @e0) ?_
     refine ⟨by decide,trivial,Wk.list [2000033] rfl rfl ?_⟩
     repeat' (first|(conv in hold _=>simp (disch:=omega) only [go_sem,at3_1,Nat.reduceAdd,Int.reduceAdd,e0])|exact trivial|exact Sub.refl _|omega)
    ·refine go1 (cj2 @at3_1 @ea) ?_
     refine ⟨by decide,trivial,Wk.list [2000033] rfl rfl ?_⟩
     repeat' (first|(conv in hold _=>simp (disch:=omega) only [go_sem,at3_2,Nat.reduceAdd,Int.reduceAdd,ea])|exact trivial|exact Sub.refl _|omega)
     rw [List.map_append]
    ·refine go1 @at3_2 ?_
     refine fin_L [1000000] ?_ ?_ rfl ?_
     repeat' (first|(conv in hold _=>simp (disch:=omega) only [go_sem,at3_2])|exact trivial|exact Sub.refl _|omega)
end Go.Proofs.YtjngffbghkafaaaGreat
