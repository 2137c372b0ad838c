/-
  The width of a plan out of those of its kids, in the model. No condition.
-/
import Derived.Test.YtjngffbghkafaaaGreatJSDcVWidD
import Derived.Test.YtjngffbghkafaaaGreatKSDca
import Derived.Test.YtjngffbghkafaaaGreatJSVDrawTc
import Derived.Test.YtjngffbghkafaaaGreatJSVGo
import Derived.Test.YtjngffbghkafaaaGreatKSDcf
import Derived.Test.YtjngffbghkafaaaGreatKSDcc
import Derived.Test.YtjngffbghkafaaaGreatJSVWidB
import Derived.Test.YtjngffbghkafaaaGreatJSVGi
import Derived.Test.YtjngffbghkafaaaGreatJSVClone
import Derived.Test.YtjngffbghkafaaaGreatKSDcd
import Derived.Test.YtjngffbghkafaaaGreatJSVPeB
set_option maxHeartbeats 4000000
set_option maxRecDepth 100000
namespace Go.Proofs.YtjngffbghkafaaaGreat
open Go.RowKit
theorem one_sum {ns : List Int} {n : Int} (h : ns.length = 1) (h0 : ns[0]? = some n) : ns.sum = n:=by
 match ns,h with
 | [m],_=>cases h0; simp
theorem two_sum {ns : List Int} {n m : Int} (h : ns.length = 2) (h0 : ns[0]? = some n) (h1 : ns[1]? = some m) : ns.sum = n + m:=by
 match ns,h with
 | [a,b],_=>cases h0; cases h1; simp
theorem one_all {α : Type} {l : List α} {x : α} {P : α → Prop} (h : l.length = 1) (h0 : l[0]? = some x) : (∀ (j : Nat) (y : α),l[j]? = some y → P y) ↔ P x:=by
 match l,h with
 | [m],_=>
  cases h0
  refine ⟨fun h=>h 0 _ rfl,fun h j y hj=>?_⟩
  rcases j with _ | j
  ·cases hj; exact h
  ·simp at hj
theorem planWidth_main (p : Pl) (ws : List Int) (d : Nat) (hd : d < 1000) (hd0 : 0 < d) (hf : fields p) (hk : ¬ p.k = 1) (hc : p.cs.length ≤ 1048576) (hec : p.es.length ≤ 1048576) (ns : List Int) (hl : ns.length = p.ks.length) (hn : ∀ (j : Nat) (x : Int),ns[j]? = some x → 0 ≤ x ∧ x ≤ 6)
  (hA : ∀ (i : Nat) (x : Pl) (n : Int),p.ks[i]? = some x → ns[i]? = some n → Does Tryz.prog 77 [] [pD x,intsD ws,I ((d : Int) - 1)] (I n) []) : Does Tryz.prog 77 [] [pD p,intsD ws,I d] (I (resV p ns)) []:=by
 have ho:=onlyFields_ok p
 rw [decide_eq_true hf] at ho
 have hf1:=hf
 unfold fields at hf1
 have hks : 1 ≤ p.ks.length ∧ p.ks.length ≤ 2:=by omega
 refine Bg c_Z106 mixed (go1 trivial ?_)
 refine Uc trivial (ho) (go1 trivial ?_)
 refine dw_for (c:=2) (l:=fun i=>[(1,intsD ws),(2,I d),(3,.ref 1000000 0),(7,.own 1000001 1 i),(8,I i),(1000000,.obj [I p.k,I p.t,.sl 5 (p.es.map eD),intsD p.cs,.sl 5 (p.ks.map pD)]),(1000001,.row 1 ((ns.take i).map I))]) p.ks.length (fun i=>∀ (j : Nat) (n : Int),j < i → ns[j]? = some n → ¬ n = 0) 0 (fun j n hj=>by omega) ((wk_row 7 2000045 1 (by decide) (by decide) rfl rfl).trans (Wk.list [2000003,2000045] rfl rfl ?_)) (fun i hi hJ=>?_) (Nat.zero_le _)
 ·repeat' (first|(conv in hold _=>simp (disch:=omega) only [go_sem])|exact trivial|exact Sub.refl _|omega)
  exact rfl
 ·have hlt:=take_len (vs:=ns) (i:=i) (by omega)
  have hmt:=take_map I (vs:=ns) (i:=i) (by omega)
  by_cases hil : i < p.ks.length
  ·obtain ⟨x,hx⟩ : ∃ x,p.ks[i]? = some x:=⟨_,List.getElem?_eq_getElem hil⟩
   obtain ⟨n,hnx,_⟩:=get_ex (ns:=ns) (i:=i) (by omega)
   have hix:=hA i x n hx hnx
   have htn:=take_next hnx
   by_cases hn0 : n = 0
   ·rw [resV_z ⟨i,by rw [hnx,hn0]⟩]
    refine go1 @hx ?_
    exact Uc trivial (hix) (go0 trivial)
   ·refine go1 @hx ?_
    refine Uc trivial (hix) (go1 trivial ?_)
    refine ⟨hil,upto1 (P:=fun _ n=>¬ n = 0) hnx hn0 hJ,Wk.list [1000000,2000045] rfl rfl ?_⟩
    repeat' (first|(conv in hold _=>simp (disch:=omega) only [go_sem])|exact trivial|exact Sub.refl _|omega)
    rw [hmt,htn,List.map_append,List.map_cons,List.map_nil]
  ·obtain rfl : i = p.ks.length:=by omega
   have hz : ¬ zeroIn ns:=fun ⟨j,hj⟩=>hJ j 0 (by rw [← hl]; exact (List.getElem?_eq_some_iff.1 hj).1) hj rfl
   have e1 : ns.take p.ks.length = ns:=List.take_of_length_le (by omega)
   obtain ⟨n0,h0,g0⟩:=get_ex (ns:=ns) (i:=0) (by omega)
   have r0:=hn 0 n0 h0
   have z0:=hJ 0 n0 (by omega) h0
   by_cases h2 : p.k = 2
   ·have hel : p.es.length = 1:=by omega
    obtain ⟨x,hx⟩ : ∃ x,p.es[0]? = some x:=⟨_,List.getElem?_eq_getElem (by omega)⟩
    have hs:=one_sum (by omega) h0
    have hfv : fitsV p ns ↔ eOk x n0 8:=by
     unfold fitsV
     rw [if_neg (by omega),if_neg (by omega),one_all (P:=fun e=>(1 ≤ ns.sum ∧ ns.sum ≤ 6) ∧ eOk e ns.sum 8) hel hx,hs]
     exact ⟨fun h=>h.2,fun h=>⟨by omega,h⟩⟩
    have hfi : fieldsI p:=⟨hf,by omega⟩
    have hv:=ValidExpr_ok x n0 (by omega)
    by_cases hxo : eOk x n0 8
    ·rw [resV_t hz hfi (hfv.2 hxo),show fromV p ns = n0 by unfold fromV; rw [if_neg (by omega),if_neg (by omega),if_neg (by omega),g0]]
     rw [decide_eq_true ⟨by omega,hxo⟩] at hv
     refine go1 (cj3 @e1 @h0 @hx) ?_
     exact Uc @h0 (hv) (go0 @h0)
    ·rw [resV_f (fun h=>hxo (hfv.1 h.2))]
     rw [decide_eq_false (fun h=>hxo h.2)] at hv
     refine go1 (cj3 @e1 @h0 @hx) ?_
     exact Uc trivial (hv) (go0 trivial)
   ·by_cases h3 : p.k = 3
    ·have hs:=one_sum (by omega) h0
     have hv:=projectWidth_ok p.es n0 (by omega) hec
     have hfv : fitsV p ns ↔ esOk p.es n0:=by
      unfold fitsV esOk
      rw [if_neg (by omega),if_neg (by omega),hs]
      exact ⟨fun h j e hj=>(h j e hj).2,fun h j e hj=>⟨by omega,h j e hj⟩⟩
     have hres : resV p ns = (if p.es.length ≤ 6 ∧ esOk p.es n0 then (p.es.length : Int) else 0):=by
      by_cases hq : p.es.length ≤ 6 ∧ esOk p.es n0
      ·rw [if_pos hq]
       by_cases hpos : 1 ≤ p.es.length
       ·rw [resV_t hz ⟨hf,fun _=>⟨hpos,hq.1⟩⟩ (hfv.2 hq.2)]
        unfold fromV
        rw [if_pos h3]
       ·rw [resV_f (fun h=>hpos (h.1.2 h3).1)]
        omega
      ·rw [if_neg hq,resV_f (fun h=>hq ⟨(h.1.2 h3).2,hfv.1 h.2⟩)]
     rw [hres]
     refine go1 (cj2 @e1 @h0) ?_
     exact Uc trivial (hv) (go0 trivial)
    ·have hfi : fieldsI p:=⟨hf,fun h=>(h3 h).elim⟩
     by_cases h45 : p.k = 4 ∨ p.k = 5
     ·have hel : p.es.length = 1:=by omega
      obtain ⟨x,hx⟩ : ∃ x,p.es[0]? = some x:=⟨_,List.getElem?_eq_getElem (by omega)⟩
      obtain ⟨n1,h1,g1⟩:=get_ex (ns:=ns) (i:=1) (by omega)
      have r1:=hn 1 n1 h1
      have z1:=hJ 1 n1 (by omega) h1
      have hs:=two_sum (by omega) h0 h1
      have hv:=ValidExpr_ok x (n0 + n1) (by omega)
      have hfv : fitsV p ns ↔ n0 + n1 ≤ 6 ∧ eOk x (n0 + n1) 8:=by
       unfold fitsV
       rw [if_neg (by omega),if_neg (by omega),one_all (P:=fun e=>(1 ≤ ns.sum ∧ ns.sum ≤ 6) ∧ eOk e ns.sum 8) hel hx,hs]
       exact ⟨fun h=>⟨by omega,h.2⟩,fun h=>⟨by omega,h.2⟩⟩
      by_cases hle : n0 + n1 ≤ 6
      ·by_cases hxo : eOk x (n0 + n1) 8
       ·rw [resV_t hz hfi (hfv.2 ⟨hle,hxo⟩),show fromV p ns = n0 + n1 by unfold fromV; rw [if_neg h3,if_pos h45,hs]]
        rw [decide_eq_true ⟨by omega,hxo⟩] at hv
        repeat' (first|with_reducible refine acc_none ?_ | (conv in hold _=>simp (disch:=omega) only [go_sem,e1,List.getElem?_map,h0,h1,hx,Option.map_some])|refine Stp.go ?_|(with_reducible first|refine it_pos rfl ?_|refine it_neg (by decide) ?_|refine st_nil rfl ?_|refine s_op ?_ ?_|exact trivial)|((with_reducible first|refine dw_reg0 ?_|refine dw_regB ?_);(conv=>arg 3;whnf))|(refine Spl.go (fun hq he=>?_) (fun hq he=>?_)<;>first|(exfalso;clear hq;omega)|((try first|(conv=>arg 8;simp only [hq])|(conv=>arg 4;simp only [hq]));clear hq))|((with_reducible first|refine c_split (fun hq=>?_) (fun hq=>?_)|refine q_split (fun hq=>?_) (fun hq=>?_))<;>(try first|(conv=>arg 8;simp only [hq])|(conv=>arg 4;simp only [hq])))|(with_reducible refine fin_0 ?_ (by first|rfl|(conv=>lhs;simp only [go_sem,e1,List.getElem?_map,h0,h1,hx,Option.map_some])) ?_)|exact Sub.refl _|omega)
        all_goals
         exact Uc (cj2 @h0 @h1) (hv) (go0 (cj2 @h0 @h1))
       ·rw [resV_f (fun h=>hxo (hfv.1 h.2).2)]
        rw [decide_eq_false (fun h=>hxo h.2)] at hv
        repeat' (first|with_reducible refine acc_none ?_ | (conv in hold _=>simp (disch:=omega) only [go_sem,e1,List.getElem?_map,h0,h1,hx,Option.map_some])|refine Stp.go ?_|(with_reducible first|refine it_pos rfl ?_|refine it_neg (by decide) ?_|refine st_nil rfl ?_|refine s_op ?_ ?_|exact trivial)|((with_reducible first|refine dw_reg0 ?_|refine dw_regB ?_);(conv=>arg 3;whnf))|(refine Spl.go (fun hq he=>?_) (fun hq he=>?_)<;>first|(exfalso;clear hq;omega)|((try first|(conv=>arg 8;simp only [hq])|(conv=>arg 4;simp only [hq]));clear hq))|((with_reducible first|refine c_split (fun hq=>?_) (fun hq=>?_)|refine q_split (fun hq=>?_) (fun hq=>?_))<;>(try first|(conv=>arg 8;simp only [hq])|(conv=>arg 4;simp only [hq])))|(with_reducible refine fin_0 ?_ (by first|rfl|(conv=>lhs;simp only [go_sem,e1,List.getElem?_map,h0,h1,hx,Option.map_some])) ?_)|exact Sub.refl _|omega)
        all_goals
         exact Uc trivial (hv) (go0 trivial)
      ·rw [resV_f (fun h=>hle (hfv.1 h.2).1)]
       exact go0 (cj4 @e1 @h0 @h1 @hx)
     ·by_cases h6 : p.k = 6
      ·obtain ⟨n1,h1,g1⟩:=get_ex (ns:=ns) (i:=1) (by omega)
       have hfv : fitsV p ns ↔ n0 = n1:=by unfold fitsV; rw [if_pos h6,g0,g1]
       by_cases hq : n0 = n1
       ·rw [resV_t hz hfi (hfv.2 hq),show fromV p ns = n0 by unfold fromV; rw [if_neg h3,if_neg h45,if_neg (by omega),g0]]
        exact go0 (cj3 @e1 @h0 @h1)
       ·rw [resV_f (fun h=>hq (hfv.1 h.2))]
        exact go0 (cj3 @e1 @h0 @h1)
      ·by_cases h8 : p.k = 8
       ·have hv:=validCols_ok p.cs n0 (by omega) hc
        have hfv : fitsV p ns ↔ p.cs.length < 6 ∧ colsOk p.cs n0:=by unfold fitsV; rw [if_neg h6,if_pos h8,g0]
        by_cases hco : colsOk p.cs n0
        ·rw [decide_eq_true hco] at hv
         by_cases hq : p.cs.length < 6
         ·rw [resV_t hz hfi (hfv.2 ⟨hq,hco⟩),show fromV p ns = p.cs.length + 1 by unfold fromV; rw [if_neg h3,if_neg h45,if_pos h8]]
          refine go1 (cj2 @e1 @h0) ?_
          exact Uc trivial (hv) (go0 trivial)
         ·rw [resV_f (fun h=>hq (hfv.1 h.2).1)]
          refine go1 (cj2 @e1 @h0) ?_
          exact Uc trivial (hv) (go0 trivial)
        ·rw [decide_eq_false hco] at hv
         rw [resV_f (fun h=>hco (hfv.1 h.2).2)]
         refine go1 (cj2 @e1 @h0) ?_
         exact Uc trivial (hv) (go0 trivial)
       ·have hel : p.es = []:=List.length_eq_zero_iff.1 (by omega)
        have hfv : fitsV p ns:=by
         unfold fitsV
         rw [if_neg h6,if_neg h8,hel]
         exact fun j e hj=>by simp at hj
        rw [resV_t hz hfi hfv,show fromV p ns = n0 by unfold fromV; rw [if_neg h3,if_neg h45,if_neg h8,g0]]
        exact go0 (cj2 @e1 @h0)
end Go.Proofs.YtjngffbghkafaaaGreat
set_option maxHeartbeats 4000000
set_option maxRecDepth 100000
set_option linter.unusedVariables false
set_option linter.unusedSimpArgs false
namespace Go.Proofs.YtjngffbghkafaaaGreat
open Go.RowKit
def sameT (a b : Ta) : Prop:=tOk a ∧ tOk b ∧ a.w = b.w
noncomputable instance sameTDec (a b : Ta) : Decidable (sameT a b):=Classical.propDecidable _
theorem sameT.symm {a b : Ta} (h : sameT a b) : sameT b a:=⟨h.2.1,h.1,h.2.2.symm⟩
theorem tOk_nat {t : Ta} (h : tOk t) : ∃ w : Nat,t.w = (w : Int) ∧ (1 ≤ w ∧ w ≤ 6) ∧ RsW w t.rows ∧ Asc t.rows ∧ t.rows.length ≤ 400:=by
 have h1:=h.1.1
 refine ⟨t.w.toNat,by omega,by omega,rsw_of_tOk h,asc_of_tOk h,h.1.2⟩
theorem tOk_sz {t : Ta} (ht : tOk t) : rsz t.rows ≤ 1048576:=by
 obtain ⟨w,_,_,hr,_,hl⟩:=tOk_nat ht
 have h1:=rsz_le t.rows (k:=6) (fun r hm=>by have:=(hr r hm).1; omega)
 omega
theorem NearT.mono {w w' m : Nat} {t : Ta} (h : NearT w m t) (hw : w ≤ w') : NearT w' m t:=⟨h.len,fun r hr=>by have:=h.row r hr; omega⟩
end Go.Proofs.YtjngffbghkafaaaGreat
set_option maxHeartbeats 4000000
set_option maxRecDepth 100000
set_option linter.unusedVariables false
set_option linter.unusedSimpArgs false
namespace Go.Proofs.YtjngffbghkafaaaGreat
open Go.RowKit
theorem defR_ok (w : Nat) : (List.replicate w (⟨false,0⟩ : V)).length = w ∧ ∀ v,v ∈ List.replicate w (⟨false,0⟩ : V) → v.ok:=⟨List.length_replicate ..,fun v hv=>by
 rw [(List.mem_replicate.1 hv).2]
 exact ⟨by decide,by decide,fun h=>by cases h⟩⟩
theorem termOf_w {w : Nat} {e : E} (he : eOk e w 8) : ∃ t e0,tD e = .ifc t e0 ∧ e0.pur = true ∧ Does Tryz.prog 147 [] [eD e] (.ifc t e0) []:=by
 have h0:=defR_ok w
 obtain ⟨h1,t,e0,f,hd,hp0,hm,hv⟩:=termOf_ok h0.2 e 8 (by rw [h0.1]; exact he)
 exact ⟨t,e0,hd,hp0,by rw [← hd]; exact h1⟩
theorem tD_pur {w : Nat} {e : E} (he : eOk e w 8) : (tD e).pur = true:=by
 obtain ⟨t,e0,hd,hp,_⟩:=termOf_w he
 rw [hd]
 exact hp
theorem terms_pur {w : Nat} : ∀ {es : List E},(∀ e,e ∈ es → eOk e w 8) → D.purL (es.map tD) = true
 | [],_=>rfl
 | e :: es,h=>by
  rw [List.map_cons,D.purL,tD_pur (h e (List.mem_cons_self ..)),terms_pur (fun e he=>h e (List.mem_cons_of_mem _ he))]
  rfl
theorem projectedRows_ok {w : Nat} (rs : List (List V)) (es : List E) (hel : es.length ≤ 1000) (hes : ∀ e,e ∈ es → eOk e w 8) :
  Does Tryz.prog 148 [] [rowsD rs,.sl 5 (es.map eD)] (.fn 183 [.ptr [rowsD rs],.ptr [.sl 1 (es.map tD)]]) []:=by
 have htl2:=take_all tD es
 refine Bg c_Z49 mixed (go1 trivial ?_)
 refine dw_for (c:=3) (l:=fun i=>[(2,.ref 1000000 0),(5,.ref 1000001 0),(8,.sl 5 (es.map eD)),(9,I es.length),(10,I i),(1000000,.obj [rowsD rs]),(1000001,.obj [.own 1000002 1 i]),(1000002,.row 1 ((es.take i).map tD))]) es.length (fun _=>True) 0 trivial ((wk_rowO 2000005 2000090 1 0 (by decide) (by decide) (by decide) rfl rfl rfl).trans (Wk.list [2000002,2000005,2000090] rfl rfl ?_)) (fun i hi _=>?_) (Nat.zero_le _)
 ·repeat' (first|(conv in hold _=>simp (disch:=omega) only [go_sem])|exact trivial|exact Sub.refl _|omega)
  first | exact rfl | exact ⟨rfl,rfl⟩ | exact ⟨rfl,rfl,rfl⟩
 ·have htl:=take_len (vs:=es) (i:=i) hi
  have hmk:=take_map tD (vs:=es) (i:=i) hi
  rcases at_or_end hi with ⟨x,hx,hlt⟩ | rfl
  ·obtain ⟨t,e0,hd,hp,h1⟩:=termOf_w (hes x (List.mem_of_getElem? hx))
   have hnx:=take_next hx
   have hren:=fun L=>ren_pure L _ hp
   refine go1 @hx ?_
   refine Uc (cj2 @hp @hren) (h1) (go1 (cj2 @hp @hren) ?_)
   refine ⟨hlt,trivial,Wk.list [1000000,1000001,2000018] rfl rfl ?_⟩
   repeat' (first|(conv in hold _=>simp (disch:=omega) only [go_sem,List.length_map,htl,hren])|exact trivial|exact Sub.refl _|omega)
   have hrl:=fun L=>ren_pure.renL_pure L _ (terms_pur (es:=es.take (i + 1)) (fun e he=>hes e (List.mem_of_mem_take he)))
   rw [hmk,hnx,List.map_append,List.map_cons,List.map_nil,hd]
   rw [hnx,List.map_append,List.map_cons,List.map_nil,hd] at hrl
   exact (congrArg (D.row 1) (hrl _)).symm
  ·have e1 : es.take es.length = es:=List.take_length
   have hpl:=terms_pur hes
   rw [e1]
   refine go1F trivial ?_
   refine fin_wk (wk_frzO 1000001 1000002 (by decide) (by decide) rfl (by decide) rfl ?_) ?_
   rotate_left
   (conv in hold _=>simp (disch:=omega) only [go_sem,htl2,List.length_map,Nat.le_refl])
   ·refine fin_wk (wk_fro 4 1000001 (by decide) (by decide) rfl ?_) ?_
    rotate_left
    (conv in hold _=>simp (disch:=omega) only [go_sem,htl2])
    ·refine fin_wk (wk_fro 4 1000000 (by decide) (by decide) rfl ?_) ?_
     rotate_left
     (conv in hold _=>simp (disch:=omega) only [go_sem,htl2])
     ·refine fin_L [] ?_ ?_ rfl ?_
      repeat' (first|(conv in hold _=>simp (disch:=omega) only [go_sem,htl2])|exact trivial|exact Sub.refl _|omega)
     ·rfl
    ·first | rfl | (simp only [D.purL,D.pur,Bool.and_self])
   ·exact hpl
theorem projectedRows_yields {w : Nat} (rs : List (List V)) (hl : rs.length ≤ 100000) (hs : RsW w rs) (es : List E) (hel : es.length ≤ 1000) (hes : ∀ e,e ∈ es → eOk e w 8) :
  Yields Tryz.prog 183 [.ptr [rowsD rs],.ptr [.sl 1 (es.map tD)]] ((rs.map (prjR es)).map tupR):=by
 refine yields c_Z36 mixed (Nat.le_of_ble_eq_true rfl) (fun i e=>?_)
 conv=>arg 3; whnf
 refine go1 trivial ?_
 refine dw_for (c:=0) (l:=fun j=>[(0,.v (.func (.yield i) #[] #[])),(1,.ptr [rowsD rs]),(2,.ptr [.sl 1 (es.map tD)]),(9,rowsD rs),(10,I rs.length),(11,I j),(gh,.gho i ((rs.map (prjR es)).map tupR) e j)]) rs.length (fun j=>j ≤ e) 0 (Nat.zero_le _) (Wk.list [] rfl rfl ?_) (fun j hj hJ=>?_) (Nat.zero_le _)
 ·repeat' (first|(conv in hold _=>simp (disch:=omega) only [go_sem])|exact trivial|exact Sub.refl _|omega)
  first | exact rfl | exact ⟨rfl,rfl⟩
 ·rcases at_or_end hj with ⟨x,hx,hlt⟩ | rfl
  ·have hxr:=hs x (List.mem_of_getElem? hx)
   have hpl : (prjR es x).length = es.length:=List.length_map _
   refine go1 @hx ?_
   refine dw_for (c:=1) (l:=fun k=>[(0,.v (.func (.yield i) #[] #[])),(1,.ptr [rowsD rs]),(2,.ptr [.sl 1 (es.map tD)]),(5,rowD x),(6,.own 1000000 2 k),(9,rowsD rs),(10,I rs.length),(11,I j),(15,.sl 1 (es.map tD)),(16,I es.length),(17,I k),(1000000,.row 2 (((prjR es x).take k).map vD)),(gh,.gho i ((rs.map (prjR es)).map tupR) e j)]) es.length (fun _=>True) 0 trivial ((wk_row 6 2000090 2 (by decide) (by decide) rfl rfl).trans (Wk.list [2000090] rfl rfl ?_)) (fun k hk _=>?_) (Nat.zero_le _)
   ·repeat' (first|(conv in hold _=>simp (disch:=omega) only [go_sem])|exact trivial|exact Sub.refl _|omega)
    first | exact rfl | exact ⟨rfl,rfl⟩ | exact ⟨rfl,rfl,rfl⟩
   ·have hkl : ((prjR es x).take k).length = k:=take_len (by rw [hpl]; exact hk)
    have hkm : (((prjR es x).take k).map vD).take k = ((prjR es x).take k).map vD:=take_map vD (by rw [hpl]; exact hk)
    rcases at_or_end hk with ⟨y,hy,hklt⟩ | rfl
    ·obtain ⟨_,t,e0,f,hd,hp0,hm,hv⟩:=termOf_ok hxr.2 y 8 (by rw [hxr.1]; exact hes y (List.mem_of_getElem? hy))
     have hnk : (prjR es x).take (k + 1) = (prjR es x).take k ++ [ev y x]:=take_next (by unfold prjR; rw [List.getElem?_map,hy]; rfl)
     refine go1 (cj2 @hy @hd) ?_
     refine i_meth (hm) ?_
     refine Uc (cj2 @hd @hp0) (hv) (go1 (cj2 @hd @hp0) ?_)
     refine ⟨hklt,trivial,Wk.list [2000026] rfl rfl ?_⟩
     repeat' (first|(conv in hold _=>simp (disch:=omega) only [go_sem,hnk,hkm])|exact trivial|exact Sub.refl _|omega)
     rw [List.map_append]
     rfl
    ·have e1 : (prjR es x).take es.length = prjR es x:=List.take_of_length_le (by rw [hpl]; exact Nat.le_refl _)
     rw [e1] at hkm
     rw [e1]
     refine go1C trivial ?_
     refine s_pre (pre_frz (t:=29) (g:=1000000) (by decide) (by decide) rfl ?_) ?_
     rotate_left
     refine go1 (cj2 @hkm @hpl) ?_
     refine v_yld (by ((conv=>lhs; simp (disch:=omega) only [go_sem]); try rfl)) (hJ) ((by rw [List.getElem?_map,List.getElem?_map,hx]; rfl)) (by first | rfl | (simp only [go_sem])) ?_
     repeat' (first|with_reducible refine acc_none ?_ | (conv in hold _=>simp (disch:=omega) only [go_sem])|refine Stp.go ?_|(with_reducible first|refine it_pos rfl ?_|refine it_neg (by decide) ?_|refine st_nil rfl ?_|refine s_op ?_ ?_|exact trivial)|((with_reducible first|refine dw_reg0 ?_|refine dw_regB ?_);(conv=>arg 3;whnf))|(refine Spl.go (fun hq he=>?_) (fun hq he=>?_)<;>first|(exfalso;clear hq;omega)|((try first|(conv=>arg 8;simp only [hq])|(conv=>arg 4;simp only [hq]));clear hq))|((with_reducible first|refine c_split (fun hq=>?_) (fun hq=>?_)|refine q_split (fun hq=>?_) (fun hq=>?_))<;>(try first|(conv=>arg 8;simp only [hq])|(conv=>arg 4;simp only [hq])))|(with_reducible refine fin_0 ?_ (by first|rfl|(conv=>lhs;simp only [go_sem])) ?_)|exact Sub.refl _|omega)
     ·refine ⟨(j + 1),?_,?_⟩
      ·((conv=>lhs; simp (disch:=omega) only [go_sem]); try rfl)
      simp only [List.length_map]
      omega
     ·refine ⟨hlt,by omega,Wk.list [] rfl rfl ?_⟩
      repeat' (first|(conv in hold _=>simp (disch:=omega) only [go_sem])|exact trivial|exact Sub.refl _|omega)
     ·exact vals_pur _
  ·refine go1 trivial ?_
   refine ⟨rs.length,?_,?_⟩
   ·((conv=>lhs; simp (disch:=omega) only [go_sem]); try rfl)
   rw [List.length_map,List.length_map]
   omega
end Go.Proofs.YtjngffbghkafaaaGreat
