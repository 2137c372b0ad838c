/-
  Drawn expressions. No condition.
-/
import Derived.Test.YtgpdmgaemhelgaaGreatKSDca
import Derived.Test.YtgpdmgaemhelgaaGreatKSDcc
import Derived.Test.YtgpdmgaemhelgaaGreatJSVCpE
import Derived.Test.YtgpdmgaemhelgaaGreatJSVClC
import Derived.Test.YtgpdmgaemhelgaaGreatJSVEsz
import Derived.Test.YtgpdmgaemhelgaaGreatJSVBox
import Derived.Test.YtgpdmgaemhelgaaGreatJSVYld
set_option maxHeartbeats 4000000
set_option maxRecDepth 100000
namespace Go.Proofs.YtgpdmgaemhelgaaGreat
open Go.RowKit
theorem constant_ok (v : V) : Does Tryz.prog 179 [] [vD v] (eD (.mk 2 0 v [])) []:=by
 refine Bg c_Z121 mixed (go1 trivial ?_)
 exact Sub.agg ⟨Sub.refl _,Sub.refl _,Sub.refl _,Sub.refl _,Sub.nul 5,trivial⟩
def bnd : Nat → Nat
 | 0=>5
 | d + 1=>5 + 3 * bnd d
theorem bnd_ge : ∀ d,d ≤ bnd d
 | 0=>Nat.zero_le _
 | d + 1=>by have:=bnd_ge d; rw [bnd]; omega
theorem leaf_ok {bs : List Nat} (hs : Src bs) (n : Int) (hn : n < 1000) (deep : Int) (p : Nat) (hp : p < 700000000) (k : Int) (hk : Does Tryz.prog 65 [rdD bs p] [.ref 1000000 0,I 13] (I k) [rdD bs (p + 1)])
  (hc : deep = 0 ∨ k > 10) : ∃ (e : E) (q : Nat),Does Tryz.prog 156 [rdD bs p] [.ref 1000000 0,I n,I deep] (eD e) [rdD bs q] ∧ p ≤ q ∧ q ≤ p + 5 ∧ esz e ≤ 1:=by
 obtain ⟨j,hj,j0,j1,_⟩:=pick_ok hs (p + 1) (by omega) 3 (by omega)
 by_cases h : j > 0
 ·obtain ⟨c,hcc,c0,c1,_⟩:=pick_ok hs (p + 2) (by omega) n (by omega)
  refine ⟨.mk 1 c ⟨false,0⟩ [],p + 3,?_,by omega,by omega,by rw [esz,eszL]; exact Nat.le_refl 1⟩
  refine Bk c_Z82 mixed 1 (go1 trivial ?_)
  refine c_doesR [1000000] (hk) (callOK_of rfl (Nat.le_of_ble_eq_true rfl) rfl ?_ ?_) ?_ ?_
  ·repeat' (first|(conv in hold _=>simp (disch:=omega) only [go_sem])|exact trivial|exact Sub.refl _|omega)
  ·repeat' (first|(conv in hold _=>simp (disch:=omega) only [go_sem])|exact trivial|exact Sub.refl _|omega)
  ·((conv=>rhs;simp (disch:=omega) only [go_sem]); try rfl)
  repeat' (first|with_reducible refine acc_none ?_ | (conv in hold _=>simp (disch:=omega) only [go_sem])|refine Stp.go ?_|(with_reducible first|refine it_pos rfl ?_|refine it_neg (by decide) ?_|refine st_nil rfl ?_|refine s_op ?_ ?_|exact trivial)|((with_reducible first|refine dw_reg0 ?_|refine dw_regB ?_);(conv=>arg 3;whnf))|(refine Spl.go (fun hq he=>?_) (fun hq he=>?_)<;>first|(exfalso;clear hq;omega)|((try first|(conv=>arg 8;simp only [hq])|(conv=>arg 4;simp only [hq]));clear hq))|((with_reducible first|refine c_split (fun hq=>?_) (fun hq=>?_)|refine q_split (fun hq=>?_) (fun hq=>?_))<;>(try first|(conv=>arg 8;simp only [hq])|(conv=>arg 4;simp only [hq])))|(with_reducible refine fin_0 ?_ (by first|rfl|(conv=>lhs;simp only [go_sem])) ?_)|exact Sub.refl _|omega)
  ·refine UcR [1000000] trivial (hj) (go1 trivial ?_)
   refine UcR [1000000] trivial (hcc) (go1 trivial ?_)
   refine fin_L [1000000] ?_ ?_ rfl ?_
   repeat' (first|(conv in hold _=>simp (disch:=omega) only [go_sem])|exact trivial|exact Sub.refl _|omega)
   exact Sub.agg ⟨Sub.refl _,Sub.refl _,Sub.refl _,Sub.refl _,Sub.nul 5,trivial⟩
  ·refine UcR [1000000] trivial (hj) (go1 trivial ?_)
   refine UcR [1000000] trivial (hcc) (go1 trivial ?_)
   refine fin_L [1000000] ?_ ?_ rfl ?_
   repeat' (first|(conv in hold _=>simp (disch:=omega) only [go_sem])|exact trivial|exact Sub.refl _|omega)
   exact Sub.agg ⟨Sub.refl _,Sub.refl _,Sub.refl _,Sub.refl _,Sub.nul 5,trivial⟩
 ·obtain ⟨v,q,⟨hv,_⟩,hq0,hq1⟩:=randomValue_ok hs (p + 2) (by omega)
  refine ⟨.mk 2 0 v [],q,?_,by omega,by omega,by rw [esz,eszL]; exact Nat.le_refl 1⟩
  refine Bk c_Z82 mixed 1 (go1 trivial ?_)
  refine c_doesR [1000000] (hk) (callOK_of rfl (Nat.le_of_ble_eq_true rfl) rfl ?_ ?_) ?_ ?_
  ·repeat' (first|(conv in hold _=>simp (disch:=omega) only [go_sem])|exact trivial|exact Sub.refl _|omega)
  ·repeat' (first|(conv in hold _=>simp (disch:=omega) only [go_sem])|exact trivial|exact Sub.refl _|omega)
  ·((conv=>rhs;simp (disch:=omega) only [go_sem]); try rfl)
  repeat' (first|with_reducible refine acc_none ?_ | (conv in hold _=>simp (disch:=omega) only [go_sem])|refine Stp.go ?_|(with_reducible first|refine it_pos rfl ?_|refine it_neg (by decide) ?_|refine st_nil rfl ?_|refine s_op ?_ ?_|exact trivial)|((with_reducible first|refine dw_reg0 ?_|refine dw_regB ?_);(conv=>arg 3;whnf))|(refine Spl.go (fun hq he=>?_) (fun hq he=>?_)<;>first|(exfalso;clear hq;omega)|((try first|(conv=>arg 8;simp only [hq])|(conv=>arg 4;simp only [hq]));clear hq))|((with_reducible first|refine c_split (fun hq=>?_) (fun hq=>?_)|refine q_split (fun hq=>?_) (fun hq=>?_))<;>(try first|(conv=>arg 8;simp only [hq])|(conv=>arg 4;simp only [hq])))|(with_reducible refine fin_0 ?_ (by first|rfl|(conv=>lhs;simp only [go_sem])) ?_)|exact Sub.refl _|omega)
  ·refine UcR [1000000] trivial (hj) (go1 trivial ?_)
   refine UcR [1000000] trivial (hv) (go1 trivial ?_)
   refine Uc trivial (constant_ok v) (go1 trivial ?_)
   refine fin_L [1000000] ?_ ?_ rfl ?_
   all_goals exact Ag trivial
  ·refine UcR [1000000] trivial (hj) (go1 trivial ?_)
   refine UcR [1000000] trivial (hv) (go1 trivial ?_)
   refine Uc trivial (constant_ok v) (go1 trivial ?_)
   refine fin_L [1000000] ?_ ?_ rfl ?_
   all_goals exact Ag trivial
def szb : Nat → Nat
 | 0=>1
 | d + 1=>1 + 2 * szb d
theorem szb_ge : ∀ d,1 ≤ szb d
 | 0=>Nat.le_refl _
 | d + 1=>by rw [szb]; omega
theorem eszL_bound {B : Nat} : ∀ es : List E,(∀ (i : Nat) (e : E),es[i]? = some e → esz e ≤ B) → eszL es ≤ es.length * B
 | [],_=>Nat.zero_le _
 | e :: l,h=>by
  have h1:=h 0 e rfl
  have h2:=eszL_bound l (fun i x hx=>h (i + 1) x (by simpa using hx))
  rw [eszL,List.length_cons,Nat.add_mul]
  omega
theorem randomExpr_ok {bs : List Nat} (hs : Src bs) (n : Int) (hn : n < 1000) : ∀ (d : Nat) (p : Nat),p + bnd d < 700000000 → ∃ (e : E) (q : Nat),
  Does Tryz.prog 156 [rdD bs p] [.ref 1000000 0,I n,I d] (eD e) [rdD bs q] ∧ p ≤ q ∧ q ≤ p + bnd d ∧ esz e ≤ szb d:=by
 intro d
 induction d with
 | zero=>
  intro p hp
  obtain ⟨k,hk,k0,k1,_⟩:=pick_ok hs p (by omega) 13 (by omega)
  exact leaf_ok hs n hn 0 p (by omega) k hk (.inl rfl)
 | succ d ih=>
  intro p hp
  rw [bnd] at hp ⊢
  have hdb:=bnd_ge d
  obtain ⟨k,hk,k0,k1,_⟩:=pick_ok hs p (by omega) 13 (by omega)
  by_cases h : k > 10
  ·obtain ⟨e,q,he,hq0,hq1⟩:=leaf_ok hs n hn ((d + 1 : Nat) : Int) p (by omega) k hk (.inr h)
   have hsz:=szb_ge (d + 1)
   exact ⟨e,q,he,hq0,by omega,by omega⟩
  ·have ht0:=Int.tmod_nonneg 9 k0
   have ht1:=Int.tmod_lt_of_pos k (show (0 : Int) < 9 by decide)
   obtain ⟨m,hm,hm2⟩ : ∃ m : Nat,kidsN (3 + k.tmod 9) = m ∧ m ≤ 2:=by
    unfold kidsN
    split
    ·omega
    ·split
     ·exact ⟨1,rfl,by decide⟩
     ·rw [if_pos (by omega)]
      exact ⟨2,rfl,by decide⟩
   have hmb : m * bnd d ≤ 2 * bnd d:=Nat.mul_le_mul_right _ hm2
   obtain ⟨es,ps,hl,h0,hd,hp0,hp1⟩:=draws (fun p e q=>Does Tryz.prog 156 [rdD bs p] [.ref 1000000 0,I n,I d] (eD e) [rdD bs q] ∧ esz e ≤ szb d) (700000000 - bnd d) (bnd d) (fun p hp=>by
    obtain ⟨e,q,h1,h2,h3,h4⟩:=ih p (by omega)
    exact ⟨e,q,⟨h1,h4⟩,h2,h3⟩) m (p + 1) (by omega)
   have hes:=eszL_bound es (fun i e he=>(hd i e he).2)
   have hms : m * szb d ≤ 2 * szb d:=Nat.mul_le_mul_right _ hm2
   rw [hl] at hes
   refine ⟨.mk (3 + k.tmod 9) 0 ⟨false,0⟩ es,ps m,?_,by omega,by omega,by rw [esz,szb]; omega⟩
   refine Bk c_Z82 mixed 1 (go1 trivial ?_)
   refine UcR [1000000] trivial (hk) (go1 trivial ?_)
   refine dw_for (c:=4) (l:=fun i=>[(0,.ref 1000000 0),(1,I n),(2,I (d + 1 : Nat)),(6,.ref 1000001 0),(8,I (3 + k.tmod 9)),(9,.ref 1000002 0),(10,I i),(1000000,rdD bs (ps i)),(1000001,.obj [I 0,I 0,Bo false,I 0,.nul]),(1000002,.obj [I (3 + k.tmod 9),I 0,Bo false,I 0,.own 1000003 5 i]),(1000003,.row 5 ((es.take i).map eD))]) m (fun _=>True) 0 trivial ((wk_rowO 2000009 2000048 5 4 (by decide) (by decide) (by decide) rfl rfl rfl).trans (Wk.list [1000000,2000006,2000009,2000048] rfl rfl ?_)) (fun i hi _=>?_) (Nat.zero_le m)
   ·rw [h0]
    repeat' (first|(conv in hold _=>simp (disch:=omega) only [go_sem])|exact trivial|exact Sub.refl _|omega)
    exact rfl
   ·have hlt:=take_len (vs:=es) (i:=i) (by omega)
    have hmt:=take_map eD (vs:=es) (i:=i) (by omega)
    skip
    refine go1 trivial ?_
    refine c_doesE (does_kidsOf (3 + k.tmod 9)) ?_ ?_ ?_
    ·((try (conv=>rhs;simp (disch:=omega) only [go_sem,hm])); try rfl)
    ·first|rfl|(conv=>lhs;simp only [go_sem,hm])
    repeat' (first|with_reducible refine acc_none ?_ | (conv in hold _=>simp (disch:=omega) only [go_sem,hm])|refine Stp.go ?_|(with_reducible first|refine it_pos rfl ?_|refine it_neg (by decide) ?_|refine st_nil rfl ?_|refine s_op ?_ ?_|exact trivial)|((with_reducible first|refine dw_reg0 ?_|refine dw_regB ?_);(conv=>arg 3;whnf))|(refine Spl.go (fun hq he=>?_) (fun hq he=>?_)<;>first|(exfalso;clear hq;omega)|((try first|(conv=>arg 8;simp only [hq])|(conv=>arg 4;simp only [hq]));clear hq))|((with_reducible first|refine c_split (fun hq=>?_) (fun hq=>?_)|refine q_split (fun hq=>?_) (fun hq=>?_))<;>(try first|(conv=>arg 8;simp only [hq])|(conv=>arg 4;simp only [hq])))|(with_reducible refine fin_0 ?_ (by first|rfl|(conv=>lhs;simp only [go_sem,hm])) ?_)|exact Sub.refl _|omega)
    ·obtain ⟨v,hv⟩ : ∃ v,es[i]? = some v:=⟨es[i],List.getElem?_eq_getElem (by omega)⟩
     have hnx:=take_next hv
     refine c_doesR [1000000] ((hd i v hv).1) (callOK_of rfl (Nat.le_of_ble_eq_true rfl) rfl ?_ ?_) ?_ ?_
     ·repeat' (first|(conv in hold _=>simp (disch:=omega) only [go_sem])|exact trivial|exact Sub.refl _|omega)
     ·repeat' (first|(conv in hold _=>simp (disch:=omega) only [go_sem])|exact trivial|exact Sub.refl _|omega)
     ·((conv=>rhs;simp (disch:=omega) only [go_sem]); try rfl)
     repeat' (first|with_reducible refine acc_none ?_ | (conv in hold _=>simp (disch:=omega) only [go_sem])|refine Stp.go ?_|(with_reducible first|refine it_pos rfl ?_|refine it_neg (by decide) ?_|refine st_nil rfl ?_|refine s_op ?_ ?_|exact trivial)|((with_reducible first|refine dw_reg0 ?_|refine dw_regB ?_);(conv=>arg 3;whnf))|(refine Spl.go (fun hq he=>?_) (fun hq he=>?_)<;>first|(exfalso;clear hq;omega)|((try first|(conv=>arg 8;simp only [hq])|(conv=>arg 4;simp only [hq]));clear hq))|((with_reducible first|refine c_split (fun hq=>?_) (fun hq=>?_)|refine q_split (fun hq=>?_) (fun hq=>?_))<;>(try first|(conv=>arg 8;simp only [hq])|(conv=>arg 4;simp only [hq])))|(with_reducible refine fin_0 ?_ (by first|rfl|(conv=>lhs;simp only [go_sem])) ?_)|exact Sub.refl _|omega)
     ·refine ⟨by omega,trivial,Wk.list [1000000,1000001,1000002,2000048] rfl rfl ?_⟩
      repeat' (first|(conv in hold _=>simp (disch:=omega) only [go_sem])|exact trivial|exact Sub.refl _|omega)
      rw [hmt,hnx,List.map_append,List.map_cons,List.map_nil,eD_eq v]
    ·obtain rfl : i = m:=by omega
     have e1 : es.take i = es:=List.take_of_length_le (by omega)
     have e2 : (es.map eD).take i = es.map eD:=List.take_of_length_le (by rw [List.length_map]; omega)
     rw [e1]
     refine fin_wk (wk_frzO 1000001 1000003 (by decide) (by decide) rfl (by decide) rfl ?_) ?_
     rotate_left
     (conv in hold _=>simp (disch:=omega) only [go_sem,hl,e2])
     ·refine fin_L [1000000] ?_ ?_ rfl ?_
      all_goals exact Ag trivial
     ·exact exprs_pur _
theorem anyExpr_ok {bs : List Nat} (hs : Src bs) (n : Int) (hn : n < 1000) (p : Nat) (hp : p < 600000000) : ∃ (e : E) (q : Nat),
  Does Tryz.prog 121 [rdD bs p] [.ref 1000000 0,I n] (eD e) [rdD bs q] ∧ p ≤ q ∧ q ≤ p + 1000 ∧ esz e ≤ 15:=by
 have hb : bnd 3 = 200:=by decide
 have hz : szb 3 = 15:=by decide
 obtain ⟨e,q,he,hq0,hq1,hqz⟩:=randomExpr_ok hs n hn 3 p (by omega)
 have hqe:=esz_eq e
 obtain ⟨k,hk,k0,k1,_⟩:=pick_ok hs q (by omega) 18 (by omega)
 by_cases h : k = 0
 ·obtain ⟨x,hx,_⟩:=one_ok hs (q + 1) (by omega) [0,12,3,10] (by decide) (by decide)
  refine ⟨.mk x e.c e.v e.ks,q + 2,?_,by omega,by omega,by rw [esz]; omega⟩
  refine Bk c_Z133 mixed 1 (go1 trivial ?_)
  refine UcR [1000000] trivial (he) (go1 trivial ?_)
  refine UcR [1000000] trivial (hk) (go1 trivial ?_)
  refine UcR [1000000] trivial (hx) (go1 trivial ?_)
  refine fin_L [1000000] ?_ ?_ rfl ?_
  all_goals exact Ag trivial
 ·by_cases h1 : k = 1
  ·obtain ⟨x,hx,_⟩:=one_ok hs (q + 1) (by omega) [-1,6,n] (by simp) (by simp)
   refine ⟨.mk e.k x e.v e.ks,q + 2,?_,by omega,by omega,by rw [esz]; omega⟩
   refine Bk c_Z133 mixed 1 (go1 trivial ?_)
   refine UcR [1000000] trivial (he) (go1 trivial ?_)
   refine UcR [1000000] trivial (hk) (go1 trivial ?_)
   refine UcR [1000000] trivial (hx) (go1 trivial ?_)
   refine fin_L [1000000] ?_ ?_ rfl ?_
   all_goals exact Ag trivial
  ·by_cases h2 : k = 2
   ·obtain ⟨v,q',⟨hv,_⟩,hq0',hq1'⟩:=anyValue_ok hs (q + 1) (by omega)
    refine ⟨.mk e.k e.c v e.ks,q',?_,by omega,by omega,by rw [esz]; omega⟩
    refine Bk c_Z133 mixed 1 (go1 trivial ?_)
    refine UcR [1000000] trivial (he) (go1 trivial ?_)
    refine UcR [1000000] trivial (hk) (go1 trivial ?_)
    refine UcR [1000000] trivial (hv) (go1 trivial ?_)
    refine fin_L [1000000] ?_ ?_ rfl ?_
    all_goals exact Ag trivial
   ·refine ⟨e,q + 1,?_,by omega,by omega,by omega⟩
    refine Bk c_Z133 mixed 1 (go1 trivial ?_)
    refine UcR [1000000] trivial (he) (go1 trivial ?_)
    refine UcR [1000000] trivial (hk) (go1 trivial ?_)
    refine fin_L [1000000] ?_ ?_ rfl ?_
    all_goals exact Ag trivial
end Go.Proofs.YtgpdmgaemhelgaaGreat
