/-
  Drawn expressions. No condition.
-/
import Derived.Test.YtefldihjbaodnaaGreatKSDca
import Derived.Test.YtefldihjbaodnaaGreatKSDcg
import Derived.Test.YtefldihjbaodnaaGreatJSVDraw
import Derived.Test.YtefldihjbaodnaaGreatJSDcVWidD
import Derived.Test.YtefldihjbaodnaaGreatJSVGo
import Derived.Test.YtefldihjbaodnaaGreatJSVEvS
import Derived.Test.YtefldihjbaodnaaGreatKSVVa
import Derived.Test.YtefldihjbaodnaaGreatJSVTbD
import Derived.Test.YtefldihjbaodnaaGreatKSDcc
import Derived.Test.YtefldihjbaodnaaGreatJSVEvI
set_option maxHeartbeats 4000000
set_option maxRecDepth 100000
namespace Go.Proofs.YtefldihjbaodnaaGreat
open Go.RowKit
theorem constant_ok (v : V) : Does Tryz.prog 193 [] [vD v] (eD (.mk 2 0 v [])) []:=by
 refine Bg c_Z168 mixed (go1 trivial ?_)
 exact Sub.agg ⟨Sub.refl _,Sub.refl _,Sub.refl _,Sub.refl _,Sub.nul 5,trivial⟩
def bnd : Nat → Nat
 | 0=>5
 | d + 1=>5 + 3 * bnd d
theorem bnd_ge : ∀ d,d ≤ bnd d
 | 0=>Nat.zero_le _
 | d + 1=>by have:=bnd_ge d; rw [bnd]; omega
theorem leaf_ok {bs : List Nat} (hs : Src bs) (n : Int) (hn : n < 1000) (deep : Int) (p : Nat) (hp : p < 700000000) (k : Int) (hk : Does Tryz.prog 60 [rdD bs p] [.ref 1000000 0,I 13] (I k) [rdD bs (p + 1)])
  (hc : deep = 0 ∨ k > 10) : ∃ (e : E) (q : Nat),Does Tryz.prog 148 [rdD bs p] [.ref 1000000 0,I n,I deep] (eD e) [rdD bs q] ∧ p ≤ q ∧ q ≤ p + 5 ∧ esz e ≤ 1:=by
 obtain ⟨j,hj,j0,j1,_⟩:=pick_ok hs (p + 1) (by omega) 3 (by omega)
 by_cases h : j > 0
 ·obtain ⟨c,hcc,c0,c1,_⟩:=pick_ok hs (p + 2) (by omega) n (by omega)
  refine ⟨.mk 1 c ⟨false,0⟩ [],p + 3,?_,by omega,by omega,by rw [esz,eszL]; exact Nat.le_refl 1⟩
  refine Bk c_Z128 mixed 1 (go1 trivial ?_)
  refine c_doesR [1000000] (hk) (callOK_of rfl (Nat.le_of_ble_eq_true rfl) rfl ?_ ?_) ?_ ?_
  ·repeat' (first|(conv in hold _=>simp (disch:=omega) only [go_sem])|exact trivial|exact Sub.refl _|omega)
  ·repeat' (first|(conv in hold _=>simp (disch:=omega) only [go_sem])|exact trivial|exact Sub.refl _|omega)
  ·((conv=>rhs;simp (disch:=omega) only [go_sem]); try rfl)
  repeat' (first|with_reducible refine acc_none ?_ | (conv in hold _=>simp (disch:=omega) only [go_sem])|refine Stp.go ?_|(with_reducible first|refine it_pos rfl ?_|refine it_neg (by decide) ?_|refine st_nil rfl ?_|refine s_op ?_ ?_|exact trivial)|((with_reducible first|refine dw_reg0 ?_|refine dw_regB ?_);(conv=>arg 3;whnf))|(refine Spl.go (fun hq he=>?_) (fun hq he=>?_)<;>first|(exfalso;clear hq;omega)|((try first|(conv=>arg 8;simp only [hq])|(conv=>arg 4;simp only [hq]));clear hq))|((with_reducible first|refine c_split (fun hq=>?_) (fun hq=>?_)|refine q_split (fun hq=>?_) (fun hq=>?_))<;>(try first|(conv=>arg 8;simp only [hq])|(conv=>arg 4;simp only [hq])))|(with_reducible refine fin_0 ?_ (by first|rfl|(conv=>lhs;simp only [go_sem])) ?_)|exact Sub.refl _|omega)
  ·refine UcR [1000000] trivial (hj) (go1 trivial ?_)
   refine UcR [1000000] trivial (hcc) (go1 trivial ?_)
   refine fin_L [1000000] ?_ ?_ rfl ?_
   repeat' (first|(conv in hold _=>simp (disch:=omega) only [go_sem])|exact trivial|exact Sub.refl _|omega)
   exact Sub.agg ⟨Sub.refl _,Sub.refl _,Sub.refl _,Sub.refl _,Sub.nul 5,trivial⟩
  ·refine UcR [1000000] trivial (hj) (go1 trivial ?_)
   refine UcR [1000000] trivial (hcc) (go1 trivial ?_)
   refine fin_L [1000000] ?_ ?_ rfl ?_
   repeat' (first|(conv in hold _=>simp (disch:=omega) only [go_sem])|exact trivial|exact Sub.refl _|omega)
   exact Sub.agg ⟨Sub.refl _,Sub.refl _,Sub.refl _,Sub.refl _,Sub.nul 5,trivial⟩
 ·obtain ⟨v,q,⟨hv,_⟩,hq0,hq1⟩:=randomValue_ok hs (p + 2) (by omega)
  refine ⟨.mk 2 0 v [],q,?_,by omega,by omega,by rw [esz,eszL]; exact Nat.le_refl 1⟩
  refine Bk c_Z128 mixed 1 (go1 trivial ?_)
  refine c_doesR [1000000] (hk) (callOK_of rfl (Nat.le_of_ble_eq_true rfl) rfl ?_ ?_) ?_ ?_
  ·repeat' (first|(conv in hold _=>simp (disch:=omega) only [go_sem])|exact trivial|exact Sub.refl _|omega)
  ·repeat' (first|(conv in hold _=>simp (disch:=omega) only [go_sem])|exact trivial|exact Sub.refl _|omega)
  ·((conv=>rhs;simp (disch:=omega) only [go_sem]); try rfl)
  repeat' (first|with_reducible refine acc_none ?_ | (conv in hold _=>simp (disch:=omega) only [go_sem])|refine Stp.go ?_|(with_reducible first|refine it_pos rfl ?_|refine it_neg (by decide) ?_|refine st_nil rfl ?_|refine s_op ?_ ?_|exact trivial)|((with_reducible first|refine dw_reg0 ?_|refine dw_regB ?_);(conv=>arg 3;whnf))|(refine Spl.go (fun hq he=>?_) (fun hq he=>?_)<;>first|(exfalso;clear hq;omega)|((try first|(conv=>arg 8;simp only [hq])|(conv=>arg 4;simp only [hq]));clear hq))|((with_reducible first|refine c_split (fun hq=>?_) (fun hq=>?_)|refine q_split (fun hq=>?_) (fun hq=>?_))<;>(try first|(conv=>arg 8;simp only [hq])|(conv=>arg 4;simp only [hq])))|(with_reducible refine fin_0 ?_ (by first|rfl|(conv=>lhs;simp only [go_sem])) ?_)|exact Sub.refl _|omega)
  ·refine UcR [1000000] trivial (hj) (go1 trivial ?_)
   refine UcR [1000000] trivial (hv) (go1 trivial ?_)
   refine Uc trivial (constant_ok v) (go1 trivial ?_)
   refine fin_L [1000000] ?_ ?_ rfl ?_
   repeat' (first|(conv in hold _=>simp (disch:=omega) only [go_sem])|exact trivial|exact Sub.refl _|omega)
  ·refine UcR [1000000] trivial (hj) (go1 trivial ?_)
   refine UcR [1000000] trivial (hv) (go1 trivial ?_)
   refine Uc trivial (constant_ok v) (go1 trivial ?_)
   refine fin_L [1000000] ?_ ?_ rfl ?_
   repeat' (first|(conv in hold _=>simp (disch:=omega) only [go_sem])|exact trivial|exact Sub.refl _|omega)
def szb : Nat → Nat
 | 0=>1
 | d + 1=>1 + 2 * szb d
theorem szb_ge : ∀ d,1 ≤ szb d
 | 0=>Nat.le_refl _
 | d + 1=>by rw [szb]; omega
theorem eszL_bound {B : Nat} : ∀ es : List E,(∀ (i : Nat) (e : E),es[i]? = some e → esz e ≤ B) → eszL es ≤ es.length * B
 | [],_=>Nat.zero_le _
 | e :: l,h=>by
  have h1:=h 0 e rfl
  have h2:=eszL_bound l (fun i x hx=>h (i + 1) x (by simpa using hx))
  rw [eszL,List.length_cons,Nat.add_mul]
  omega
theorem randomExpr_ok {bs : List Nat} (hs : Src bs) (n : Int) (hn : n < 1000) : ∀ (d : Nat) (p : Nat),p + bnd d < 700000000 → ∃ (e : E) (q : Nat),
  Does Tryz.prog 148 [rdD bs p] [.ref 1000000 0,I n,I d] (eD e) [rdD bs q] ∧ p ≤ q ∧ q ≤ p + bnd d ∧ esz e ≤ szb d:=by
 intro d
 induction d with
 | zero=>
  intro p hp
  obtain ⟨k,hk,k0,k1,_⟩:=pick_ok hs p (by omega) 13 (by omega)
  exact leaf_ok hs n hn 0 p (by omega) k hk (.inl rfl)
 | succ d ih=>
  intro p hp
  rw [bnd] at hp ⊢
  have hdb:=bnd_ge d
  obtain ⟨k,hk,k0,k1,_⟩:=pick_ok hs p (by omega) 13 (by omega)
  by_cases h : k > 10
  ·obtain ⟨e,q,he,hq0,hq1⟩:=leaf_ok hs n hn ((d + 1 : Nat) : Int) p (by omega) k hk (.inr h)
   have hsz:=szb_ge (d + 1)
   exact ⟨e,q,he,hq0,by omega,by omega⟩
  ·have ht0:=Int.tmod_nonneg 9 k0
   have ht1:=Int.tmod_lt_of_pos k (show (0 : Int) < 9 by decide)
   obtain ⟨m,hm,hm2⟩ : ∃ m : Nat,kidsN (3 + k.tmod 9) = m ∧ m ≤ 2:=by
    unfold kidsN
    split
    ·omega
    ·split
     ·exact ⟨1,rfl,by decide⟩
     ·rw [if_pos (by omega)]
      exact ⟨2,rfl,by decide⟩
   have hmb : m * bnd d ≤ 2 * bnd d:=Nat.mul_le_mul_right _ hm2
   obtain ⟨es,ps,hl,h0,hd,hp0,hp1⟩:=draws (fun p e q=>Does Tryz.prog 148 [rdD bs p] [.ref 1000000 0,I n,I d] (eD e) [rdD bs q] ∧ esz e ≤ szb d) (700000000 - bnd d) (bnd d) (fun p hp=>by
    obtain ⟨e,q,h1,h2,h3,h4⟩:=ih p (by omega)
    exact ⟨e,q,⟨h1,h4⟩,h2,h3⟩) m (p + 1) (by omega)
   have hes:=eszL_bound es (fun i e he=>(hd i e he).2)
   have hms : m * szb d ≤ 2 * szb d:=Nat.mul_le_mul_right _ hm2
   rw [hl] at hes
   refine ⟨.mk (3 + k.tmod 9) 0 ⟨false,0⟩ es,ps m,?_,by omega,by omega,by rw [esz,szb]; omega⟩
   refine Bk c_Z128 mixed 1 (go1 trivial ?_)
   refine UcR [1000000] trivial (hk) (go1 trivial ?_)
   refine dw_for (c:=4) (l:=fun i=>[(0,.ref 1000000 0),(1,I n),(2,I (d + 1 : Nat)),(6,.ref 1000001 0),(8,I (3 + k.tmod 9)),(9,.ref 1000002 0),(10,I i),(1000000,rdD bs (ps i)),(1000001,.obj [I 0,I 0,Bo false,I 0,.nul]),(1000002,.obj [I (3 + k.tmod 9),I 0,Bo false,I 0,.own 1000003 5 i]),(1000003,.row 5 ((es.take i).map eD))]) m (fun _=>True) 0 trivial ((wk_rowO 2000009 2000048 5 4 (by decide) (by decide) (by decide) rfl rfl rfl).trans (Wk.list [1000000,2000006,2000009,2000048] rfl rfl ?_)) (fun i hi _=>?_) (Nat.zero_le m)
   ·rw [h0]
    repeat' (first|(conv in hold _=>simp (disch:=omega) only [go_sem])|exact trivial|exact Sub.refl _|omega)
    exact rfl
   ·have hlt:=take_len (vs:=es) (i:=i) (by omega)
    have hmt:=take_map eD (vs:=es) (i:=i) (by omega)
    skip
    refine go1 trivial ?_
    refine c_doesE (does_kidsOf (3 + k.tmod 9)) ?_ ?_ ?_
    ·((try (conv=>rhs;simp (disch:=omega) only [go_sem,hm])); try rfl)
    ·first|rfl|(conv=>lhs;simp only [go_sem,hm])
    repeat' (first|with_reducible refine acc_none ?_ | (conv in hold _=>simp (disch:=omega) only [go_sem,hm])|refine Stp.go ?_|(with_reducible first|refine it_pos rfl ?_|refine it_neg (by decide) ?_|refine st_nil rfl ?_|refine s_op ?_ ?_|exact trivial)|((with_reducible first|refine dw_reg0 ?_|refine dw_regB ?_);(conv=>arg 3;whnf))|(refine Spl.go (fun hq he=>?_) (fun hq he=>?_)<;>first|(exfalso;clear hq;omega)|((try first|(conv=>arg 8;simp only [hq])|(conv=>arg 4;simp only [hq]));clear hq))|((with_reducible first|refine c_split (fun hq=>?_) (fun hq=>?_)|refine q_split (fun hq=>?_) (fun hq=>?_))<;>(try first|(conv=>arg 8;simp only [hq])|(conv=>arg 4;simp only [hq])))|(with_reducible refine fin_0 ?_ (by first|rfl|(conv=>lhs;simp only [go_sem,hm])) ?_)|exact Sub.refl _|omega)
    ·obtain ⟨v,hv⟩ : ∃ v,es[i]? = some v:=⟨es[i],List.getElem?_eq_getElem (by omega)⟩
     have hnx:=take_next hv
     refine c_doesR [1000000] ((hd i v hv).1) (callOK_of rfl (Nat.le_of_ble_eq_true rfl) rfl ?_ ?_) ?_ ?_
     ·repeat' (first|(conv in hold _=>simp (disch:=omega) only [go_sem])|exact trivial|exact Sub.refl _|omega)
     ·repeat' (first|(conv in hold _=>simp (disch:=omega) only [go_sem])|exact trivial|exact Sub.refl _|omega)
     ·((conv=>rhs;simp (disch:=omega) only [go_sem]); try rfl)
     repeat' (first|with_reducible refine acc_none ?_ | (conv in hold _=>simp (disch:=omega) only [go_sem])|refine Stp.go ?_|(with_reducible first|refine it_pos rfl ?_|refine it_neg (by decide) ?_|refine st_nil rfl ?_|refine s_op ?_ ?_|exact trivial)|((with_reducible first|refine dw_reg0 ?_|refine dw_regB ?_);(conv=>arg 3;whnf))|(refine Spl.go (fun hq he=>?_) (fun hq he=>?_)<;>first|(exfalso;clear hq;omega)|((try first|(conv=>arg 8;simp only [hq])|(conv=>arg 4;simp only [hq]));clear hq))|((with_reducible first|refine c_split (fun hq=>?_) (fun hq=>?_)|refine q_split (fun hq=>?_) (fun hq=>?_))<;>(try first|(conv=>arg 8;simp only [hq])|(conv=>arg 4;simp only [hq])))|(with_reducible refine fin_0 ?_ (by first|rfl|(conv=>lhs;simp only [go_sem])) ?_)|exact Sub.refl _|omega)
     ·refine ⟨by omega,trivial,Wk.list [1000000,1000001,1000002,2000048] rfl rfl ?_⟩
      repeat' (first|(conv in hold _=>simp (disch:=omega) only [go_sem])|exact trivial|exact Sub.refl _|omega)
      rw [hmt,hnx,List.map_append,List.map_cons,List.map_nil,eD_eq v]
    ·obtain rfl : i = m:=by omega
     have e1 : es.take i = es:=List.take_of_length_le (by omega)
     have e2 : (es.map eD).take i = es.map eD:=List.take_of_length_le (by rw [List.length_map]; omega)
     rw [e1]
     refine fin_wk (wk_frzO 1000001 1000003 (by decide) (by decide) rfl (by decide) rfl ?_) ?_
     rotate_left
     (conv in hold _=>simp (disch:=omega) only [go_sem,hl,e2])
     ·refine fin_L [1000000] ?_ ?_ rfl ?_
      repeat' (first|(conv in hold _=>simp (disch:=omega) only [go_sem])|exact trivial|exact Sub.refl _|omega)
     ·exact exprs_pur _
theorem anyExpr_ok {bs : List Nat} (hs : Src bs) (n : Int) (hn : n < 1000) (p : Nat) (hp : p < 600000000) : ∃ (e : E) (q : Nat),
  Does Tryz.prog 100 [rdD bs p] [.ref 1000000 0,I n] (eD e) [rdD bs q] ∧ p ≤ q ∧ q ≤ p + 1000 ∧ esz e ≤ 15:=by
 have hb : bnd 3 = 200:=by decide
 have hz : szb 3 = 15:=by decide
 obtain ⟨e,q,he,hq0,hq1,hqz⟩:=randomExpr_ok hs n hn 3 p (by omega)
 have hqe:=esz_eq e
 obtain ⟨k,hk,k0,k1,_⟩:=pick_ok hs q (by omega) 18 (by omega)
 by_cases h : k = 0
 ·obtain ⟨x,hx,_⟩:=one_ok hs (q + 1) (by omega) [0,12,3,10] (by decide) (by decide)
  refine ⟨.mk x e.c e.v e.ks,q + 2,?_,by omega,by omega,by rw [esz]; omega⟩
  refine Bk c_Z183 mixed 1 (go1 trivial ?_)
  refine UcR [1000000] trivial (he) (go1 trivial ?_)
  refine UcR [1000000] trivial (hk) (go1 trivial ?_)
  refine UcR [1000000] trivial (hx) (go1 trivial ?_)
  refine fin_L [1000000] ?_ ?_ rfl ?_
  repeat' (first|(conv in hold _=>simp (disch:=omega) only [go_sem])|exact trivial|exact Sub.refl _|omega)
 ·by_cases h1 : k = 1
  ·obtain ⟨x,hx,_⟩:=one_ok hs (q + 1) (by omega) [-1,6,n] (by simp) (by simp)
   refine ⟨.mk e.k x e.v e.ks,q + 2,?_,by omega,by omega,by rw [esz]; omega⟩
   refine Bk c_Z183 mixed 1 (go1 trivial ?_)
   refine UcR [1000000] trivial (he) (go1 trivial ?_)
   refine UcR [1000000] trivial (hk) (go1 trivial ?_)
   refine UcR [1000000] trivial (hx) (go1 trivial ?_)
   refine fin_L [1000000] ?_ ?_ rfl ?_
   repeat' (first|(conv in hold _=>simp (disch:=omega) only [go_sem])|exact trivial|exact Sub.refl _|omega)
  ·by_cases h2 : k = 2
   ·obtain ⟨v,q',⟨hv,_⟩,hq0',hq1'⟩:=anyValue_ok hs (q + 1) (by omega)
    refine ⟨.mk e.k e.c v e.ks,q',?_,by omega,by omega,by rw [esz]; omega⟩
    refine Bk c_Z183 mixed 1 (go1 trivial ?_)
    refine UcR [1000000] trivial (he) (go1 trivial ?_)
    refine UcR [1000000] trivial (hk) (go1 trivial ?_)
    refine UcR [1000000] trivial (hv) (go1 trivial ?_)
    refine fin_L [1000000] ?_ ?_ rfl ?_
    repeat' (first|(conv in hold _=>simp (disch:=omega) only [go_sem])|exact trivial|exact Sub.refl _|omega)
   ·refine ⟨e,q + 1,?_,by omega,by omega,by omega⟩
    refine Bk c_Z183 mixed 1 (go1 trivial ?_)
    refine UcR [1000000] trivial (he) (go1 trivial ?_)
    refine UcR [1000000] trivial (hk) (go1 trivial ?_)
    refine fin_L [1000000] ?_ ?_ rfl ?_
    repeat' (first|(conv in hold _=>simp (disch:=omega) only [go_sem])|exact trivial|exact Sub.refl _|omega)
end Go.Proofs.YtefldihjbaodnaaGreat
set_option linter.unusedVariables false
set_option linter.unusedSimpArgs false
namespace Go.Proofs.YtefldihjbaodnaaGreat
open Go.RowKit
def rbF (k : Int) : List Nat → Nat
 | []=>5
 | [a]=>a
 | a :: b :: _=>if k = 6 then a + b else a * (b + 1)
mutual
def rb : Pl → Nat
 | .mk k _ _ _ ks=>rbF k (rbL ks)
def rbL : List Pl → List Nat
 | []=>[]
 | p :: l=>rb p :: rbL l
end
theorem rb_0 {p : Pl} (h : p.ks = []) : rb p = 5:=by
 cases p with
 | mk k t es cs ks=>cases h; rfl
theorem rb_1 {p q : Pl} (h : p.ks = [q]) : rb p = rb q:=by
 cases p with
 | mk k t es cs ks=>cases h; rfl
theorem rb_2 {p q r : Pl} (h : p.ks = [q,r]) : rb p = if p.k = 6 then rb q + rb r else rb q * (rb r + 1):=by
 cases p with
 | mk k t es cs ks=>cases h; rfl
theorem rb_eq (p : Pl) : rb p = rbF p.k (rbL p.ks):=by cases p; rfl
def capB (a b : Nat) : Nat:=if a = 0 then (if b = 0 then 5 else 10) else (if b = 0 then 30 else 60)
theorem cap_5 (a b : Nat) : 5 ≤ capB a b:=by
 unfold capB
 split <;> split <;> decide
theorem cap_60 (a b : Nat) : capB a b ≤ 60:=by
 unfold capB
 split <;> split <;> decide
theorem cap_mono {a b a' b' : Nat} (ha : a ≤ a') (hb : b ≤ b') : capB a b ≤ capB a' b':=by
 unfold capB
 split <;> split <;> split <;> split <;> omega
theorem cap_uni {a n : Nat} (h : n ≤ capB a 0) : n + n ≤ capB a 1:=by
 unfold capB at h ⊢
 split at h <;> rename_i ha
 ·rw [if_pos ha,if_neg (by decide)]; rw [if_pos rfl] at h; omega
 ·rw [if_neg ha,if_neg (by decide)]; rw [if_pos rfl] at h; omega
theorem cap_join {b b' m n : Nat} (hm : m ≤ capB 0 b) (hn : n ≤ capB 0 b') (hb : b + b' ≤ 1) : m * (n + 1) ≤ capB 1 (b + b'):=by
 have h : (b = 0 ∧ b' = 0) ∨ (b = 0 ∧ b' = 1) ∨ (b = 1 ∧ b' = 0):=by omega
 rcases h with ⟨rfl,rfl⟩ | ⟨rfl,rfl⟩ | ⟨rfl,rfl⟩
 ·exact Nat.mul_le_mul (show m ≤ 5 from hm) (Nat.succ_le_succ (show n ≤ 5 from hn))
 ·exact Nat.le_trans (Nat.mul_le_mul (show m ≤ 5 from hm) (Nat.succ_le_succ (show n ≤ 10 from hn))) (by decide)
 ·exact Nat.mul_le_mul (show m ≤ 10 from hm) (Nat.succ_le_succ (show n ≤ 5 from hn))
end Go.Proofs.YtefldihjbaodnaaGreat
set_option maxHeartbeats 4000000
set_option maxRecDepth 100000
namespace Go.Proofs.YtefldihjbaodnaaGreat
open Go.RowKit
def rowAt (t : Ta) (i : Nat) (r : List V) : Prop:=(rowOk r ∧ (r.length : Int) = t.w) ∧ ∀ q,0 < i → t.rows[i - 1]? = some q → cmpR q r ≤ 0
def tOk (t : Ta) : Prop:=((1 ≤ t.w ∧ t.w ≤ 6) ∧ t.rows.length ≤ 400) ∧ ∀ (i : Nat) (r : List V),t.rows[i]? = some r → rowAt t i r
noncomputable instance tOkDec (t : Ta) : Decidable (tOk t):=Classical.propDecidable _
theorem nextR {t : Ta} {i : Nat} {x : List V} {P : Nat → List V → Prop} (hx : t.rows[i]? = some x) (h : P i x) (hJ : ∀ (j : Nat) (y : List V),j < i → t.rows[j]? = some y → P j y) : ∀ (j : Nat) (y : List V),j < i + 1 → t.rows[j]? = some y → P j y:=by
 intro j y hj hy
 by_cases hji : j = i
 ·subst hji
  rw [hx] at hy
  cases hy
  exact h
 ·exact hJ j y (by omega) hy
theorem validTable_ok (t : Ta) (hl : rsz t.rows ≤ 1048576) : Does Tryz.prog 73 [] [taD t] (Bo (decide (tOk t))) []:=by
 have hlen:=rsz_len t.rows
 refine Bg c_Z130 mixed (go1 trivial ?_)
 refine dw_for (c:=1) (l:=fun i=>[(1,.ref 1000000 0),(3,I i),(1000000,.obj [I t.w,rowsD t.rows])]) t.rows.length (fun i=>∀ (j : Nat) (r : List V),j < i → t.rows[j]? = some r → rowAt t j r) 0 (fun j r hj=>by omega) (Wk.list [2000001] rfl rfl ?_) (fun i hi hJ=>?_) (Nat.zero_le _)
 ·repeat' (first|(conv in hold _=>simp (disch:=omega) only [go_sem])|exact trivial|exact Sub.refl _|omega)
  exact rfl
 ·rcases at_or_end hi with ⟨x,hx,hlt⟩ | rfl
  ·have hxs:=rsz_mem (List.mem_of_getElem? hx)
   have hv:=validRow_ok x (by omega)
   by_cases h1 : rowOk x
   ·rw [decide_eq_true h1] at hv
    by_cases h2 : (x.length : Int) = t.w
    ·by_cases hi0 : i = 0
     ·refine go1 @hx ?_
      refine Uc @hx (hv) (go1 @hx ?_)
      refine ⟨hlt,nextR (P:=rowAt t) hx ⟨⟨h1,h2⟩,fun q h0=>by omega⟩ hJ,Wk.list [1000000] rfl rfl ?_⟩
      repeat' (first|(conv in hold _=>simp (disch:=omega) only [go_sem])|exact trivial|exact Sub.refl _|omega)
     ·obtain ⟨q,hq⟩ : ∃ q,t.rows[i - 1]? = some q:=⟨_,List.getElem?_eq_getElem (by omega)⟩
      have hqs:=rsz_mem (List.mem_of_getElem? hq)
      have hii : ((i : Int) - 1).toNat = i - 1:=by omega
      have hc:=compareRows_spec q x (by omega) (by omega)
      by_cases h3 : cmpR q x ≤ 0
      ·refine go1 (cj3 @hx @hq @hii) ?_
       refine Uc (cj3 @hx @hq @hii) (hv) (go1 (cj3 @hx @hq @hii) ?_)
       refine Uc trivial (hc) (go1 trivial ?_)
       refine ⟨hlt,nextR (P:=rowAt t) hx ⟨⟨h1,h2⟩,fun q' _ hq'=>by rw [hq] at hq'; cases hq'; exact h3⟩ hJ,Wk.list [1000000] rfl rfl ?_⟩
       repeat' (first|(conv in hold _=>simp (disch:=omega) only [go_sem])|exact trivial|exact Sub.refl _|omega)
      ·refine go1 (cj3 @hx @hq @hii) ?_
       refine Uc (cj3 @hx @hq @hii) (hv) (go1 (cj3 @hx @hq @hii) ?_)
       refine Uc trivial (hc) (go1 trivial ?_)
       exact sub_f (fun h=>h3 ((h.2 i x hx).2 q (by omega) hq))
    ·refine go1 @hx ?_
     refine Uc @hx (hv) (go1 @hx ?_)
     exact sub_f (fun h=>h2 (h.2 i x hx).1.2)
   ·rw [decide_eq_false h1] at hv
    refine go1 @hx ?_
    refine Uc trivial (hv) (go1 trivial ?_)
    exact sub_f (fun h=>h1 (h.2 i x hx).1.1)
  ·have hr:=inRange_ok t.w 1 6
   by_cases hw : 1 ≤ t.w ∧ t.w ≤ 6
   ·rw [decide_eq_true hw] at hr
    refine go1 trivial ?_
    refine Uc trivial (hr) (go1 trivial ?_)
    exact sub_iff (by rw [decide_eq_true_iff]; exact ⟨fun h=>⟨⟨hw,by omega⟩,fun j r hj=>hJ j r (List.getElem?_eq_some_iff.1 hj).1 hj⟩,fun h=>by have:=h.1.2; omega⟩)
   ·rw [decide_eq_false hw] at hr
    refine go1 trivial ?_
    refine Uc trivial (hr) (go1 trivial ?_)
    exact sub_f (fun h=>hw h.1.1)
def rOk (t : Ta) : Prop:=((1 ≤ t.w ∧ t.w ≤ 6) ∧ t.rows.length ≤ 400) ∧ ∀ (i : Nat) (r : List V),t.rows[i]? = some r → rowOk r ∧ (r.length : Int) = t.w
noncomputable instance rOkDec (t : Ta) : Decidable (rOk t):=Classical.propDecidable _
theorem validRows_ok (t : Ta) (hl : rsz t.rows ≤ 1048576) : Does Tryz.prog 107 [] [rowsD t.rows,I t.w] (Bo (decide (rOk t))) []:=by
 have hlen:=rsz_len t.rows
 have hr:=validWidth_ok t.w
 by_cases hw : 1 ≤ t.w ∧ t.w ≤ 6
 ·rw [decide_eq_true hw] at hr
  by_cases h4 : t.rows.length ≤ 400
  ·refine Bg c_Z139 mixed (go1 trivial ?_)
   refine Uc trivial (hr) (go1 trivial ?_)
   refine dw_for (c:=0) (l:=fun i=>[(1,I t.w),(15,rowsD t.rows),(16,I t.rows.length),(17,I i)]) t.rows.length (fun i=>∀ (j : Nat) (r : List V),j < i → t.rows[j]? = some r → rowOk r ∧ (r.length : Int) = t.w) 0 (fun j r hj=>by omega) (Wk.list [] rfl rfl ?_) (fun i hi hJ=>?_) (Nat.zero_le _)
   ·repeat' (first|(conv in hold _=>simp (disch:=omega) only [go_sem])|exact trivial|exact Sub.refl _|omega)
    exact rfl
   ·rcases at_or_end hi with ⟨x,hx,hlt⟩ | rfl
    ·have hxs:=rsz_mem (List.mem_of_getElem? hx)
     have hv:=implValidRow_ok x (by omega)
     by_cases h2 : (x.length : Int) = t.w
     ·by_cases h1 : rowOk x
      ·rw [decide_eq_true h1] at hv
       refine go1 @hx ?_
       refine Uc trivial (hv) (go1 trivial ?_)
       refine ⟨hlt,nextR (P:=fun _ r=>rowOk r ∧ (r.length : Int) = t.w) hx ⟨h1,h2⟩ hJ,Wk.list [] rfl rfl ?_⟩
       repeat' (first|(conv in hold _=>simp (disch:=omega) only [go_sem])|exact trivial|exact Sub.refl _|omega)
      ·rw [decide_eq_false h1] at hv
       refine go1 @hx ?_
       refine Uc trivial (hv) (go1 trivial ?_)
       exact sub_f (fun h=>h1 (h.2 i x hx).1)
     ·refine go1 @hx ?_
      exact sub_f (fun h=>h2 (h.2 i x hx).2)
    ·refine go1 trivial ?_
     exact sub_iff ⟨fun _=>⟨⟨hw,h4⟩,fun j r hj=>hJ j r (List.getElem?_eq_some_iff.1 hj).1 hj⟩,fun _=>rfl⟩
  ·refine Bg c_Z139 mixed (go1 trivial ?_)
   refine Uc trivial (hr) (go1 trivial ?_)
   exact sub_f (fun h=>h4 h.1.2)
 ·rw [decide_eq_false hw] at hr
  refine Bg c_Z139 mixed (go1 trivial ?_)
  refine Uc trivial (hr) (go1 trivial ?_)
  exact sub_f (fun h=>hw h.1.1)
end Go.Proofs.YtefldihjbaodnaaGreat
set_option maxHeartbeats 4000000
set_option maxRecDepth 100000
set_option linter.unusedVariables false
set_option linter.unusedSimpArgs false
namespace Go.Proofs.YtefldihjbaodnaaGreat
open Go.RowKit
def keyV (v : V) : Int:=if v.b = true then -10000 else v.n
theorem cmpV_key {a b : V} (ha : a.ok) (hb : b.ok) : (cmpV a b = 0 ∧ keyV a = keyV b) ∨ (cmpV a b = -1 ∧ keyV a < keyV b) ∨ (cmpV a b = 1 ∧ keyV b < keyV a):=by
 have h1:=ha.nul
 have h2:=hb.nul
 have h3:=ha.lo
 have h4:=hb.lo
 unfold cmpV keyV
 cases hab : a.b <;> cases hbb : b.b <;> simp [hab,hbb] at h1 h2 ⊢
 all_goals (repeat' split) <;> omega
theorem cmpR_trans : ∀ (a b c : List V),a.length = b.length → b.length = c.length → (∀ v,v ∈ a → v.ok) → (∀ v,v ∈ b → v.ok) → (∀ v,v ∈ c → v.ok) → cmpR a b ≤ 0 → (cmpR b c ≤ 0 → cmpR a c ≤ 0) ∧ (cmpR b c < 0 → cmpR a c < 0)
 | [],[],[],_,_,_,_,_,_=>⟨fun h=>h,fun h=>h⟩
 | [],[],_ :: _,_,h,_,_,_,_=>by simp at h
 | [],_ :: _,_,h,_,_,_,_,_=>by simp at h
 | _ :: _,[],_,h,_,_,_,_,_=>by simp at h
 | _ :: _,_ :: _,[],_,h,_,_,_,_=>by simp at h
 | x :: a,y :: b,z :: c,h,h',ha,hb,hc,hab=>by
  have hx:=ha x (List.mem_cons_self ..)
  have hy:=hb y (List.mem_cons_self ..)
  have hz:=hc z (List.mem_cons_self ..)
  have ih:=cmpR_trans a b c (by simpa using h) (by simpa using h') (fun v hv=>ha v (List.mem_cons_of_mem _ hv)) (fun v hv=>hb v (List.mem_cons_of_mem _ hv)) (fun v hv=>hc v (List.mem_cons_of_mem _ hv))
  have k1:=cmpV_key hx hy
  have k2:=cmpV_key hy hz
  have k3:=cmpV_key hx hz
  rw [cmpR] at hab
  rw [cmpR,cmpR]
  by_cases e1 : cmpV x y = 0
  ·rw [if_pos e1] at hab
   have ih:=ih hab
   by_cases e2 : cmpV y z = 0
   ·rw [if_pos e2,if_pos (show cmpV x z = 0 by omega)]
    exact ih
   ·rw [if_neg e2,if_neg (show ¬ cmpV x z = 0 by omega)]
    constructor <;> intro h <;> omega
  ·rw [if_neg e1] at hab
   by_cases e2 : cmpV y z = 0
   ·rw [if_pos e2,if_neg (show ¬ cmpV x z = 0 by omega)]
    constructor <;> intro h <;> omega
   ·rw [if_neg e2]
    by_cases e3 : cmpV x z = 0
    ·rw [if_pos e3]
     constructor <;> intro h <;> omega
    ·rw [if_neg e3]
     constructor <;> intro h <;> omega
theorem cmpV_self (a : V) : cmpV a a = 0:=cmpV_0 ⟨rfl,rfl⟩
theorem cmpR_self : ∀ a : List V,cmpR a a = 0
 | []=>rfl
 | x :: a=>by rw [cmpR,if_pos (cmpV_self x)]; exact cmpR_self a
theorem cmpV_eq {a b : V} (h : cmpV a b = 0) : a = b:=by
 unfold cmpV at h
 split at h
 ·rename_i h1
  cases a; cases b
  simp at h1
  obtain ⟨rfl,rfl⟩:=h1
  rfl
 ·split at h <;> omega
theorem cmpR_eq : ∀ {a b : List V},cmpR a b = 0 → a = b
 | [],[],_=>rfl
 | [],_ :: l,h=>by change ((0 : Nat) : Int) - ((l.length + 1 : Nat) : Int) = 0 at h; omega
 | _ :: l,[],h=>by change ((l.length + 1 : Nat) : Int) - ((0 : Nat) : Int) = 0 at h; omega
 | x :: a,y :: b,h=>by
  rw [cmpR] at h
  by_cases e : cmpV x y = 0
  ·rw [if_pos e] at h
   rw [cmpV_eq e,cmpR_eq h]
  ·rw [if_neg e] at h
   exact (e h).elim
def stepB (p : Nat → Bool) (s : Nat × Nat) : Nat × Nat:=if s.1 < s.2 then (if p ((s.1 + s.2) / 2) then (s.1,(s.1 + s.2) / 2) else ((s.1 + s.2) / 2 + 1,s.2)) else s
def itB (p : Nat → Bool) (n : Nat) : Nat → Nat × Nat
 | 0=>(0,n)
 | i + 1=>stepB p (itB p n i)
theorem itB_end {p : Nat → Bool} {n i : Nat} (h : ¬ (itB p n i).1 < (itB p n i).2) : ∀ d,itB p n (i + d) = itB p n i
 | 0=>rfl
 | d + 1=>by
  rw [← Nat.add_assoc,itB,itB_end h d]
  unfold stepB
  rw [if_neg h]
theorem itB_inv {p : Nat → Bool} {n : Nat} (hp : ∀ i j,i ≤ j → j < n → p i = true → p j = true) : ∀ i,((itB p n i).1 ≤ (itB p n i).2 ∧ (itB p n i).2 ≤ n ∧ (itB p n i).2 - (itB p n i).1 + i ≤ max n i) ∧ (∀ j,j < (itB p n i).1 → p j = false) ∧ (∀ j,(itB p n i).2 ≤ j → j < n → p j = true)
 | 0=>⟨⟨Nat.zero_le _,Nat.le_refl _,by show n - 0 + 0 ≤ max n 0; omega⟩,fun j hj=>absurd hj (Nat.not_lt_zero j),fun j (h1 : n ≤ j) h2=>by omega⟩
 | i + 1=>by
  obtain ⟨⟨h1,h2,h3⟩,h4,h5⟩:=itB_inv hp i
  rw [itB]
  generalize itB p n i = s at h1 h2 h3 h4 h5
  obtain ⟨lo,hi⟩:=s
  simp only at h1 h2 h3 h4 h5
  unfold stepB
  by_cases hlt : lo < hi
  ·simp only [hlt,if_true]
   cases hm : p ((lo + hi) / 2) with
   | true=>
    simp only [if_true]
    refine ⟨⟨by omega,by omega,by omega⟩,h4,fun j hj hjn=>?_⟩
    exact hp _ j hj hjn hm
   | false=>
    simp only [Bool.false_eq_true,if_false]
    refine ⟨⟨by omega,by omega,by omega⟩,fun j hj=>?_,h5⟩
    cases hj' : p j with
    | false=>rfl
    | true=>rw [hp j ((lo + hi) / 2) (by omega) (by omega) hj'] at hm; cases hm
  ·simp only [hlt,if_false]
   exact ⟨⟨h1,h2,by omega⟩,h4,h5⟩
end Go.Proofs.YtefldihjbaodnaaGreat
set_option maxHeartbeats 4000000
set_option maxRecDepth 100000
set_option linter.unusedVariables false
set_option linter.unusedSimpArgs false
namespace Go.Proofs.YtefldihjbaodnaaGreat
open Go.RowKit
def itr (v : V) : Int:=if v.b = true then 1 else if v.n = 0 then 0 else 2
def itv (n : Int) : V:=if n = 0 then ⟨false,0⟩ else if n = 2 then ⟨false,1⟩ else ⟨true,0⟩
theorem itr_range (v : V) : 0 ≤ itr v ∧ itr v ≤ 2:=by
 unfold itr
 split
 ·decide
 ·split <;> decide
theorem itv_b2i (b : Bool) : itv (if b = true then 2 else 0) = ⟨false,b2i b⟩:=by cases b <;> rfl
theorem itv_not (v : V) : itv (2 - itr v) = ofTr (notTr (tr v)):=by
 unfold itr tr
 split
 ·rfl
 ·split <;> rfl
theorem itv_and (a b : V) : itv (min (itr a) (itr b)) = ofTr (andTr (tr a) (tr b)):=by
 unfold itr tr
 repeat' split
 all_goals rfl
theorem itv_or (a b : V) : itv (max (itr a) (itr b)) = ofTr (notTr (andTr (notTr (tr a)) (notTr (tr b)))):=by
 unfold itr tr
 repeat' split
 all_goals rfl
theorem truth_of_ok (v : V) : Does Tryz.prog 156 [] [vD v] (I (itr v)) []:=by
 unfold itr
 refine does0 c_Z93 mixed (Nat.le_of_ble_eq_true rfl) ?_
 conv=>arg 3; whnf
 repeat' (first|with_reducible refine acc_none ?_ | (conv in hold _=>simp (disch:=omega) only [go_sem])|refine Stp.go ?_|(with_reducible first|refine it_pos rfl ?_|refine it_neg (by decide) ?_|refine st_nil rfl ?_|refine s_op ?_ ?_|exact trivial)|((with_reducible first|refine dw_reg0 ?_|refine dw_regB ?_);(conv=>arg 3;whnf))|(refine Spl.go (fun hq he=>?_) (fun hq he=>?_)<;>first|(exfalso;clear hq;omega)|((try first|(conv=>arg 8;simp only [hq])|(conv=>arg 4;simp only [hq]));clear hq))|((with_reducible first|refine c_split (fun hq=>?_) (fun hq=>?_)|refine q_split (fun hq=>?_) (fun hq=>?_))<;>(try first|(conv=>arg 8;simp only [hq])|(conv=>arg 4;simp only [hq])))|(with_reducible refine fin_0 ?_ (by first|rfl|(conv=>lhs;simp only [go_sem])) ?_)|exact Sub.refl _|omega)
 ·rw [if_pos hq]; exact Sub.refl _
 ·rw [if_neg (by rw [hq]; decide),if_pos he]; exact Sub.refl _
 ·rw [if_neg (by rw [hq]; decide),if_neg he]; exact Sub.refl _
end Go.Proofs.YtefldihjbaodnaaGreat
