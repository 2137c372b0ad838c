/-
  The parts of a plan with their paths; how many steps there are up to a part; the steps that normalize. Plainly, no condition.
-/
import Derived.Test.YtgpdmgaemhelgaaGreatJSVPaD
import Derived.Test.YtgpdmgaemhelgaaGreatJSVCols
import Derived.Test.YtgpdmgaemhelgaaGreatJSVRsC
import Derived.Test.YtgpdmgaemhelgaaGreatKSDca
import Derived.Test.YtgpdmgaemhelgaaGreatJSDco
import Derived.Test.YtgpdmgaemhelgaaGreatKSVStS
import Derived.Test.YtgpdmgaemhelgaaGreatJSVYld
import Derived.Test.YtgpdmgaemhelgaaGreatJSDce
import Derived.Test.YtgpdmgaemhelgaaGreatJSVTruI
import Derived.Test.YtgpdmgaemhelgaaGreatJSVLaw
set_option maxHeartbeats 4000000
set_option maxRecDepth 100000
set_option linter.unusedVariables false
set_option linter.unusedSimpArgs false
namespace Go.Proofs.YtgpdmgaemhelgaaGreat
open Go.RowKit
mutual
theorem pt_fst : ∀ (p : Pl) (pre : List Int),(ptP p pre).map Prod.fst = pathsP p pre
 | .mk k t es cs ks,pre=>by rw [ptP,pathsP,List.map_cons,ptL_fst ks pre 0]
theorem ptL_fst : ∀ (l : List Pl) (pre : List Int) (i : Nat),(ptL l pre i).map Prod.fst = pathsL l pre i
 | [],_,_=>rfl
 | p :: l,pre,i=>by rw [ptL,pathsL,List.map_append,pt_fst p,ptL_fst l]
end
theorem pt_at : ∀ (p : Pl) (pre l : List Int) (a : Pl),(l,a) ∈ ptP p pre → ∃ m,l = pre ++ m ∧ paOf p m = some a:=by
 refine Pl.indA (fun p ih pre l a h=>?_)
 rw [ptP_eq] at h
 rcases List.mem_cons.1 h with h | h
 ·obtain ⟨rfl,rfl⟩:=Prod.mk.inj h
  exact ⟨[],(List.append_nil _).symm,rfl⟩
 ·obtain ⟨j,q,hq,hx⟩:=ptL_mem h
  obtain ⟨m,rfl,hm⟩:=ih q (List.mem_of_getElem? hq) _ _ _ hx
  refine ⟨((0 + j : Nat) : Int) :: m,by rw [List.append_assoc]; rfl,?_⟩
  rw [paOf]
  have hk : kidAt p ((0 + j : Nat) : Int) = some q:=by
   unfold kidAt
   rw [if_pos (by omega),Nat.zero_add,Int.toNat_natCast]
   exact hq
  rw [hk]
  exact hm
theorem pt_path {p : Pl} {l : List Int} {a : Pl} (h : (l,a) ∈ ptP p []) : paOf p l = some a:=by
 obtain ⟨m,rfl,hm⟩:=pt_at p [] l a h
 exact hm
theorem apP_lv {ws : List Int} (hw : wsOk ws) {p a : Pl} {w : Int} (h : Wf ws p 8 w) {l : List Int} (ha : paOf p l = some a) (r : Int) : (lvP ws (8 - l.length) (ruP ws r a)).isSome = (apP ws r l p).isSome:=by
 unfold apP lvP
 rw [ha,Option.bind_some]
 cases hq : ruP ws r a with
 | none=>rfl
 | some q=>
  obtain ⟨_,hpart⟩:=apP_part hw h ha hq
  rw [Option.bind_some,Option.bind_some]
  by_cases hz : wdV ws q (8 - l.length) = 0
  ·rw [if_pos hz,if_pos (hpart.1 hz)]
  ·rw [if_neg hz,if_neg (fun g=>hz (hpart.2 g))]
   rfl
theorem stepsTo_app (ws : List Int) (p : Pl) (a b : List (List Int)) : stepsTo ws p (a ++ b) = stepsTo ws p a ++ stepsTo ws p b:=List.flatMap_append
theorem stepsAt_pre (ws : List Int) (p : Pl) (l : List Int) {n m : Nat} (h : n ≤ m) : ∃ t,stepsAt ws p l m = stepsAt ws p l n ++ t:=by
 induction m with
 | zero=>
  obtain rfl : n = 0:=by omega
  exact ⟨[],(List.append_nil _).symm⟩
 | succ m ih=>
  by_cases e : n = m + 1
  ·subst e; exact ⟨[],(List.append_nil _).symm⟩
  ·obtain ⟨t,ht⟩:=ih (by omega)
   exact ⟨t ++ (if (apP ws ((m : Int) + 1) l p).isSome = true then [((m : Int) + 1,l)] else []),by rw [stepsAt,ht,List.append_assoc]⟩
theorem step_at {ws : List Int} {p : Pl} {ls : List (List Int)} {i : Nat} {l : List Int} (hi : ls[i]? = some l) {n : Nat} (hn : n < 11) (ha : (apP ws ((n : Int) + 1) l p).isSome = true) :
  (stepsTo ws p ls)[(stepsTo ws p (ls.take i)).length + (stepsAt ws p l n).length]? = some ((n : Int) + 1,l):=by
 have hl:=(List.getElem?_eq_some_iff.1 hi).1
 have h1 : stepsTo ws p ls = stepsTo ws p (ls.take i) ++ (stepsAt ws p l 11 ++ stepsTo ws p (ls.drop (i + 1))):=by
  have hd : ls.drop i = l :: ls.drop (i + 1):=by
   rw [List.drop_eq_getElem_cons hl]
   congr 1
   exact (List.getElem?_eq_some_iff.1 hi).2
  conv=>lhs; rw [← List.take_append_drop i ls,hd,stepsTo_app]
  congr 1
 obtain ⟨t,ht⟩:=stepsAt_pre ws p l (n:=n + 1) (m:=11) (by omega)
 have hs : stepsAt ws p l (n + 1) = stepsAt ws p l n ++ [((n : Int) + 1,l)]:=by rw [stepsAt,if_pos ha]
 rw [h1,List.getElem?_append_right (by omega),Nat.add_sub_cancel_left,ht,hs,List.append_assoc,List.append_assoc,List.getElem?_append_right (Nat.le_refl _),Nat.sub_self]
 rfl
theorem stepsTo_mono (ws : List Int) (p : Pl) (ls : List (List Int)) (i : Nat) : (stepsTo ws p (ls.take i)).length ≤ (stepsTo ws p ls).length:=by
 have h:=stepsTo_app ws p (ls.take i) (ls.drop i)
 rw [List.take_append_drop] at h
 rw [h,List.length_append]
 omega
theorem step_part (ws : List Int) (p : Pl) (ls : List (List Int)) (e : Nat) (h : e < (stepsTo ws p ls).length) : ∃ i l,ls[i]? = some l ∧ (stepsTo ws p (ls.take i)).length ≤ e ∧ e < (stepsTo ws p (ls.take i)).length + (stepsAt ws p l 11).length:=by
 have main : ∀ n,n ≤ ls.length → e < (stepsTo ws p (ls.take n)).length → ∃ i l,ls[i]? = some l ∧ (stepsTo ws p (ls.take i)).length ≤ e ∧ e < (stepsTo ws p (ls.take i)).length + (stepsAt ws p l 11).length:=by
  intro n
  induction n with
  | zero=>intro _ hn; rw [List.take_zero] at hn; exact absurd hn (Nat.not_lt_zero _)
  | succ n ih=>
   intro hl hn
   by_cases hlt : e < (stepsTo ws p (ls.take n)).length
   ·exact ih (by omega) hlt
   ·obtain ⟨l,hl0⟩ : ∃ l,ls[n]? = some l:=⟨_,List.getElem?_eq_getElem (by omega)⟩
    rw [stepsTo_next hl0,List.length_append] at hn
    exact ⟨n,l,hl0,by omega,hn⟩
 exact main ls.length (Nat.le_refl _) (by rw [List.take_length]; exact h)
theorem stepsTo_some {ws : List Int} {p : Pl} {ls : List (List Int)} {s : Int × List Int} (h : s ∈ stepsTo ws p ls) : ∃ x,apP ws s.1 s.2 p = some x:=by
 obtain ⟨l,_,hs⟩:=List.mem_flatMap.1 h
 have main : ∀ n,s ∈ stepsAt ws p l n → ∃ x,apP ws s.1 s.2 p = some x:=by
  intro n
  induction n with
  | zero=>intro h; cases h
  | succ n ih=>
   intro h
   rw [stepsAt,List.mem_append] at h
   rcases h with h | h
   ·exact ih h
   ·split at h
    ·rename_i hq
     obtain rfl:=List.mem_singleton.1 h
     exact Option.isSome_iff_exists.1 hq
    ·cases h
 exact main 11 hs
theorem stepsTo_all {ws : List Int} {p x : Pl} {ls : List (List Int)} {r : Int} {l : List Int} (hl : l ∈ ls) (hr : 1 ≤ r ∧ r ≤ 11) (h : apP ws r l p = some x) : (r,l) ∈ stepsTo ws p ls:=by
 refine List.mem_flatMap.2 ⟨l,hl,?_⟩
 obtain ⟨n,rfl⟩ : ∃ n : Nat,r = (n : Int) + 1:=⟨(r - 1).toNat,by omega⟩
 obtain ⟨t,ht⟩:=stepsAt_pre ws p l (n:=n + 1) (m:=11) (by omega)
 rw [ht,List.mem_append]
 refine .inl ?_
 rw [stepsAt,if_pos (by rw [h]; rfl)]
 exact List.mem_append_right _ (List.mem_singleton.2 rfl)
end Go.Proofs.YtgpdmgaemhelgaaGreat
set_option maxHeartbeats 4000000
set_option maxRecDepth 100000
set_option linter.unusedVariables false
set_option linter.unusedSimpArgs false
namespace Go.Proofs.YtgpdmgaemhelgaaGreat
open Go.RowKit
theorem eqIntsC_ok (l m : List Int) (hl : l.length < 2000000) (hm : m.length < 2000000) : Cmp 20 [intsD l,intsD m] (l = m):=by
 refine Cmp.of fun b ht hff=>?_
 by_cases hlen : l.length = m.length
 ·refine Bg c_Z97 mixed (go1 @hlen ?_)
  refine dw_for (c:=0) (l:=fun i=>[(0,intsD l),(1,intsD m),(5,I i)]) l.length (fun i=>∀ (j : Nat) (x y : Int),j < i → l[j]? = some x → m[j]? = some y → x = y) 0 (fun j x y hj=>by omega) (Wk.list [] rfl rfl ?_) (fun i hi hJ=>?_) (Nat.zero_le _)
  ·repeat' (first|(conv in hold _=>simp (disch:=omega) only [go_sem])|exact trivial|exact Sub.refl _|omega)
   (repeat' apply And.intro) <;> rfl
  ·rcases at_or_end hi with ⟨x,hx,hlt⟩ | rfl
   ·obtain ⟨y,hy⟩ : ∃ y,m[i]? = some y:=⟨_,List.getElem?_eq_getElem (by omega)⟩
    have hmi : i < m.length:=by omega
    by_cases hxy : x = y
    ·subst hxy
     refine go1 (cj2 @hx @hy) ?_
     refine ⟨hlt,upto_same hx hy rfl hJ,Wk.list [] rfl rfl ?_⟩
     exact Ag trivial
    ·have hb : (x != y) = true:=by simpa using hxy
     obtain rfl : b = false:=hff (not_same hx hy hxy)
     exact go0 (cj3 @hx @hy @hb)
   ·obtain rfl : b = true:=ht (List.ext_getElem? fun j=>by
     by_cases hj : j < l.length
     ·obtain ⟨x,hx⟩ : ∃ x,l[j]? = some x:=⟨_,List.getElem?_eq_getElem hj⟩
      obtain ⟨y,hy⟩ : ∃ y,m[j]? = some y:=⟨_,List.getElem?_eq_getElem (by omega)⟩
      rw [hx,hy,hJ j x y hj hx hy]
     ·rw [List.getElem?_eq_none (by omega),List.getElem?_eq_none (by omega)])
    exact go0 trivial
 ·obtain rfl : b = false:=hff (fun h=>hlen (by rw [h]))
  have hb : ((l.length : Int) != (m.length : Int)) = true:=by
   rw [bne_iff_ne]
   intro h
   exact hlen (by omega)
  exact Bg c_Z97 mixed (go0 @hb)
theorem equalSteps_same (S : List (Int × List Int)) (hl : S.length ≤ 20000000) (hS : ∀ s,s ∈ S → s.2.length < 2000000) : Does Tryz.prog 23 [] [.sl 2 (S.map stE),.sl 2 (S.map stE)] (Bo true) []:=by
 have hlm : (S.map stE).length = S.length:=List.length_map ..
 have hat : ∀ (i : Nat) (s : Int × List Int),S[i]? = some s → (S.map stE)[i]? = some (.agg [I s.1,.sl 1 (s.2.map I)]):=fun i s hs=>by rw [List.getElem?_map,hs]; rfl
 generalize S.map stE = ds at *
 refine Bg c_Z77 mixed (go1 @hlm ?_)
 refine dw_for (c:=0) (l:=fun i=>[(0,.sl 2 ds),(1,.sl 2 ds),(5,I i)]) S.length (fun _=>True) 0 trivial (Wk.list [] rfl rfl ?_) (fun i hi _=>?_) (Nat.zero_le _)
 ·repeat' (first|(conv in hold _=>simp (disch:=omega) only [go_sem])|exact trivial|exact Sub.refl _|omega)
  (repeat' apply And.intro) <;> rfl
 ·rcases at_or_end hi with ⟨s,hs,hlt⟩ | rfl
  ·have hd:=hat i s hs
   have h1:=eqIntsP_ok s.2 (hS s (List.mem_of_getElem? hs))
   unfold intsD at h1
   refine go1 (cj2 @hd @hlm) ?_
   refine Uc trivial (h1) (go1 trivial ?_)
   refine ⟨hlt,trivial,Wk.list [] rfl rfl ?_⟩
   exact Ag trivial
  ·exact go0 @hlm
end Go.Proofs.YtgpdmgaemhelgaaGreat
set_option maxHeartbeats 4000000
set_option maxRecDepth 100000
set_option linter.unusedVariables false
set_option linter.unusedSimpArgs false
namespace Go.Proofs.YtgpdmgaemhelgaaGreat
open Go.RowKit
theorem someStep_ok {bs : List Nat} (hs : Src bs) (q : Nat) (hq : q < 500000000) (p : Pl) (hp : psz p ≤ 1048576) (ws : List Int) (hl : ws.length ≤ 1048576) : ∃ (r : Int) (l : List Int) (q' : Nat),Does Tryz.prog 50 [rdD bs q] [.ref 1000000 0,pD p,intsD ws] (stD r l) [rdD bs q'] ∧ l.length ≤ 8 ∧ (0 ≤ r ∧ r ≤ 12) ∧ q ≤ q' ∧ q' ≤ q + 20:=by
 have h1:=StepsFor_ok p hp ws hl
 have hmem:=fun s (h : s ∈ stpO ws p)=>stpO_mem h
 have hln:=stpO_len (ws:=ws) hp
 generalize stpO ws p = S at *
 obtain ⟨v,hv,v0,v1,_⟩:=pick_ok hs q (by omega) 5 (by omega)
 have hv4:=v1 (by omega)
 have hsl : ∀ q2 : Nat,q ≤ q2 → q2 ≤ q + 2 → ∃ (r : Int) (l : List Int) (q' : Nat),(∃ k : Int,r = k ∧ (Does Tryz.prog 65 [rdD bs q2] [.ref 1000000 0,I 13] (I k) [rdD bs (q2 + 1)]) ∧ Does Tryz.prog 83 [rdD bs (q2 + 1)] [.ref 1000000 0] (intsD l) [rdD bs q'] ∧ 0 ≤ k ∧ k ≤ 12) ∧ l.length ≤ 8 ∧ q ≤ q' ∧ q' ≤ q + 20:=by
  intro q2 h2 h3
  obtain ⟨k,hk,k0,k1,_⟩:=pick_ok hs q2 (by omega) 13 (by omega)
  have k1:=k1 (by omega)
  obtain ⟨l,q',hl',hll,hq1,hq2⟩:=somePath_ok hs (q2 + 1) (by omega)
  exact ⟨k,l,q',⟨k,rfl,hk,hl',k0,by omega⟩,by omega,by omega,by omega⟩
 by_cases hS : S.length = 0
 ·have hS0 : S = []:=List.length_eq_zero_iff.1 hS
  subst hS0
  obtain ⟨r,l,q',⟨k,rfl,hk,hl',k0,k1⟩,hll,hq0,hq1⟩:=hsl q (by omega) (by omega)
  refine ⟨r,l,q',?_,hll,⟨k0,k1⟩,hq0,hq1⟩
  unfold stD
  refine Bk c_Z128 mixed 1 (go1 trivial ?_)
  refine c_doesE (h1) ?_ ?_ ?_
  ·((try (conv=>rhs;simp (disch:=omega) only [go_sem,List.map_nil,List.length_nil])); try rfl)
  ·first|rfl|(conv=>lhs;simp only [go_sem,List.map_nil,List.length_nil])
  repeat' (first|with_reducible refine acc_none ?_ | (conv in hold _=>simp (disch:=omega) only [go_sem,List.map_nil,List.length_nil])|refine Stp.go ?_|(with_reducible first|refine it_pos rfl ?_|refine it_neg (by decide) ?_|refine st_nil rfl ?_|refine s_op ?_ ?_|exact trivial)|((with_reducible first|refine dw_reg0 ?_|refine dw_regB ?_);(conv=>arg 3;whnf))|(refine Spl.go (fun hq he=>?_) (fun hq he=>?_)<;>first|(exfalso;clear hq;omega)|((try first|(conv=>arg 8;simp only [hq])|(conv=>arg 4;simp only [hq]));clear hq))|((with_reducible first|refine c_split (fun hq=>?_) (fun hq=>?_)|refine q_split (fun hq=>?_) (fun hq=>?_))<;>(try first|(conv=>arg 8;simp only [hq])|(conv=>arg 4;simp only [hq])))|(with_reducible refine fin_0 ?_ (by first|rfl|(conv=>lhs;simp only [go_sem,List.map_nil,List.length_nil])) ?_)|exact Sub.refl _|omega)
  refine UcR [1000000] trivial (hk) (go1 trivial ?_)
  refine UcR [1000000] trivial (hl') (go1 trivial ?_)
  refine fin_L [1000000] ?_ ?_ rfl ?_
  all_goals exact Ag trivial
 ·by_cases hv0 : v = 0
  ·subst hv0
   obtain ⟨r,l,q',⟨k,rfl,hk,hl',k0,k1⟩,hll,hq0,hq1⟩:=hsl (q + 1) (by omega) (by omega)
   refine ⟨r,l,q',?_,hll,⟨k0,k1⟩,hq0,hq1⟩
   unfold stD
   refine Bk c_Z128 mixed 1 (go1 trivial ?_)
   refine Uc trivial (h1) (go1 trivial ?_)
   refine UcR [1000000] trivial (hv) (go1 trivial ?_)
   refine UcR [1000000] trivial (hk) (go1 trivial ?_)
   refine UcR [1000000] trivial (hl') (go1 trivial ?_)
   refine fin_L [1000000] ?_ ?_ rfl ?_
   all_goals exact Ag trivial
  ·obtain ⟨j,hj,j0,j1,_⟩:=pick_ok hs (q + 1) (by omega) S.length (by omega)
   have j1:=j1 (by omega)
   obtain ⟨n,rfl⟩:=Int.eq_ofNat_of_zero_le j0
   obtain ⟨s,hsn⟩ : ∃ s,S[n]? = some s:=⟨_,List.getElem?_eq_getElem (by omega)⟩
   have hm:=hmem s (List.mem_of_getElem? hsn)
   refine ⟨s.1,s.2,q + 2,?_,hm.1,by omega,by omega,by omega⟩
   have hdat : (S.map stE)[n]? = some (.agg [I s.1,.sl 1 (s.2.map I)]):=by rw [List.getElem?_map,hsn]; rfl
   have hn : n < S.length:=(List.getElem?_eq_some_iff.1 hsn).1
   have htl0:=take_all I s.2
   have hll : (s.2.map I).length = s.2.length:=List.length_map ..
   have hln2 : (S.map stE).length = S.length:=List.length_map ..
   unfold stD
   generalize S.map stE = ds at *
   refine Bk c_Z128 mixed 1 (go1 trivial ?_)
   refine Uc @hln2 (h1) (go1 @hln2 ?_)
   refine UcR [1000000] @hln2 (hv) (go1 @hln2 ?_)
   refine c_doesR [1000000] (hj) (callOK_of rfl (Nat.le_of_ble_eq_true rfl) rfl ?_ ?_) ?_ ?_
   ·repeat' (first|(conv in hold _=>simp (disch:=omega) only [go_sem,hln2,hdat])|exact trivial|exact Sub.refl _|omega)
   ·repeat' (first|(conv in hold _=>simp (disch:=omega) only [go_sem,hln2,hdat])|exact trivial|exact Sub.refl _|omega)
   ·((conv=>rhs;simp (disch:=omega) only [go_sem,hln2,hdat]); try rfl)
   repeat' ((fail_if_success (with_reducible first | refine s_mkb ?_ | refine s_mkd ?_)); first | with_reducible refine acc_none ?_ | (conv in hold _=>simp (disch:=omega) only [go_sem,hln2,hdat])|refine Stp.go ?_|(with_reducible first|refine it_pos rfl ?_|refine it_neg (by decide) ?_|refine st_nil rfl ?_|refine s_op ?_ ?_|exact trivial)|((with_reducible first|refine dw_reg0 ?_|refine dw_regB ?_);(conv=>arg 3;whnf))|(refine Spl.go (fun hq he=>?_) (fun hq he=>?_)<;>first|(exfalso;clear hq;omega)|((try first|(conv=>arg 8;simp only [hq])|(conv=>arg 4;simp only [hq]));clear hq))|((with_reducible first|refine c_split (fun hq=>?_) (fun hq=>?_)|refine q_split (fun hq=>?_) (fun hq=>?_))<;>(try first|(conv=>arg 8;simp only [hq])|(conv=>arg 4;simp only [hq])))|(with_reducible refine fin_0 ?_ (by first|rfl|(conv=>lhs;simp only [go_sem,hln2,hdat])) ?_)|exact Sub.refl _|omega)
   refine s_pre (pre_frz (t:=32) (g:=2000032) (by decide) (by decide) rfl ?_) ?_
   rotate_left
   refine go1 (cj2 @htl0 @hll) ?_
   ·refine fin_L [1000000] ?_ ?_ rfl ?_
    all_goals exact Ag @intsD.eq_1
   ·exact ints_pur _
theorem DrawApplyStep_ok (cs : List Nat) (hc : ∀ b,b ∈ cs → b < 256) : ∃ (p : Pl) (ws : List Int) (r : Int) (l : List Int),Does Tryz.prog 15 [] [bytesD cs] (.tup [pD p,intsD ws,stD r l]) [] ∧ psz p ≤ 11100 ∧ (2 ≤ ws.length ∧ ws.length ≤ 3) ∧ l.length ≤ 8 ∧ (0 ≤ r ∧ r ≤ 12):=by
 have hs : Src (cs.take 2000):=⟨fun b hb=>hc b (List.mem_of_mem_take hb),by rw [List.length_take]; omega⟩
 have hr:=newReader_ok cs
 obtain ⟨p,ws,q,hp,hwl,_,hz,hq0,hq1⟩:=planAndWidths_ok hs 0 (by decide)
 obtain ⟨r,l,q2,hst,hll,hr12,_,_⟩:=someStep_ok hs q (by omega) p (by omega) ws (by omega)
 refine ⟨p,ws,r,l,?_,hz,hwl,hll,hr12⟩
 unfold stD at hst ⊢
 refine Bg c_Z32 mixed (go1 trivial ?_)
 refine UcR [3000001] trivial (hr) (go1 trivial ?_)
 refine UcR [3000001] trivial (hp) (go1 trivial ?_)
 exact UcR [3000001] trivial (hst) (go0 trivial)
end Go.Proofs.YtgpdmgaemhelgaaGreat
