/-
  The width of a plan out of those of its kids, in the program. No condition.
-/
import Derived.Test.YtgpdmgaemhelgaaGreatJSDcVWid
import Derived.Test.YtgpdmgaemhelgaaGreatKSDca
import Derived.Test.YtgpdmgaemhelgaaGreatJSVOutA
import Derived.Test.YtgpdmgaemhelgaaGreatJSVColsC
import Derived.Test.YtgpdmgaemhelgaaGreatJSVFrzB
import Derived.Test.YtgpdmgaemhelgaaGreatJSVGo
import Derived.Test.YtgpdmgaemhelgaaGreatKSDcb
set_option maxHeartbeats 4000000
set_option maxRecDepth 100000
namespace Go.Proofs.YtgpdmgaemhelgaaGreat
open Go.RowKit
def zeroIn (ns : List Int) : Prop:=∃ j : Nat,ns[j]? = some (0 : Int)
noncomputable instance zeroDec (ns : List Int) : Decidable (zeroIn ns):=Classical.propDecidable _
noncomputable instance resDec (p : Pl) (ns : List Int) : Decidable (fieldsI p ∧ fitsV p ns):=Classical.propDecidable _
noncomputable def resV (p : Pl) (ns : List Int) : Int:=if zeroIn ns then 0 else if fieldsI p ∧ fitsV p ns then fromV p ns else 0
theorem resV_z {p : Pl} {ns : List Int} (h : zeroIn ns) : resV p ns = 0:=if_pos h
theorem resV_t {p : Pl} {ns : List Int} (h : ¬ zeroIn ns) (h1 : fieldsI p) (h2 : fitsV p ns) : resV p ns = fromV p ns:=by unfold resV; rw [if_neg h,if_pos ⟨h1,h2⟩]
theorem resV_f {p : Pl} {ns : List Int} (h2 : ¬ (fieldsI p ∧ fitsV p ns)) : resV p ns = 0:=by
 unfold resV
 by_cases hz : zeroIn ns
 ·rw [if_pos hz]
 ·rw [if_neg hz,if_neg h2]
theorem widthWithin_main (p : Pl) (ws : List Int) (d : Nat) (hd : d < 1000) (hf : fieldsI p) (hk : ¬ p.k = 1) (hc : p.cs.length ≤ 1048576) (he : p.es.length ≤ 1048576) (ns : List Int) (hl : ns.length = p.ks.length) (hn : ∀ (j : Nat) (x : Int),ns[j]? = some x → 0 ≤ x ∧ x ≤ 6)
  (hB : ∀ (i : Nat) (x : Pl) (n : Int),p.ks[i]? = some x → ns[i]? = some n → Does Tryz.prog 56 [] [pD x,intsD ws,I ((d : Int) - 1)] (I n) []) : Does Tryz.prog 56 [] [pD p,intsD ws,I d] (I (resV p ns)) []:=by
 have ho:=hasOwnFields_ok p
 rw [decide_eq_true hf] at ho
 have hf1:=hf.1
 have hks : 1 ≤ p.ks.length ∧ p.ks.length ≤ 2:=by unfold fields at hf1; omega
 have hk6 : p.k = 6 → 1 < ns.length:=by unfold fields at hf1; omega
 have hfit:=fitsKids_ok p ns (by omega) hc he hn (by omega) hk6
 have hfrom:=widthFrom_ok p ns (by omega) hc hn (by omega)
 refine Bg c_Z60 mixed (go1 trivial ?_)
 refine Uc trivial (ho) (go1 trivial ?_)
 refine dw_for (c:=2) (l:=fun i=>[(1,intsD ws),(2,I d),(3,.ref 1000000 0),(7,.own 1000001 1 i),(37,.sl 5 (p.ks.map pD)),(38,I p.ks.length),(39,I i),(1000000,.obj [I p.k,I p.t,.sl 5 (p.es.map eD),intsD p.cs,.sl 5 (p.ks.map pD)]),(1000001,.row 1 ((ns.take i).map I))]) p.ks.length (fun i=>∀ (j : Nat) (n : Int),j < i → ns[j]? = some n → ¬ n = 0) 0 (fun j n hj=>by omega) ((wk_row 7 2000053 1 (by decide) (by decide) rfl rfl).trans (Wk.list [2000003,2000053] rfl rfl ?_)) (fun i hi hJ=>?_) (Nat.zero_le _)
 ·repeat' (first|(conv in hold _=>simp (disch:=omega) only [go_sem])|exact trivial|exact Sub.refl _|omega)
  exact rfl
 ·have hlt:=take_len (vs:=ns) (i:=i) (by omega)
  have hmt:=take_map I (vs:=ns) (i:=i) (by omega)
  by_cases hil : i < p.ks.length
  ·obtain ⟨x,hx⟩ : ∃ x,p.ks[i]? = some x:=⟨_,List.getElem?_eq_getElem hil⟩
   obtain ⟨n,hnx,_⟩:=get_ex (ns:=ns) (i:=i) (by omega)
   have hix:=hB i x n hx hnx
   have htn:=take_next hnx
   by_cases hn0 : n = 0
   ·rw [resV_z ⟨i,by rw [hnx,hn0]⟩]
    refine go1 @hx ?_
    exact Uc trivial (hix) (go0 trivial)
   ·refine go1 @hx ?_
    refine Uc trivial (hix) (go1 trivial ?_)
    refine ⟨hil,upto1 (P:=fun _ n=>¬ n = 0) hnx hn0 hJ,Wk.list [1000000,2000053] rfl rfl ?_⟩
    repeat' (first|(conv in hold _=>simp (disch:=omega) only [go_sem])|exact trivial|exact Sub.refl _|omega)
    rw [hmt,htn,List.map_append,List.map_cons,List.map_nil]
  ·obtain rfl : i = p.ks.length:=by omega
   have hz : ¬ zeroIn ns:=fun ⟨j,hj⟩=>hJ j 0 (by rw [← hl]; exact (List.getElem?_eq_some_iff.1 hj).1) hj rfl
   have e1 : ns.take p.ks.length = ns:=List.take_of_length_le (by omega)
   have e2 : (ns.map I).take p.ks.length = ns.map I:=List.take_of_length_le (by rw [List.length_map]; omega)
   by_cases hv : fitsV p ns
   ·rw [decide_eq_true hv] at hfit
    rw [resV_t hz hf hv]
    refine go1C @e1 ?_
    refine s_pre (pre_frz2 (t:=56) (u:=7) (g:=1000001) (by decide) (by decide) (by decide) rfl ?_) ?_
    rotate_left
    refine go1 (cj3 @e1 @e2 @hl) ?_
    ·refine Uc trivial (hfit) (go1 trivial ?_)
     exact Uc trivial (hfrom) (go0 trivial)
    ·exact ints_pur _
   ·rw [decide_eq_false hv] at hfit
    rw [resV_f (fun h=>hv h.2)]
    refine go1C @e1 ?_
    refine s_pre (pre_frz2 (t:=56) (u:=7) (g:=1000001) (by decide) (by decide) (by decide) rfl ?_) ?_
    rotate_left
    refine go1 (cj3 @e1 @e2 @hl) ?_
    ·exact Uc trivial (hfit) (go0 trivial)
    ·exact ints_pur _
end Go.Proofs.YtgpdmgaemhelgaaGreat
set_option maxHeartbeats 4000000
set_option maxRecDepth 100000
namespace Go.Proofs.YtgpdmgaemhelgaaGreat
open Go.RowKit
def tsJ (g : Int → Int → Int) (x : Int) (r y : Int) : Int:=intBit .or .i64 r (sT (g x y))
def tsK (g : Int → Int → Int) (b : Int) (r x : Int) : Int:=(tl b).foldl (tsJ g x) r
def tsI (g : Int → Int → Int) (a b : Int) : Int:=(tl a).foldl (tsK g b) 0
theorem truthStates_impl (a b : Int) {f : FuncId} (hf : enters Tryz.prog f = true) (g : Int → Int → Int) (hg : ∀ x y,(0 ≤ x ∧ x ≤ 2) → (0 ≤ y ∧ y ≤ 2) → Does Tryz.prog f [] [I x,I y] (I (g x y)) []) : Does Tryz.prog 196 [] [I a,I b,.fn f []] (I (tsI g a b)) []:=by
 have h1:=truthsOf_ok a
 have h2:=truthsOf_ok b
 have hl1:=tl_len a
 have hl2:=tl_len b
 refine Bg c_Z55 mixed (go1 trivial ?_)
 refine Uc trivial (h1) (go1 trivial ?_)
 refine dw_for (c:=0) (l:=fun i=>[(1,I b),(2,.fn f []),(7,I (((tl a).take i).foldl (tsK g b) 0)),(13,.sl 1 ((tl a).map I)),(14,I (tl a).length),(15,I i)]) (tl a).length (fun _=>True) 0 trivial (Wk.list [] rfl rfl ?_) (fun i hi _=>?_) (Nat.zero_le _)
 ·repeat' (first|(conv in hold _=>simp (disch:=omega) only [go_sem])|exact trivial|exact Sub.refl _|omega)
  exact ⟨rfl,rfl⟩
 ·rcases at_or_end hi with ⟨x,hx,hlt⟩ | rfl
  ·have hnx:=foldl_next (f:=tsK g b) (z:=(0 : Int)) hx
   refine go1 @hx ?_
   refine Uc trivial (h2) (go1 trivial ?_)
   refine dw_for (c:=0) (l:=fun j=>[(1,I b),(2,.fn f []),(7,I (((tl b).take j).foldl (tsJ g x) (((tl a).take i).foldl (tsK g b) 0))),(9,I x),(13,.sl 1 ((tl a).map I)),(14,I (tl a).length),(15,I i),(20,.sl 1 ((tl b).map I)),(21,I (tl b).length),(22,I j)]) (tl b).length (fun _=>True) 0 trivial (Wk.list [] rfl rfl ?_) (fun j hj _=>?_) (Nat.zero_le _)
   ·repeat' (first|(conv in hold _=>simp (disch:=omega) only [go_sem])|exact trivial|exact Sub.refl _|omega)
    exact ⟨rfl,rfl⟩
   ·rcases at_or_end hj with ⟨y,hy,hltj⟩ | rfl
    ·have hny:=foldl_next (f:=tsJ g x) (z:=((tl a).take i).foldl (tsK g b) 0) hy
     have hgx:=hg x y (tl_mem (List.mem_of_getElem? hx)) (tl_mem (List.mem_of_getElem? hy))
     have hv:=truth_value_ok (g x y)
     have hs:=stateOf_impl (itv (g x y))
     refine go1 @hy ?_
     refine v_fn (hf) ?_
     refine Uc trivial (hgx) (go1 trivial ?_)
     refine Uc trivial (hv) (go1 trivial ?_)
     refine Uc trivial (hs) (go1 trivial ?_)
     refine ⟨hltj,trivial,Wk.list [] rfl rfl ?_⟩
     repeat' (first|(conv in hold _=>simp (disch:=omega) only [go_sem,hny])|exact trivial|exact Sub.refl _|omega)
     rfl
    ·have e1 : (tl b).take (tl b).length = tl b:=List.take_length
     refine go1 @e1 ?_
     refine ⟨hlt,trivial,Wk.list [] rfl rfl ?_⟩
     repeat' (first|(conv in hold _=>simp (disch:=omega) only [go_sem,hnx])|exact trivial|exact Sub.refl _|omega)
     rfl
  ·have e1 : (tl a).take (tl a).length = tl a:=List.take_length
   exact go0 @e1
def pw : Nat → Int
 | 0=>1
 | n + 1=>2 * pw n
def stepS (k a b x y r : Int) : Int:=if (a.tdiv x).tmod 2 = 1 ∧ (b.tdiv y).tmod 2 = 1 then intBit .or .i64 r (stV (comb k (valS x) (valS y))) else r
def inn (k a b x r : Int) : Nat → Int
 | 0=>r
 | j + 1=>stepS k a b x (pw j) (inn k a b x r j)
def outS (k a b : Int) : Nat → Int
 | 0=>0
 | i + 1=>inn k a b (pw i) (outS k a b i) 3
def tsS (k a b : Int) : Int:=outS k a b 3
theorem pw_at {i : Nat} (h : i < 3) : pw i = 1 ∨ pw i = 2 ∨ pw i = 4:=by
 match i,h with
 | 0,_=>exact Or.inl rfl
 | 1,_=>exact Or.inr (Or.inl rfl)
 | 2,_=>exact Or.inr (Or.inr rfl)
theorem pw_next (i : Nat) : pw (i + 1) = 2 * pw i:=rfl
theorem valS_ok (x : Int) : (valS x).ok:=by
 unfold valS
 split
 ·exact ⟨by decide,by decide,fun _=>rfl⟩
 ·split
  ·exact ⟨by decide,by decide,fun h=>by cases h⟩
  ·exact ⟨by decide,by decide,fun h=>by cases h⟩
theorem div_range {a x : Int} (ha : 0 ≤ a ∧ a ≤ 7) (hx : x = 1 ∨ x = 2 ∨ x = 4) : 0 ≤ a.tdiv x ∧ a.tdiv x ≤ 7:=by
 rw [Int.tdiv_eq_ediv_of_nonneg ha.1]
 rcases hx with rfl | rfl | rfl <;> omega
theorem truthStates_spec (k a b : Int) (ha : 0 ≤ a ∧ a ≤ 7) (hb : 0 ≤ b ∧ b ≤ 7) : Does Tryz.prog 203 [] [I k,I a,I b] (I (tsS k a b)) []:=by
 refine Bg c_Z62 mixed (go1 trivial ?_)
 refine dw_for (c:=0) (l:=fun i=>[(0,I k),(1,I a),(2,I b),(7,I (outS k a b i)),(8,I (pw i))]) 3 (fun _=>True) 0 trivial (Wk.list [] rfl rfl ?_) (fun i hi _=>?_) (Nat.zero_le _)
 ·repeat' (first|(conv in hold _=>simp (disch:=omega) only [go_sem])|exact trivial|exact Sub.refl _|omega)
  exact ⟨rfl,rfl⟩
 ·by_cases hil : i < 3
  ·have hp:=pw_at hil
   have hda:=div_range ha hp
   refine go1 trivial ?_
   refine dw_for (c:=0) (l:=fun j=>[(0,I k),(1,I a),(2,I b),(7,I (inn k a b (pw i) (outS k a b i) j)),(8,I (pw i)),(9,I (pw j))]) 3 (fun _=>True) 0 trivial (Wk.list [] rfl rfl ?_) (fun j hj _=>?_) (Nat.zero_le _)
   ·repeat' (first|(conv in hold _=>simp (disch:=omega) only [go_sem])|exact trivial|exact Sub.refl _|omega)
    exact ⟨rfl,rfl⟩
   ·by_cases hjl : j < 3
    ·have hq:=pw_at hjl
     have hdb:=div_range hb hq
     have h1:=valueOf_ok (pw i)
     have h2:=valueOf_ok (pw j)
     have h3:=combine_ok k _ _ (valS_ok (pw i)) (valS_ok (pw j))
     have h4:=stateOf_spec (comb k (valS (pw i)) (valS (pw j)))
     by_cases hc : (a.tdiv (pw i)).tmod 2 = 1 ∧ (b.tdiv (pw j)).tmod 2 = 1
     ·have hst : inn k a b (pw i) (outS k a b i) (j + 1) = intBit .or .i64 (inn k a b (pw i) (outS k a b i) j) (stV (comb k (valS (pw i)) (valS (pw j)))):=if_pos hc
      refine go1 trivial ?_
      refine Uc trivial (h1) (go1 trivial ?_)
      refine Uc trivial (h2) (go1 trivial ?_)
      refine Uc trivial (h3) (go1 trivial ?_)
      refine Uc trivial (h4) (go1 trivial ?_)
      refine ⟨hjl,trivial,Wk.list [] rfl rfl ?_⟩
      exact Ag (cj2 @hst @pw_next)
     ·have hst : inn k a b (pw i) (outS k a b i) (j + 1) = inn k a b (pw i) (outS k a b i) j:=if_neg hc
      repeat' (first|with_reducible refine acc_none ?_ | (conv in hold _=>simp (disch:=omega) only [go_sem])|refine Stp.go ?_|(with_reducible first|refine it_pos rfl ?_|refine it_neg (by decide) ?_|refine st_nil rfl ?_|refine s_op ?_ ?_|exact trivial)|((with_reducible first|refine dw_reg0 ?_|refine dw_regB ?_);(conv=>arg 3;whnf))|(refine Spl.go (fun hq he=>?_) (fun hq he=>?_)<;>first|(exfalso;clear hq;omega)|((try first|(conv=>arg 8;simp only [hq])|(conv=>arg 4;simp only [hq]));clear hq))|((with_reducible first|refine c_split (fun hq=>?_) (fun hq=>?_)|refine q_split (fun hq=>?_) (fun hq=>?_))<;>(try first|(conv=>arg 8;simp only [hq])|(conv=>arg 4;simp only [hq])))|(with_reducible refine fin_0 ?_ (by first|rfl|(conv=>lhs;simp only [go_sem])) ?_)|exact Sub.refl _|omega)
      all_goals refine ⟨hjl,trivial,Wk.list [] rfl rfl ?_⟩
      all_goals
       exact Ag (cj2 @hst @pw_next)
    ·obtain rfl : j = 3:=by omega
     have h8 : pw 3 = 8:=rfl
     refine go1 @h8 ?_
     refine ⟨hil,trivial,Wk.list [] rfl rfl ?_⟩
     repeat' (first|(conv in hold _=>simp (disch:=omega) only [go_sem,pw_next])|exact trivial|exact Sub.refl _|omega)
     rfl
  ·obtain rfl : i = 3:=by omega
   have h8 : pw 3 = 8:=rfl
   exact go0 @h8
end Go.Proofs.YtgpdmgaemhelgaaGreat
