/-
 CompactFunc of the library over rows that are equal; the distinct rows of the program. No condition.
-/
import Derived.Test.YtepkimfmncedcaaGreatKSDca
import Derived.Test.YtepkimfmncedcaaGreatKSDcj
import Derived.Test.YtepkimfmncedcaaGreatJSVPlanO
import Derived.Test.YtepkimfmncedcaaGreatJSVDrawTb
import Derived.Test.YtepkimfmncedcaaGreatJSVTbI
import Derived.Test.YtepkimfmncedcaaGreatJSVPiC
import Derived.Test.YtepkimfmncedcaaGreatJSVGo
set_option maxHeartbeats 4000000
set_option maxRecDepth 100000
set_option linter.unusedVariables false
set_option linter.unusedSimpArgs false
namespace Go.Proofs.YtepkimfmncedcaaGreat
open Go.RowKit
theorem equalV_ok (a b : List V) (ha : a.length ≤ 1048576) (hl : a.length = b.length) : Does Tryz.prog 49 [] [rowD a,rowD b] (Bo (decide (a = b))) []:=by
 have e0 : ((a.length : Int) != (b.length : Int)) = false:=by rw [bne_eq_false_iff_eq]; omega
 refine Bg c_Z12 mixed (go1 @e0 ?_)
 refine dw_for (c:=0) (l:=fun i=>[(0,rowD a),(1,rowD b),(11,rowD a),(12,I a.length),(13,I i)]) a.length (fun i=>∀ (j : Nat) (x : V),j < i → a[j]? = some x → b[j]? = some x) 0 (by omega) (Wk.list [] rfl rfl ?_) (fun i hi hJ=>?_) (Nat.zero_le _)
 ·repeat' (first|(conv in hold _=>simp (disch:=omega) only [go_sem])|exact trivial|exact Sub.refl _|omega)
  exact rfl
 ·rcases at_or_end hi with ⟨x,hx,hlt⟩ | rfl
  ·obtain ⟨y,hy⟩ : ∃ y,b[i]? = some y:=⟨_,List.getElem?_eq_getElem (by omega)⟩
   by_cases hxy : x = y
   ·subst hxy
    refine go1 (cj4 @hx @hy @Bool.and_self @Bool.not_true) ?_
    refine ⟨hlt,fun j z hj hz=>?_,Wk.list [] rfl rfl ?_⟩
    ·by_cases e : j = i
     ·subst e
      rw [hx] at hz
      cases hz
      exact hy
     ·exact hJ j z (by omega) hz
    ·repeat' (first|(conv in hold _=>simp (disch:=omega) only [go_sem])|exact trivial|exact Sub.refl _|omega)
   ·have hne : (x.b == y.b && x.n == y.n) = false:=by
     rw [Bool.eq_false_iff,ne_eq,Bool.and_eq_true,beq_iff_eq,beq_iff_eq]
     intro h
     refine hxy ?_
     cases x
     cases y
     simp only at h
     rw [h.1,h.2]
    refine go1 (cj4 @hx @hy @hne @Bool.not_false) ?_
    exact sub_f (fun e=>by
     rw [e,hy] at hx
     exact hxy (by simpa using hx.symm))
  ·refine go1 trivial ?_
   exact sub_t (List.ext_getElem? (fun j=>by
    by_cases hj : j < a.length
    ·have hx:=List.getElem?_eq_getElem hj
     rw [hJ j _ hj hx,hx]
    ·rw [List.getElem?_eq_none (by omega),List.getElem?_eq_none (by omega)]))
def dup (rs : List (List V)) (j : Nat) : Prop:=rs.getD j [] = rs.getD (j + 1) []
noncomputable instance dupDec (rs : List (List V)) (j : Nat) : Decidable (dup rs j):=Classical.propDecidable _
theorem dstP_dup {rs : List (List V)} {j : Nat} (h : dup rs j) : dstP rs (j + 1) = false:=by
 show (!(cmpR (rs.getD j []) (rs.getD (j + 1) []) == 0)) = false
 rw [show rs.getD j [] = rs.getD (j + 1) [] from h,cmpR_self]
 rfl
theorem dstP_ne {rs : List (List V)} {j : Nat} (h : ¬ dup rs j) : dstP rs (j + 1) = true:=by
 show (!(cmpR (rs.getD j []) (rs.getD (j + 1) []) == 0)) = true
 rw [Bool.not_eq_true',beq_eq_false_iff_ne]
 exact fun h0=>h (cmpR_eq h0)
theorem dst_dup {rs : List (List V)} {j : Nat} (h : dup rs j) : dstL rs (j + 1 + 1) = dstL rs (j + 1):=by
 rw [dstL,dstP_dup h,if_neg (by decide),List.append_nil]
theorem dst_ne {rs : List (List V)} {j : Nat} (h : ¬ dup rs j) : dstL rs (j + 1 + 1) = dstL rs (j + 1) ++ [rs.getD (j + 1) []]:=by
 rw [dstL,dstP_ne h,if_pos rfl]
theorem dst_pre {rs : List (List V)} : ∀ k,k ≤ rs.length → (∀ j,j + 1 < k → ¬ dup rs j) → dstL rs k = rs.take k
 | 0,_,_=>by rw [List.take_zero]; rfl
 | k + 1,hk,h=>by
  have ih:=dst_pre k (by omega) (fun j hj=>h j (by omega))
  obtain ⟨x,hx⟩ : ∃ x,rs[k]? = some x:=⟨_,List.getElem?_eq_getElem (by omega)⟩
  have hg : rs.getD k [] = x:=by rw [List.getD_eq_getElem?_getD,hx]; rfl
  rw [take_next hx]
  cases k with
  | zero=>rw [dstL,hg]; rfl
  | succ j=>rw [dst_ne (h j (by omega)),ih,hg]
noncomputable def cpS (rs : List (List V)) (k : Nat) : Nat → List (List V) × Nat
 | 0=>(rs,k + 1)
 | i + 1=>if dup rs (k + i + 1) then cpS rs k i else ((cpS rs k i).1.set (cpS rs k i).2 (rs.getD (k + i + 1 + 1) []),(cpS rs k i).2 + 1)
structure CpI (rs : List (List V)) (k i : Nat) (s : List (List V) × Nat) : Prop where
 len : s.1.length = rs.length
 lo : k + 1 ≤ s.2
 hi : s.2 ≤ k + i + 1
 out : s.1.take s.2 = dstL rs (k + i + 1 + 1)
 rest : ∀ j,k + i + 1 ≤ j → s.1[j]? = rs[j]?
theorem cpS_ok {rs : List (List V)} {k : Nat} (hd : dup rs k) (hp : ∀ j,j < k → ¬ dup rs j) : ∀ i,k + i + 1 < rs.length → CpI rs k i (cpS rs k i)
 | 0,h=>⟨rfl,Nat.le_refl _,Nat.le_refl _,by rw [Nat.add_zero,dst_dup hd,dst_pre (k + 1) (by omega) (fun j hj=>hp j (by omega))]; rfl,fun j hj=>rfl⟩
 | i + 1,h=>by
  obtain ⟨h1,h2,h3,h4,h5⟩:=cpS_ok hd hp i (by omega)
  rw [cpS]
  split
  ·rename_i hdu
   exact ⟨h1,h2,by omega,by rw [h4]; exact (dst_dup hdu).symm,fun j hj=>h5 j (by omega)⟩
  ·rename_i hdu
   refine ⟨by rw [List.length_set]; exact h1,by show k + 1 ≤ (cpS rs k i).2 + 1; omega,by show (cpS rs k i).2 + 1 ≤ _; omega,?_,fun j hj=>?_⟩
   ·show ((cpS rs k i).1.set (cpS rs k i).2 _).take ((cpS rs k i).2 + 1) = _
    have hx : ((cpS rs k i).1.set (cpS rs k i).2 (rs.getD (k + i + 1 + 1) []))[(cpS rs k i).2]? = some (rs.getD (k + i + 1 + 1) []):=by rw [List.getElem?_set_self (by omega)]
    rw [take_next hx,List.take_set_of_le (Nat.le_refl _),h4]
    exact (dst_ne hdu).symm
   ·show ((cpS rs k i).1.set (cpS rs k i).2 _)[j]? = _
    rw [List.getElem?_set_ne (by omega)]
    exact h5 j (by omega)
theorem getD_at {rs : List (List V)} {j : Nat} {x : List V} (h : rs[j]? = some x) : rs.getD j [] = x:=by rw [List.getD_eq_getElem?_getD,h]; rfl
theorem first_dup (rs : List (List V)) : ∀ n,(∀ j,j < n → ¬ dup rs j) ∨ ∃ e,e < n ∧ dup rs e ∧ ∀ j,j < e → ¬ dup rs j
 | 0=>Or.inl (fun j hj=>by omega)
 | n + 1=>by
  rcases first_dup rs n with h | ⟨e,h1,h2,h3⟩
  ·by_cases hn : dup rs n
   ·exact Or.inr ⟨n,by omega,hn,h⟩
   ·exact Or.inl (fun j hj=>by
     by_cases he : j = n
     ·rw [he]; exact hn
     ·exact h j (by omega))
  ·exact Or.inr ⟨e,by omega,h2,h3⟩
theorem cmp_pur (R S : List (List V)) (i j : Nat) : D.purL ((R.map rowD).take i ++ List.replicate j .nul ++ (S.map rowD).drop (i + (List.replicate j D.nul).length)) = true:=by
 refine D.purL_iff.2 (fun d hd=>?_)
 have hrow : ∀ T : List (List V),d ∈ T.map rowD → d.pur = true:=fun T h=>by
  obtain ⟨r,_,rfl⟩:=List.mem_map.1 h
  rfl
 rcases List.mem_append.1 hd with h | h
 ·rcases List.mem_append.1 h with h | h
  ·exact hrow R (List.mem_of_mem_take h)
  ·rw [List.eq_of_mem_replicate h]; rfl
 ·exact hrow S (List.mem_of_mem_drop h)
theorem compact_ok {w : Nat} (hw : w ≤ 1048576) (rs : List (List V)) (hl : rs.length ≤ 1000) (hr : ∀ r,r ∈ rs → r.length = w) : ∃ E : List D,
  Does Tryz.prog 48 [.row 1 (rs.map rowD)] [.own 1000000 1 rs.length,.fn 49 []] (.own 1000000 1 (dstL rs rs.length).length) [.row 1 E] ∧
   E.take (dstL rs rs.length).length = (dstL rs rs.length).map rowD ∧ (dstL rs rs.length).length ≤ E.length ∧ D.purL E = true:=by
 have hf : enters Tryz.prog 49 = true:=by kernel_rfl
 by_cases h2 : rs.length < 2
 ·have hd : dstL rs rs.length = rs:=by rw [dst_pre rs.length (Nat.le_refl _) (fun j hj=>by omega),List.take_length]
  refine ⟨rs.map rowD,?_,?_,?_,rows_pur _⟩
  ·rw [hd]
   refine Bk c_Z1 mixed 1 (go1 trivial ?_)
   refine fin_L [1000000] ?_ ?_ rfl ?_
   repeat' (first|(conv in hold _=>simp (disch:=omega) only [go_sem])|exact trivial|exact Sub.refl _|omega)
  ·rw [hd]; exact take_all rowD rs
  ·rw [hd,List.length_map]; exact Nat.le_refl _
 ·rcases first_dup rs (rs.length - 1) with hall | ⟨k,hk,hdk,hpk⟩
  ·have hd : dstL rs rs.length = rs:=by rw [dst_pre rs.length (Nat.le_refl _) (fun j hj=>hall j (by omega)),List.take_length]
   refine ⟨rs.map rowD,?_,?_,?_,rows_pur _⟩
   ·rw [hd]
    refine Bk c_Z1 mixed 1 (go1 trivial ?_)
    refine dw_for (c:=1) (l:=fun i=>[(0,.own 1000000 1 rs.length),(1,.fn 49 []),(4,.nul),(5,I ((i : Int) + 1)),(1000000,.row 1 (rs.map rowD))]) (rs.length - 1) (fun _=>True) 0 trivial (Wk.list [1000000] rfl rfl ?_) (fun i hi _=>?_) (Nat.zero_le _)
    ·repeat' (first|(conv in hold _=>simp (disch:=omega) only [go_sem])|exact trivial|exact Sub.refl _|omega)
     first | exact rfl | exact ⟨rfl,rfl⟩
    ·by_cases hlt : i < rs.length - 1
     ·obtain ⟨y,hy⟩ : ∃ y,rs[i]? = some y:=⟨_,List.getElem?_eq_getElem (by omega)⟩
      obtain ⟨x,hx⟩ : ∃ x,rs[i + 1]? = some x:=⟨_,List.getElem?_eq_getElem (by omega)⟩
      have hne:=hall i hlt
      unfold dup at hne
      rw [getD_at hx,getD_at hy] at hne
      have hc:=equalV_ok x y (by rw [hr x (List.mem_of_getElem? hx)]; exact hw) (by rw [hr x (List.mem_of_getElem? hx),hr y (List.mem_of_getElem? hy)])
      rw [decide_eq_false (fun e=>hne e.symm)] at hc
      have hi1 : ((i : Int) + 1).toNat = i + 1:=by omega
      have hi0 : ((i : Int) + 1 - 1).toNat = i:=by omega
      refine go1 (cj4 @hx @hy @hi1 @hi0) ?_
      refine v_fn (hf) ?_
      refine Uc (cj4 @hx @hy @hi1 @hi0) (hc) (go1 (cj4 @hx @hy @hi1 @hi0) ?_)
      refine ⟨hlt,trivial,Wk.list [1000000] rfl rfl ?_⟩
      repeat' (first|(conv in hold _=>simp (disch:=omega) only [go_sem])|exact trivial|exact Sub.refl _|omega)
     ·obtain rfl : i = rs.length - 1:=by omega
      refine go1 trivial ?_
      refine fin_L [1000000] ?_ ?_ rfl ?_
      repeat' (first|(conv in hold _=>simp (disch:=omega) only [go_sem])|exact trivial|exact Sub.refl _|omega)
   ·rw [hd]; exact take_all rowD rs
   ·rw [hd,List.length_map]; exact Nat.le_refl _
  ·have hS:=cpS_ok hdk hpk
   have hend:=hS (rs.length - 1 - (k + 1)) (by omega)
   have hkk : k + (rs.length - 1 - (k + 1)) + 1 + 1 = rs.length:=by omega
   generalize hsE : cpS rs k (rs.length - 1 - (k + 1)) = sE at hend
   have hout:=hend.out
   rw [hkk] at hout
   have hlenE:=hend.len
   have hlo:=hend.lo
   have hhi:=hend.hi
   have hm : (dstL rs rs.length).length = sE.2:=by rw [← hout,List.length_take]; omega
   refine ⟨D.setAll (sE.1.map rowD) sE.2 (List.replicate (rs.length - sE.2) .nul),?_,?_,?_,cmp_pur _ _ _ _⟩
   ·rw [hm]
    refine Bk c_Z1 mixed 1 (go1 trivial ?_)
    refine dw_for (c:=1) (l:=fun i=>[(0,.own 1000000 1 rs.length),(1,.fn 49 []),(4,.nul),(5,I ((i : Int) + 1)),(1000000,.row 1 (rs.map rowD))]) k (fun _=>True) 0 trivial (Wk.list [1000000] rfl rfl ?_) (fun i hi _=>?_) (Nat.zero_le _)
    ·repeat' (first|(conv in hold _=>simp (disch:=omega) only [go_sem])|exact trivial|exact Sub.refl _|omega)
     first | exact rfl | exact ⟨rfl,rfl⟩
    ·obtain ⟨y,hy⟩ : ∃ y,rs[i]? = some y:=⟨_,List.getElem?_eq_getElem (by omega)⟩
     obtain ⟨x,hx⟩ : ∃ x,rs[i + 1]? = some x:=⟨_,List.getElem?_eq_getElem (by omega)⟩
     have hc:=equalV_ok x y (by rw [hr x (List.mem_of_getElem? hx)]; exact hw) (by rw [hr x (List.mem_of_getElem? hx),hr y (List.mem_of_getElem? hy)])
     have hi1 : ((i : Int) + 1).toNat = i + 1:=by omega
     have hi0 : ((i : Int) + 1 - 1).toNat = i:=by omega
     by_cases hlt : i < k
     ·have hne:=hpk i hlt
      unfold dup at hne
      rw [getD_at hx,getD_at hy] at hne
      rw [decide_eq_false (fun e=>hne e.symm)] at hc
      refine go1 (cj4 @hx @hy @hi1 @hi0) ?_
      refine v_fn (hf) ?_
      refine Uc (cj4 @hx @hy @hi1 @hi0) (hc) (go1 (cj4 @hx @hy @hi1 @hi0) ?_)
      refine ⟨hlt,trivial,Wk.list [1000000] rfl rfl ?_⟩
      repeat' (first|(conv in hold _=>simp (disch:=omega) only [go_sem])|exact trivial|exact Sub.refl _|omega)
     ·obtain rfl : i = k:=by omega
      have hdk2:=hdk
      unfold dup at hdk2
      rw [getD_at hx,getD_at hy] at hdk2
      rw [decide_eq_true hdk2.symm] at hc
      refine go1 (cj4 @hx @hy @hi1 @hi0) ?_
      refine v_fn (hf) ?_
      refine Uc (cj4 @hx @hy @hi1 @hi0) (hc) (go1 (cj4 @hx @hy @hi1 @hi0) ?_)
      refine dw_for (c:=1) (l:=fun j=>[(0,.own 1000000 1 rs.length),(1,.fn 49 []),(4,.nul),(5,I (cpS rs i j).2),(6,.owo 1000000 1 (i + 1) (rs.length - (i + 1))),(7,I ((j : Int) + 1)),(1000000,.row 1 ((cpS rs i j).1.map rowD))]) (rs.length - 1 - (i + 1)) (fun _=>True) 0 trivial (Wk.list [1000000] rfl rfl ?_) (fun j hj _=>?_) (Nat.zero_le _)
      ·repeat' (first|(conv in hold _=>simp (disch:=omega) only [go_sem])|exact trivial|exact Sub.refl _|omega)
       rw [cpS]
       (repeat' apply And.intro) <;> first | rfl | exact congrArg (fun n=>D.v (Value.int .i64 n)) (by omega)
      ·have hI:=hS j (by omega)
       have hI1:=hI.len
       have hI2:=hI.lo
       have hI3:=hI.hi
       have hI5:=hI.rest
       by_cases hjl : j < rs.length - 1 - (i + 1)
       ·obtain ⟨u,hu⟩ : ∃ u,rs[i + j + 1]? = some u:=⟨_,List.getElem?_eq_getElem (by omega)⟩
        obtain ⟨v,hv⟩ : ∃ v,rs[i + j + 1 + 1]? = some v:=⟨_,List.getElem?_eq_getElem (by omega)⟩
        have hu2 : (cpS rs i j).1[i + 1 + j]? = some u:=by rw [show i + 1 + j = i + j + 1 by omega,hI5 _ (by omega)]; exact hu
        have hv2 : (cpS rs i j).1[i + 1 + (j + 1)]? = some v:=by rw [show i + 1 + (j + 1) = i + j + 1 + 1 by omega,hI5 _ (by omega)]; exact hv
        have hc2:=equalV_ok v u (by rw [hr v (List.mem_of_getElem? hv)]; exact hw) (by rw [hr v (List.mem_of_getElem? hv),hr u (List.mem_of_getElem? hu)])
        have hj1 : ((j : Int) + 1).toNat = j + 1:=by omega
        have hj0 : ((j : Int) + 1 - 1).toNat = j:=by omega
        by_cases hdu : dup rs (i + j + 1)
        ·have hst : cpS rs i (j + 1) = cpS rs i j:=by rw [cpS,if_pos hdu]
         have hdu2:=hdu
         unfold dup at hdu2
         rw [getD_at hu,getD_at hv] at hdu2
         rw [decide_eq_true hdu2.symm] at hc2
         generalize cpS rs i j = s at *
         refine go1 (cj4 @hu2 @hv2 @hj1 @hj0) ?_
         refine v_fn (hf) ?_
         refine Uc (cj4 @hu2 @hv2 @hj1 @hj0) (hc2) (go1 (cj4 @hu2 @hv2 @hj1 @hj0) ?_)
         refine ⟨hjl,trivial,Wk.list [1000000] rfl rfl ?_⟩
         repeat' (first|(conv in hold _=>simp (disch:=omega) only [go_sem,hst])|exact trivial|exact Sub.refl _|omega)
        ·have hst : cpS rs i (j + 1) = ((cpS rs i j).1.set (cpS rs i j).2 v,(cpS rs i j).2 + 1):=by rw [cpS,if_neg hdu,getD_at hv]
         have hdu2:=hdu
         unfold dup at hdu2
         rw [getD_at hu,getD_at hv] at hdu2
         rw [decide_eq_false (fun e=>hdu2 e.symm)] at hc2
         obtain ⟨z,hz⟩ : ∃ z,(cpS rs i j).1[(cpS rs i j).2]? = some z:=⟨_,List.getElem?_eq_getElem (by omega)⟩
         have hltz : (cpS rs i j).2 < (cpS rs i j).1.length:=by omega
         generalize cpS rs i j = s at *
         refine go1 (cj4 @hu2 @hv2 @hj1 @hj0) ?_
         refine v_fn (hf) ?_
         refine Uc (cj6 @hu2 @hv2 @hj1 @hj0 @hz @hltz) (hc2) (go1 (cj6 @hu2 @hv2 @hj1 @hj0 @hz @hltz) ?_)
         refine ⟨hjl,trivial,Wk.list [1000000] rfl rfl ?_⟩
         repeat' (first|(conv in hold _=>simp (disch:=omega) only [go_sem,hst,List.map_set])|exact trivial|exact Sub.refl _|omega)
         exact congrArg (D.row 1) (by
          have h : (s.1.map rowD).set s.2 (D.sl 2 (v.map vD)) = (s.1.set s.2 v).map rowD:=(List.map_set ..).symm
          rw [h]
          exact (rows_ren [1000000] _).symm)
       ·obtain rfl : j = rs.length - 1 - (i + 1):=by omega
        rw [hsE]
        repeat' (first|with_reducible refine acc_none ?_ | (conv in hold _=>simp (disch:=omega) only [go_sem])|refine Stp.go ?_|(with_reducible first|refine it_pos rfl ?_|refine it_neg (by decide) ?_|refine st_nil rfl ?_|refine s_op ?_ ?_|exact trivial)|((with_reducible first|refine dw_reg0 ?_|refine dw_regB ?_);(conv=>arg 3;whnf))|(refine Spl.go (fun hq he=>?_) (fun hq he=>?_)<;>first|(exfalso;clear hq;omega)|((try first|(conv=>arg 8;simp only [hq])|(conv=>arg 4;simp only [hq]));clear hq))|((with_reducible first|refine c_split (fun hq=>?_) (fun hq=>?_)|refine q_split (fun hq=>?_) (fun hq=>?_))<;>(try first|(conv=>arg 8;simp only [hq])|(conv=>arg 4;simp only [hq])))|(with_reducible refine fin_0 ?_ (by first|rfl|(conv=>lhs;simp only [go_sem])) ?_)|exact Sub.refl _|omega)
        refine fin_L [1000000] ?_ ?_ rfl ?_
        repeat' (first|(conv in hold _=>simp (disch:=omega) only [go_sem])|exact trivial|exact Sub.refl _|omega)
        exact congrArg (D.row 1) (ren_pure.renL_pure [1000000] _ (cmp_pur _ _ _ _)).symm
   ·rw [hm]
    unfold D.setAll
    rw [List.append_assoc,List.take_append_of_le_length (by rw [List.length_take,List.length_map]; omega),List.take_take,Nat.min_self,← List.map_take,hout]
   ·rw [hm]
    unfold D.setAll
    rw [List.length_append,List.length_append,List.length_take,List.length_map,List.length_replicate]
    omega
theorem DistinctRows_impl_t {t : Ta} (h : tOk t) : Does Tryz.prog 20 [] [taD t] (.tup [taD ⟨t.w,dstL t.rows t.rows.length⟩,Bo true]) []:=by
 have hv:=ValidTable_impl t (tOk_sz h)
 rw [decide_eq_true h] at hv
 obtain ⟨w,hw,hw6,hr,_,hl⟩:=tOk_nat h
 have hc:=cloneRows_own t.rows (fun r hm=>by have:=(hr r hm).1; omega) (by omega)
 obtain ⟨E,hE,e1,e2,e3⟩:=compact_ok (w:=w) (by omega) t.rows (by omega) (fun r hm=>(hr r hm).1)
 generalize dstL t.rows t.rows.length = ds at hE e1 e2
 have e4 : D.renL [3000001] E = E:=ren_pure.renL_pure _ _ e3
 refine Bg c_Z75 mixed (go1F trivial ?_)
 refine Uc trivial (hv) (go1F trivial ?_)
 refine UcR [3000001] trivial (hc) (go1F trivial ?_)
 refine UcR [3000001] trivial (hE) (go1F trivial ?_)
 refine fin_wk (wk_frzO 2000002 3000001 (by decide) (by decide) rfl (by decide) rfl ?_) ?_
 rotate_left
 (conv in hold _=>simp (disch:=omega) only [go_sem,e1,e2,e4])
 ·refine fin_L [] ?_ ?_ rfl ?_
  repeat' (first|(conv in hold _=>simp (disch:=omega) only [go_sem])|exact trivial|exact Sub.refl _|omega)
 ·rw [e4]; exact e3
end Go.Proofs.YtepkimfmncedcaaGreat
