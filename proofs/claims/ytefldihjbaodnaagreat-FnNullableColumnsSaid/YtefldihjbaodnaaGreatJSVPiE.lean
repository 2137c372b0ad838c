/-
  Unions, distinct rows and groups, as the program hands them out. No condition.
-/
import Derived.Test.YtefldihjbaodnaaGreatKSDca
import Derived.Test.YtefldihjbaodnaaGreatKSDce
import Derived.Test.YtefldihjbaodnaaGreatKSVPiI
import Derived.Test.YtefldihjbaodnaaGreatJSVPiD
import Derived.Test.YtefldihjbaodnaaGreatKSVPeD
import Derived.Test.YtefldihjbaodnaaGreatJSVGo
import Derived.Test.YtefldihjbaodnaaGreatKSDcf
set_option maxHeartbeats 4000000
set_option maxRecDepth 100000
set_option linter.unusedVariables false
set_option linter.unusedSimpArgs false
namespace Go.Proofs.YtefldihjbaodnaaGreat
open Go.RowKit
theorem growR_ok (n : Nat) (h0 : 0 < n) (hn : n ≤ 1000000) : Does Tryz.prog 165 [] [.nul,I n] (.own 1000000 1 0) [.row 1 (List.replicate n .nul)]:=by
 have hp : D.renL [2000022] (List.replicate n .nul) = List.replicate n .nul:=by rw [D.renL_map,List.map_replicate]; rfl
 refine Bk c_Z5 mixed 0 (go1 (cj3 @cast0 @Int.sub_self @Int.sub_zero) ?_)
 refine fin_L [2000022] ?_ ?_ rfl ?_
 repeat' (first|(conv in hold _=>simp (disch:=omega) only [go_sem,cast0,Int.sub_self,Int.sub_zero,hp])|exact trivial|exact Sub.refl _|omega)
theorem growR_0 : Does Tryz.prog 165 [] [.nul,I 0] .nul []:=by
 exact Bg c_Z5 mixed (go0 (cj3 @cast0 @Int.sub_self @Int.sub_zero))
theorem concatR_own (a b : List (List V)) (hl : a.length + b.length ≤ 100000) : Does Tryz.prog 119 [] [.sl 1 [rowsD a,rowsD b]] (.own 1000000 1 (a.length + b.length)) [.row 1 ((a ++ b).map rowD)]:=by
 by_cases h0 : 0 < a.length + b.length
 ·have hg:=growR_ok (a.length + b.length) h0 (by omega)
  have e0 : (List.replicate (a.length + b.length) D.nul).take 0 = []:=rfl
  have ea:=take_all rowD a
  have hp : ∀ L,D.renL L (List.replicate (a.length + b.length) .nul) = List.replicate (a.length + b.length) .nul:=fun L=>by rw [D.renL_map,List.map_replicate]; rfl
  have ec : (((a.length + b.length : Nat) : Int)) = (a.length : Int) + (b.length : Int):=by omega
  refine Bk c_Z3 mixed 0 (go1 trivial ?_)
  refine dw_for (c:=0) (l:=fun i=>[(0,.sl 1 [rowsD a,rowsD b]),(3,I (at3 0 (a.length : Int) (a.length + b.length : Nat) i)),(9,.sl 1 [rowsD a,rowsD b]),(10,I 2),(11,I (at3 0 1 2 i))]) 2 (fun _=>True) 0 trivial (Wk.list [] rfl rfl ?_) (fun i hi _=>?_) (by decide)
  ·repeat' (first|(conv in hold _=>simp (disch:=omega) only [go_sem,at3_0,Int.reduceAdd])|exact trivial|exact Sub.refl _|omega)
   first | exact rfl | exact ⟨rfl,rfl⟩
  ·have h3 : i = 0 ∨ i = 1 ∨ i = 2:=by omega
   rcases h3 with rfl | rfl | rfl
   ·refine go1 (cj2 @at3_0 @Int.zero_add) ?_
    refine ⟨by decide,trivial,Wk.list [] rfl rfl ?_⟩
    repeat' (first|(conv in hold _=>simp (disch:=omega) only [go_sem,at3_1,Nat.reduceAdd,Int.reduceAdd])|exact trivial|exact Sub.refl _|omega)
   ·refine go1 @at3_1 ?_
    refine ⟨by decide,trivial,Wk.list [] rfl rfl ?_⟩
    repeat' (first|(conv in hold _=>simp (disch:=omega) only [go_sem,at3_2,Nat.reduceAdd,Int.reduceAdd,ec])|exact trivial|exact Sub.refl _|omega)
   ·refine go1 @at3_2 ?_
    refine UcR [3000001] trivial (hg) (go1 trivial ?_)
    refine dw_for (c:=1) (l:=fun i=>[(6,.own 1000000 1 (at3 0 a.length (a.length + b.length) i)),(25,.sl 1 [rowsD a,rowsD b]),(26,I 2),(27,I (at3 0 1 2 i)),(1000000,.row 1 (at3 (List.replicate (a.length + b.length) .nul) (a.map rowD) ((a ++ b).map rowD) i))]) 2 (fun _=>True) 0 trivial (Wk.list [3000001] rfl rfl ?_) (fun i hi _=>?_) (by decide)
    ·repeat' (first|(conv in hold _=>simp (disch:=omega) only [go_sem,at3_0,Int.reduceAdd,hp])|exact trivial|exact Sub.refl _|omega)
     first | exact rfl | exact ⟨rfl,rfl⟩
    ·have h3 : i = 0 ∨ i = 1 ∨ i = 2:=by omega
     rcases h3 with rfl | rfl | rfl
     ·refine go1 (cj2 @at3_0 @e0) ?_
      refine ⟨by decide,trivial,Wk.list [2000033] rfl rfl ?_⟩
      repeat' (first|(conv in hold _=>simp (disch:=omega) only [go_sem,at3_1,Nat.reduceAdd,Int.reduceAdd,e0])|exact trivial|exact Sub.refl _|omega)
     ·refine go1 (cj2 @at3_1 @ea) ?_
      refine ⟨by decide,trivial,Wk.list [2000033] rfl rfl ?_⟩
      repeat' (first|(conv in hold _=>simp (disch:=omega) only [go_sem,at3_2,Nat.reduceAdd,Int.reduceAdd,ea])|exact trivial|exact Sub.refl _|omega)
      rw [List.map_append]
     ·refine go1 @at3_2 ?_
      refine fin_L [1000000] ?_ ?_ rfl ?_
      repeat' (first|(conv in hold _=>simp (disch:=omega) only [go_sem,at3_2])|exact trivial|exact Sub.refl _|omega)
 ·obtain rfl : a = []:=List.eq_nil_of_length_eq_zero (by omega)
  obtain rfl : b = []:=List.eq_nil_of_length_eq_zero (by omega)
  have hg:=growR_0
  refine Bk c_Z3 mixed 0 (go1 trivial ?_)
  refine dw_for (c:=0) (l:=fun i=>[(0,.sl 1 [rowsD [],rowsD []]),(3,I 0),(9,.sl 1 [rowsD [],rowsD []]),(10,I 2),(11,I (at3 0 1 2 i))]) 2 (fun _=>True) 0 trivial (Wk.list [] rfl rfl ?_) (fun i hi _=>?_) (by decide)
  ·repeat' (first|(conv in hold _=>simp (disch:=omega) only [go_sem,at3_0,Int.reduceAdd])|exact trivial|exact Sub.refl _|omega)
   first | exact rfl | exact ⟨rfl,rfl⟩
  ·have h3 : i = 0 ∨ i = 1 ∨ i = 2:=by omega
   rcases h3 with rfl | rfl | rfl
   ·refine go1 (cj4 @at3_0 @Int.zero_add @cast0 @Int.add_zero) ?_
    refine ⟨by decide,trivial,Wk.list [] rfl rfl ?_⟩
    repeat' (first|(conv in hold _=>simp (disch:=omega) only [go_sem,at3_1,Nat.reduceAdd,Int.reduceAdd,cast0])|exact trivial|exact Sub.refl _|omega)
   ·refine go1 (cj3 @at3_1 @cast0 @Int.add_zero) ?_
    refine ⟨by decide,trivial,Wk.list [] rfl rfl ?_⟩
    repeat' (first|(conv in hold _=>simp (disch:=omega) only [go_sem,at3_2,Nat.reduceAdd,Int.reduceAdd,cast0])|exact trivial|exact Sub.refl _|omega)
   ·refine go1 @at3_2 ?_
    refine Uc trivial (hg) (go1 trivial ?_)
    refine dw_for (c:=1) (l:=fun i=>[(6,.own 1000000 1 0),(25,.sl 1 [rowsD [],rowsD []]),(26,I 2),(27,I (at3 0 1 2 i)),(1000000,.row 1 [])]) 2 (fun _=>True) 0 trivial ((wk_row 6 2000090 1 (by decide) (by decide) rfl rfl).trans (Wk.list [2000090] rfl rfl ?_)) (fun i hi _=>?_) (by decide)
    ·repeat' (first|(conv in hold _=>simp (disch:=omega) only [go_sem,at3_0,Int.reduceAdd])|exact trivial|exact Sub.refl _|omega)
     first | exact rfl | exact ⟨rfl,rfl⟩
    ·have h3 : i = 0 ∨ i = 1 ∨ i = 2:=by omega
     rcases h3 with rfl | rfl | rfl
     ·repeat' (first|with_reducible refine acc_none ?_ | (conv in hold _=>simp (disch:=omega) only [go_sem,at3_0,Int.reduceToNat,List.take_nil])|refine Stp.go ?_|(with_reducible first|refine it_pos rfl ?_|refine it_neg (by decide) ?_|refine st_nil rfl ?_|refine s_op ?_ ?_|exact trivial)|((with_reducible first|refine dw_reg0 ?_|refine dw_regB ?_);(conv=>arg 3;whnf))|(refine Spl.go (fun hq he=>?_) (fun hq he=>?_)<;>first|(exfalso;clear hq;omega)|((try first|(conv=>arg 8;simp only [hq])|(conv=>arg 4;simp only [hq]));clear hq))|((with_reducible first|refine c_split (fun hq=>?_) (fun hq=>?_)|refine q_split (fun hq=>?_) (fun hq=>?_))<;>(try first|(conv=>arg 8;simp only [hq])|(conv=>arg 4;simp only [hq])))|(with_reducible refine fin_0 ?_ (by first|rfl|(conv=>lhs;simp only [go_sem,at3_0,Int.reduceToNat,List.take_nil])) ?_)|exact Sub.refl _|omega)
      refine ⟨by decide,trivial,Wk.list [2000033] rfl rfl ?_⟩
      repeat' (first|(conv in hold _=>simp (disch:=omega) only [go_sem,at3_1,Nat.reduceAdd,Int.reduceAdd,List.take_nil])|exact trivial|exact Sub.refl _|omega)
     ·repeat' (first|with_reducible refine acc_none ?_ | (conv in hold _=>simp (disch:=omega) only [go_sem,at3_1,Int.reduceToNat,List.take_nil])|refine Stp.go ?_|(with_reducible first|refine it_pos rfl ?_|refine it_neg (by decide) ?_|refine st_nil rfl ?_|refine s_op ?_ ?_|exact trivial)|((with_reducible first|refine dw_reg0 ?_|refine dw_regB ?_);(conv=>arg 3;whnf))|(refine Spl.go (fun hq he=>?_) (fun hq he=>?_)<;>first|(exfalso;clear hq;omega)|((try first|(conv=>arg 8;simp only [hq])|(conv=>arg 4;simp only [hq]));clear hq))|((with_reducible first|refine c_split (fun hq=>?_) (fun hq=>?_)|refine q_split (fun hq=>?_) (fun hq=>?_))<;>(try first|(conv=>arg 8;simp only [hq])|(conv=>arg 4;simp only [hq])))|(with_reducible refine fin_0 ?_ (by first|rfl|(conv=>lhs;simp only [go_sem,at3_1,Int.reduceToNat,List.take_nil])) ?_)|exact Sub.refl _|omega)
      refine ⟨by decide,trivial,Wk.list [2000033] rfl rfl ?_⟩
      repeat' (first|(conv in hold _=>simp (disch:=omega) only [go_sem,at3_2,Nat.reduceAdd,Int.reduceAdd,List.take_nil])|exact trivial|exact Sub.refl _|omega)
     ·refine go1 @at3_2 ?_
      refine fin_L [1000000] ?_ ?_ rfl ?_
      repeat' (first|(conv in hold _=>simp (disch:=omega) only [go_sem,at3_2])|exact trivial|exact Sub.refl _|omega)
theorem keyRows (w : Nat) (hw : w < 1000) : KeyF 69 [] (fun x=>x) w (okR w) where
 ent:=by kernel_rfl
 pur:=rfl
 call x y hx hy:=compareRows_impl x y (by rw [hx.1,hy.1]) (by have:=hx.1; omega) hx.2 hy.2
 wid x hx:=hx
theorem distinctRows_p (rs : List (List V)) : Does Tryz.prog 120 [] [rowsD rs] (.fn 166 [.ptr [rowsD rs]]) []:=by
 refine Bg c_Z77 mixed (go1F trivial ?_)
 refine fin_wk (wk_fro 2 2000001 (by decide) (by decide) rfl ?_) ?_
 rotate_left
 (conv in hold _=>simp (disch:=omega) only [go_sem])
 ·refine fin_L [] ?_ ?_ rfl ?_
  repeat' (first|(conv in hold _=>simp (disch:=omega) only [go_sem])|exact trivial|exact Sub.refl _|omega)
 ·rfl
noncomputable def dstQ (rs : List (List V)) : List (List V):=(runK (fun x=>x) (srK (fun x=>x) rs)).map (fun g=>g.headD [])
theorem distinctRows_yields {w : Nat} (hw : w < 1000) (rs : List (List V)) (hs : RsW w rs) (hl : rs.length ≤ 400) : Yields Tryz.prog 166 [.ptr [rowsD rs]] ((dstQ rs).map tupR):=by
 have hK:=keyRows w hw
 have hsp:=srK_perm hK.wid hs
 have hsa:=srK_asc hK.wid hs
 have h1:=sortedRows_ok hK rs hs (by omega)
 have h2:=runsOfK_ok hK (srK (fun x=>x) rs)
 have hq : ∀ x,x ∈ srK (fun x=>x) rs → okR w x:=fun x hx=>hs x (hsp.mem_iff.1 hx)
 have hsl:=hsp.length_eq
 have hY:=runsK_yields hK hq hsa (by omega)
 unfold dstQ
 have hne : ∀ g,g ∈ runK (fun x=>x) (srK (fun x=>x) rs) → g[0]? = some (g.headD []) ∧ 0 < g.length:=fun g hg=>by
  cases g with
  | nil=>exact absurd rfl (runK_ne hg).1
  | cons x y=>exact ⟨rfl,Nat.succ_pos _⟩
 generalize srK (fun x=>x) rs = S at *
 have htk : (S.map rowD).take rs.length = S.map rowD:=by rw [← hsl]; exact take_all rowD S
 refine yields c_Z59 mixed (Nat.le_of_ble_eq_true rfl) (fun i e=>?_)
 conv=>arg 3; whnf
 refine go1 trivial ?_
 refine UcR [3000001] trivial (h1) (go1C trivial ?_)
 refine s_pre (pre_frz (t:=5) (g:=3000001) (by decide) (by decide) rfl ?_) ?_
 rotate_left
 refine go1 (cj2 @htk @hsl) ?_
 ·refine Uc trivial (h2) (go1 trivial ?_)
  generalize runK (fun x=>x) S = G at hY hne
  by_cases hel : e < G.length
  ·refine dw_rngX 200 [.ptr [rowsD S],.ptr [.fn 69 []]] (G.map tupS) e 1 1 [(2,.ref 1000000 0),(6,.fn 200 [.ptr [rowsD S],.ptr [.fn 69 []]])] (fun j=>[(1000000,.obj [.v (.func (.yield i) #[] #[])]),(gh,.gho i ((G.map (fun g=>g.headD [])).map tupR) e j)]) hY (by kernel_rfl) rfl (Nat.zero_le _) (Nat.le_refl _) (by decide) ?_ (fun j=>namesOK_of rfl) (Wk.list [2000002] rfl rfl ?_) rfl (fun j es h=>by obtain ⟨_,_,rfl⟩:=tupS_at h; rfl) (by rw [List.length_map]; exact hel) (fun j es hj h hp=>?_) (fun es h hp=>?_)
   ·simp (disch:=omega) only [go_sem,and_self,Nat.reduceLT]
   ·repeat' (first|(conv in hold _=>simp (disch:=omega) only [go_sem])|exact trivial|exact Sub.refl _|omega)
    try exact rfl
   ·obtain ⟨g,hg,rfl⟩:=tupS_at h
    obtain ⟨h0,hpos⟩:=hne g (List.mem_of_getElem? hg)
    refine go1 @h0 ?_
    refine v_yld (by ((conv=>lhs; simp (disch:=omega) only [go_sem]); try rfl)) ((show j ≤ e by omega)) ((by rw [List.getElem?_map,List.getElem?_map,hg]; rfl)) (by first | rfl | (simp only [go_sem])) ?_
    refine go1 trivial ?_
    refine Wk.list [1000000] rfl rfl ?_
    repeat' (first|(conv in hold _=>simp (disch:=omega) only [go_sem])|exact trivial|exact Sub.refl _|omega)
   ·obtain ⟨g,hg,rfl⟩:=tupS_at h
    obtain ⟨h0,hpos⟩:=hne g (List.mem_of_getElem? hg)
    refine go1 @h0 ?_
    refine v_yld (by ((conv=>lhs; simp (disch:=omega) only [go_sem]); try rfl)) ((Nat.le_refl e)) ((by rw [List.getElem?_map,List.getElem?_map,hg]; rfl)) (by first | rfl | (simp only [go_sem])) ?_
    refine go1 trivial ?_
    refine ⟨[(1000000,.obj [.v (.func (.yield i) #[] #[])]),(gh,.gho i ((G.map (fun g=>g.headD [])).map tupR) e (e + 1))],namesOK_of rfl,Wk.list [1000000] rfl rfl ?_,?_⟩
    ·repeat' (first|(conv in hold _=>simp (disch:=omega) only [go_sem])|exact trivial|exact Sub.refl _|omega)
    ·refine ⟨(e + 1),?_,?_⟩
     ·((conv=>lhs; simp (disch:=omega) only [go_sem]); try rfl)
     exact .inr ⟨rfl,by rw [List.length_map,List.length_map]; exact hel⟩
  ·refine dw_rng 200 [.ptr [rowsD S],.ptr [.fn 69 []]] (G.map tupS) 1 1 [(2,.ref 1000000 0),(6,.fn 200 [.ptr [rowsD S],.ptr [.fn 69 []]])] (fun j=>[(1000000,.obj [.v (.func (.yield i) #[] #[])]),(gh,.gho i ((G.map (fun g=>g.headD [])).map tupR) e j)]) hY (by kernel_rfl) rfl (Nat.zero_le _) (Nat.le_refl _) (by decide) ?_ (fun j=>namesOK_of rfl) (Wk.list [2000002] rfl rfl ?_) rfl (fun j es h=>by obtain ⟨_,_,rfl⟩:=tupS_at h; rfl) (fun j es h hp=>?_) ?_
   ·simp (disch:=omega) only [go_sem,and_self,Nat.reduceLT]
   ·repeat' (first|(conv in hold _=>simp (disch:=omega) only [go_sem])|exact trivial|exact Sub.refl _|omega)
    try exact rfl
   ·obtain ⟨g,hg,rfl⟩:=tupS_at h
    obtain ⟨h0,hpos⟩:=hne g (List.mem_of_getElem? hg)
    have hjl:=(List.getElem?_eq_some_iff.1 hg).1
    refine go1 @h0 ?_
    refine v_yld (by ((conv=>lhs; simp (disch:=omega) only [go_sem]); try rfl)) ((show j ≤ e by omega)) ((by rw [List.getElem?_map,List.getElem?_map,hg]; rfl)) (by first | rfl | (simp only [go_sem])) ?_
    refine go1 trivial ?_
    refine Wk.list [1000000] rfl rfl ?_
    repeat' (first|(conv in hold _=>simp (disch:=omega) only [go_sem])|exact trivial|exact Sub.refl _|omega)
   ·rw [List.length_map]
    refine go1 trivial ?_
    refine ⟨G.length,?_,?_⟩
    ·((conv=>lhs; simp (disch:=omega) only [go_sem]); try rfl)
    exact .inl ⟨by rw [List.length_map,List.length_map],by rw [List.length_map,List.length_map]; omega⟩
 ·exact rows_pur _
end Go.Proofs.YtefldihjbaodnaaGreat
set_option maxHeartbeats 4000000
set_option maxRecDepth 100000
set_option linter.unusedVariables false
set_option linter.unusedSimpArgs false
namespace Go.Proofs.YtefldihjbaodnaaGreat
open Go.RowKit
abbrev U (n : Int) : D:=.v (.int .u64 n)
theorem wrapU {x : Int} (h0 : 0 ≤ x) (h1 : x < 18446744073709551616) : IntKind.u64.wrap x = x:=by
 simp [IntKind.wrap,IntKind.bits,IntKind.signed]
 omega
theorem shrU {x : Int} (h0 : 0 ≤ x) (h1 : x < 4294967296) : x.fdiv (2 ^ (min 32 64)) = 0:=by
 have e : (2 : Int) ^ (min 32 64) = 4294967296:=by rfl
 rw [e,Int.fdiv_eq_ediv_of_nonneg _ (by omega)]
 omega
theorem andU {x : Int} (h0 : 0 ≤ x) (h1 : x < 4294967296) : intBit .and .u64 x 4294967295 = x:=by
 obtain ⟨n,rfl⟩:=Int.eq_ofNat_of_zero_le h0
 have e : (BitVec.ofInt 64 (n : Int) &&& BitVec.ofInt 64 4294967295).toNat = n:=by
  rw [BitVec.toNat_and,BitVec.toNat_ofInt,BitVec.toNat_ofInt]
  have e1 : ((n : Int) % ((2 ^ 64 : Nat) : Int)).toNat = n:=by omega
  have e2 : ((4294967295 : Int) % ((2 ^ 64 : Nat) : Int)).toNat = 2 ^ 32 - 1:=by decide
  rw [e1,e2,Nat.and_two_pow_sub_one_eq_mod]
  omega
 show IntKind.u64.wrap ((BitVec.ofInt 64 (n : Int) &&& BitVec.ofInt 64 4294967295).toNat : Int) = n
 rw [e]
 exact wrapU (by omega) (by omega)
theorem mul64_ok (n : Nat) (h : n ≤ 1000) : Does Tryz.prog 222 [] [U 1,U n] (.tup [U 0,U n]) []:=by
 refine does0 c_Z124 mixed (Nat.le_of_ble_eq_true rfl) ?_
 conv=>arg 3; whnf
 repeat' (first|with_reducible refine acc_none ?_ | (conv in hold _=>simp (disch:=omega) only [go_sem,wrapU,shrU,andU,IntKind.bits,Int.one_mul,Int.zero_mul,Int.mul_zero,Int.add_zero,Int.zero_add])|refine Stp.go ?_|(with_reducible first|refine it_pos rfl ?_|refine it_neg (by decide) ?_|refine st_nil rfl ?_|refine s_op ?_ ?_|exact trivial)|((with_reducible first|refine dw_reg0 ?_|refine dw_regB ?_);(conv=>arg 3;whnf))|(refine Spl.go (fun hq he=>?_) (fun hq he=>?_)<;>first|(exfalso;clear hq;omega)|((try first|(conv=>arg 8;simp only [hq])|(conv=>arg 4;simp only [hq]));clear hq))|((with_reducible first|refine c_split (fun hq=>?_) (fun hq=>?_)|refine q_split (fun hq=>?_) (fun hq=>?_))<;>(try first|(conv=>arg 8;simp only [hq])|(conv=>arg 4;simp only [hq])))|(with_reducible refine fin_0 ?_ (by first|rfl|(conv=>lhs;simp only [go_sem,wrapU,shrU,andU,IntKind.bits,Int.one_mul,Int.zero_mul,Int.mul_zero,Int.add_zero,Int.zero_add])) ?_)|exact Sub.refl _|omega)
theorem mulU_ok (n : Nat) (h : n ≤ 1000) : Does Tryz.prog 215 [] [U 1,U n] (.tup [U 0,U n]) []:=by
 have h1:=mul64_ok n h
 refine Bg c_Z163 mixed (go1 trivial ?_)
 exact Uc trivial (h1) (go0 trivial)
theorem rep_cpy {α : Type} (x z : α) (C n : Nat) (h1 : C ≤ n) (fs : List α) (hf : fs = List.replicate C x) (m : Nat) (hm : m = min C (n - C)) :
  (List.replicate C x ++ List.replicate (n - C) z).take C ++ fs.take (n - C) ++ (List.replicate C x ++ List.replicate (n - C) z).drop (C + (fs.take (n - C)).length) = List.replicate (C + m) x ++ List.replicate (n - (C + m)) z:=by
 subst hf
 have e1 : (List.replicate C x).take (n - C) = List.replicate m x:=by rw [List.take_replicate,hm,Nat.min_comm]
 have e2 : (List.replicate C x ++ List.replicate (n - C) z).take C = List.replicate C x:=List.take_left' List.length_replicate
 have e3 : (List.replicate C x ++ List.replicate (n - C) z).drop (C + m) = List.replicate (n - (C + m)) z:=by
  rw [List.drop_append,List.length_replicate,List.drop_of_length_le (by rw [List.length_replicate]; omega),List.nil_append,List.drop_replicate]
  congr 1
  omega
 rw [e1,e2,List.length_replicate,e3,List.replicate_append_replicate]
theorem repeatV_own (v : V) (n : Nat) (h0 : 0 < n) (h : n ≤ 1000) : Does Tryz.prog 199 [] [.sl 2 [vD v],I n] (.own 1000000 2 n) [.row 2 (List.replicate n (vD v))]:=by
 have hm:=mulU_ok n h
 have hz : ∀ L k,D.renL L (List.replicate k (.agg [Bo false,I 0])) = List.replicate k (.agg [Bo false,I 0]):=fun L k=>by rw [D.renL_map,List.map_replicate]; rfl
 have hv : ∀ L k,D.renL L (List.replicate k (.agg [Bo v.b,I v.n])) = List.replicate k (.agg [Bo v.b,I v.n]):=fun L k=>by rw [D.renL_map,List.map_replicate]; rfl
 have hzz : ∀ L j k,D.renL L (List.replicate j (.agg [Bo v.b,I v.n]) ++ List.replicate k (.agg [Bo false,I 0])) = List.replicate j (.agg [Bo v.b,I v.n]) ++ List.replicate k (.agg [Bo false,I 0]):=fun L j k=>by rw [D.renL_map,List.map_append,List.map_replicate,List.map_replicate]; rfl
 have hc0 : cpyL (List.replicate n (D.agg [Bo false,I 0])) 0 n [D.agg [Bo v.b,I v.n]] = D.agg [Bo v.b,I v.n] :: List.replicate (n - 1) (.agg [Bo false,I 0]):=by
  obtain ⟨m,rfl⟩ : ∃ m,n = m + 1:=⟨n - 1,by omega⟩
  simp [cpyL,D.setAll,List.replicate_succ]
 have hm1 : min 1 n = 1:=by omega
 refine Bk c_Z7 mixed 0 (go1 @wrapU ?_)
 refine Uc (cj3 @wrapU @hc0 @hm1) (hm) (go1 (cj3 @wrapU @hc0 @hm1) ?_)
 refine dw_for (c:=1) (l:=fun i=>[(7,.own 1000000 2 n),(8,I (min (2 ^ i) n : Nat)),(1000000,.row 2 (List.replicate (min (2 ^ i) n) (vD v) ++ List.replicate (n - min (2 ^ i) n) (.agg [Bo false,I 0])))]) n (fun _=>True) 0 trivial (Wk.list [2000030] rfl rfl ?_) (fun i hi _=>?_) (Nat.zero_le _)
 ·repeat' (first|(conv in hold _=>simp (disch:=omega) only [go_sem,hc0,hm1,hz,hv])|exact trivial|exact Sub.refl _|omega)
 ·have hC1 : 1 ≤ min (2 ^ i) n:=by have:=Nat.one_le_two_pow (n:=i); omega
  have hC2 : min (2 ^ i) n ≤ n:=Nat.min_le_right _ _
  have hnx : min (2 ^ i) n < n → i < n ∧ min (2 ^ (i + 1)) n = min (2 ^ i) n + min (min (2 ^ i) n) (n - min (2 ^ i) n):=fun hlt=>by
   have:=Nat.lt_two_pow_self (n:=i)
   rw [Nat.pow_succ]
   omega
  generalize min (2 ^ i) n = C at hC1 hC2 hnx ⊢
  have hcp : cpyL (List.replicate C (D.agg [Bo v.b,I v.n]) ++ List.replicate (n - C) (.agg [Bo false,I 0])) C (n - C) (List.replicate C (.agg [Bo v.b,I v.n])) = List.replicate (C + min C (n - C)) (.agg [Bo v.b,I v.n]) ++ List.replicate (n - (C + min C (n - C))) (.agg [Bo false,I 0]):=rep_cpy _ _ C n hC2 _ rfl (min C (n - C)) rfl
  have hta : (List.replicate C (D.agg [Bo v.b,I v.n]) ++ List.replicate (n - C) (D.agg [Bo false,I 0])).take C = List.replicate C (D.agg [Bo v.b,I v.n]):=List.take_left' List.length_replicate
  refine go1R trivial ?_
  (with_reducible first | refine dw_reg0 ?_ | refine dw_regB ?_)
  conv=>arg 3; whnf
  repeat' ((fail_if_success (with_reducible first | refine dw_reg0 ?_ | refine dw_regB ?_)); first | with_reducible refine acc_none ?_ | (conv in hold _=>simp (disch:=omega) only [go_sem,hz])|refine Stp.go ?_|(with_reducible first|refine it_pos rfl ?_|refine it_neg (by decide) ?_|refine st_nil rfl ?_|refine s_op ?_ ?_|exact trivial)|((with_reducible first|refine dw_reg0 ?_|refine dw_regB ?_);(conv=>arg 3;whnf))|(refine Spl.go (fun hq he=>?_) (fun hq he=>?_)<;>first|(exfalso;clear hq;omega)|((try first|(conv=>arg 8;simp only [hq])|(conv=>arg 4;simp only [hq]));clear hq))|((with_reducible first|refine c_split (fun hq=>?_) (fun hq=>?_)|refine q_split (fun hq=>?_) (fun hq=>?_))<;>(try first|(conv=>arg 8;simp only [hq])|(conv=>arg 4;simp only [hq])))|(with_reducible refine fin_0 ?_ (by first|rfl|(conv=>lhs;simp only [go_sem,hz])) ?_)|exact Sub.refl _|omega)
  ·obtain ⟨hin,hnx⟩:=hnx (by omega)
   obtain ⟨m,hmq⟩ : ∃ m,min C (n - C) = m:=⟨_,rfl⟩
   rw [hmq] at hcp hnx
   have hmc : m ≤ n:=by omega
   have ecm : ((C + m : Nat) : Int) = (C : Int) + (m : Int):=by omega
   rw [hnx]
   (with_reducible first | refine dw_reg0 ?_ | refine dw_regB ?_)
   conv=>arg 3; whnf
   refine go1 (cj3 @hta @hcp @hmq) ?_
   refine ⟨hin,trivial,Wk.list [1000000] rfl rfl ?_⟩
   repeat' (first|(conv in hold _=>simp (disch:=omega) only [go_sem,hzz,ecm])|exact trivial|exact Sub.refl _|omega)
  ·obtain rfl : C = n:=by omega
   repeat' (first|with_reducible refine acc_none ?_ | (conv in hold _=>simp (disch:=omega) only [go_sem,Nat.sub_self,List.replicate_zero])|refine Stp.go ?_|(with_reducible first|refine it_pos rfl ?_|refine it_neg (by decide) ?_|refine st_nil rfl ?_|refine s_op ?_ ?_|exact trivial)|((with_reducible first|refine dw_reg0 ?_|refine dw_regB ?_);(conv=>arg 3;whnf))|(refine Spl.go (fun hq he=>?_) (fun hq he=>?_)<;>first|(exfalso;clear hq;omega)|((try first|(conv=>arg 8;simp only [hq])|(conv=>arg 4;simp only [hq]));clear hq))|((with_reducible first|refine c_split (fun hq=>?_) (fun hq=>?_)|refine q_split (fun hq=>?_) (fun hq=>?_))<;>(try first|(conv=>arg 8;simp only [hq])|(conv=>arg 4;simp only [hq])))|(with_reducible refine fin_0 ?_ (by first|rfl|(conv=>lhs;simp only [go_sem,Nat.sub_self,List.replicate_zero])) ?_)|exact Sub.refl _|omega)
   refine fin_L [1000000] ?_ ?_ rfl ?_
   repeat' (first|(conv in hold _=>simp (disch:=omega) only [go_sem,Nat.sub_self,List.replicate_zero,hv])|exact trivial|exact Sub.refl _|omega)
theorem nullRow_ok (n : Nat) (h0 : 0 < n) (h : n ≤ 1000) : Does Tryz.prog 162 [] [I n] (rowD (nulR n)) []:=by
 have h1:=repeatV_own ⟨true,0⟩ n h0 h
 have h2 : vD ⟨true,0⟩ = .agg [Bo true,I 0]:=rfl
 rw [h2] at h1
 have ht : (List.replicate n (D.agg [Bo true,I 0])).take n = List.replicate n (.agg [Bo true,I 0]):=List.take_of_length_le (by rw [List.length_replicate]; exact Nat.le_refl _)
 have hp : D.purL (List.replicate n (D.agg [Bo true,I 0])) = true:=D.purL_iff.2 (fun d hd=>by rw [(List.mem_replicate.1 hd).2]; rfl)
 have hren : ∀ L,D.renL L (List.replicate n (D.agg [Bo true,I 0])) = List.replicate n (.agg [Bo true,I 0]):=fun L=>by rw [D.renL_map,List.map_replicate]; rfl
 have hr : rowD (nulR n) = .sl 2 (List.replicate n (.agg [Bo true,I 0])):=by rw [rowD,nulR,List.map_replicate]; rfl
 rw [hr]
 refine Bk c_Z179 mixed 0 (go1F trivial ?_)
 refine UcR [3000001] trivial (h1) (go1F trivial ?_)
 refine fin_wk (wk_frz 2 3000001 (by decide) (by decide) rfl ?_) ?_
 rotate_left
 (conv in hold _=>simp (disch:=omega) only [go_sem,ht,hren,List.length_replicate,Nat.le_refl])
 ·refine fin_L [] ?_ ?_ rfl ?_
  repeat' (first|(conv in hold _=>simp (disch:=omega) only [go_sem])|exact trivial|exact Sub.refl _|omega)
 ·rw [hren]; exact hp
theorem cloneV_own (vs : List V) (h0 : 0 < vs.length) (hl : vs.length < 2000000) : Does Tryz.prog 70 [] [rowD vs] (.own 1000000 2 vs.length) [.row 2 (vs.map vD)]:=by
 refine Bk c_Z8 mixed 0 (go1 trivial ?_)
 refine fin_L [2000007] ?_ ?_ rfl ?_
 repeat' (first|(conv in hold _=>simp (disch:=omega) only [go_sem,take_all])|exact trivial|exact Sub.refl _|omega)
end Go.Proofs.YtefldihjbaodnaaGreat
