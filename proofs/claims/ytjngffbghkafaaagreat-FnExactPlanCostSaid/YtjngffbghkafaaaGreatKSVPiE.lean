/-
  Products of 64-bit numbers and rows repeated, as the library does; rows of nulls. No condition.
-/
import Derived.Test.YtjngffbghkafaaaGreatKSDca
import Derived.Test.YtjngffbghkafaaaGreatKSDcb
import Derived.Test.YtjngffbghkafaaaGreatJSDce
import Derived.Test.YtjngffbghkafaaaGreatKSDcf
import Derived.Test.YtjngffbghkafaaaGreatJSVPiD
import Derived.Test.YtjngffbghkafaaaGreatJSVGo
set_option maxHeartbeats 4000000
set_option maxRecDepth 100000
set_option linter.unusedVariables false
set_option linter.unusedSimpArgs false
namespace Go.Proofs.YtjngffbghkafaaaGreat
open Go.RowKit
abbrev U (n : Int) : D:=.v (.int .u64 n)
theorem wrapU {x : Int} (h0 : 0 ≤ x) (h1 : x < 18446744073709551616) : IntKind.u64.wrap x = x:=by
 simp [IntKind.wrap,IntKind.bits,IntKind.signed]
 omega
theorem shrU {x : Int} (h0 : 0 ≤ x) (h1 : x < 4294967296) : x.fdiv (2 ^ (min 32 64)) = 0:=by
 have e : (2 : Int) ^ (min 32 64) = 4294967296:=by rfl
 rw [e,Int.fdiv_eq_ediv_of_nonneg _ (by omega)]
 omega
theorem andU {x : Int} (h0 : 0 ≤ x) (h1 : x < 4294967296) : intBit .and .u64 x 4294967295 = x:=by
 obtain ⟨n,rfl⟩:=Int.eq_ofNat_of_zero_le h0
 have e : (BitVec.ofInt 64 (n : Int) &&& BitVec.ofInt 64 4294967295).toNat = n:=by
  rw [BitVec.toNat_and,BitVec.toNat_ofInt,BitVec.toNat_ofInt]
  have e1 : ((n : Int) % ((2 ^ 64 : Nat) : Int)).toNat = n:=by omega
  have e2 : ((4294967295 : Int) % ((2 ^ 64 : Nat) : Int)).toNat = 2 ^ 32 - 1:=by decide
  rw [e1,e2,Nat.and_two_pow_sub_one_eq_mod]
  omega
 show IntKind.u64.wrap ((BitVec.ofInt 64 (n : Int) &&& BitVec.ofInt 64 4294967295).toNat : Int) = n
 rw [e]
 exact wrapU (by omega) (by omega)
theorem mul64_ok (n : Nat) (h : n ≤ 1000) : Does Tryz.prog 244 [] [U 1,U n] (.tup [U 0,U n]) []:=by
 refine does0 c_Z88 mixed (Nat.le_of_ble_eq_true rfl) ?_
 conv=>arg 3; whnf
 repeat' (first|with_reducible refine acc_none ?_ | (conv in hold _=>simp (disch:=omega) only [go_sem,wrapU,shrU,andU,IntKind.bits,Int.one_mul,Int.zero_mul,Int.mul_zero,Int.add_zero,Int.zero_add])|refine Stp.go ?_|(with_reducible first|refine it_pos rfl ?_|refine it_neg (by decide) ?_|refine st_nil rfl ?_|refine s_op ?_ ?_|exact trivial)|((with_reducible first|refine dw_reg0 ?_|refine dw_regB ?_);(conv=>arg 3;whnf))|(refine Spl.go (fun hq he=>?_) (fun hq he=>?_)<;>first|(exfalso;clear hq;omega)|((try first|(conv=>arg 8;simp only [hq])|(conv=>arg 4;simp only [hq]));clear hq))|((with_reducible first|refine c_split (fun hq=>?_) (fun hq=>?_)|refine q_split (fun hq=>?_) (fun hq=>?_))<;>(try first|(conv=>arg 8;simp only [hq])|(conv=>arg 4;simp only [hq])))|(with_reducible refine fin_0 ?_ (by first|rfl|(conv=>lhs;simp only [go_sem,wrapU,shrU,andU,IntKind.bits,Int.one_mul,Int.zero_mul,Int.mul_zero,Int.add_zero,Int.zero_add])) ?_)|exact Sub.refl _|omega)
theorem mulU_ok (n : Nat) (h : n ≤ 1000) : Does Tryz.prog 237 [] [U 1,U n] (.tup [U 0,U n]) []:=by
 have h1:=mul64_ok n h
 refine Bg c_Z122 mixed (go1 trivial ?_)
 exact Uc trivial (h1) (go0 trivial)
theorem rep_cpy {α : Type} (x z : α) (C n : Nat) (h1 : C ≤ n) (fs : List α) (hf : fs = List.replicate C x) (m : Nat) (hm : m = min C (n - C)) :
  (List.replicate C x ++ List.replicate (n - C) z).take C ++ fs.take (n - C) ++ (List.replicate C x ++ List.replicate (n - C) z).drop (C + (fs.take (n - C)).length) = List.replicate (C + m) x ++ List.replicate (n - (C + m)) z:=by
 subst hf
 have e1 : (List.replicate C x).take (n - C) = List.replicate m x:=by rw [List.take_replicate,hm,Nat.min_comm]
 have e2 : (List.replicate C x ++ List.replicate (n - C) z).take C = List.replicate C x:=List.take_left' List.length_replicate
 have e3 : (List.replicate C x ++ List.replicate (n - C) z).drop (C + m) = List.replicate (n - (C + m)) z:=by
  rw [List.drop_append,List.length_replicate,List.drop_of_length_le (by rw [List.length_replicate]; omega),List.nil_append,List.drop_replicate]
  congr 1
  omega
 rw [e1,e2,List.length_replicate,e3,List.replicate_append_replicate]
theorem repeatV_own (v : V) (n : Nat) (h0 : 0 < n) (h : n ≤ 1000) : Does Tryz.prog 221 [] [.sl 2 [vD v],I n] (.own 1000000 2 n) [.row 2 (List.replicate n (vD v))]:=by
 have hm:=mulU_ok n h
 have hz : ∀ L k,D.renL L (List.replicate k (.agg [Bo false,I 0])) = List.replicate k (.agg [Bo false,I 0]):=fun L k=>by rw [D.renL_map,List.map_replicate]; rfl
 have hv : ∀ L k,D.renL L (List.replicate k (.agg [Bo v.b,I v.n])) = List.replicate k (.agg [Bo v.b,I v.n]):=fun L k=>by rw [D.renL_map,List.map_replicate]; rfl
 have hzz : ∀ L j k,D.renL L (List.replicate j (.agg [Bo v.b,I v.n]) ++ List.replicate k (.agg [Bo false,I 0])) = List.replicate j (.agg [Bo v.b,I v.n]) ++ List.replicate k (.agg [Bo false,I 0]):=fun L j k=>by rw [D.renL_map,List.map_append,List.map_replicate,List.map_replicate]; rfl
 have hc0 : cpyL (List.replicate n (D.agg [Bo false,I 0])) 0 n [D.agg [Bo v.b,I v.n]] = D.agg [Bo v.b,I v.n] :: List.replicate (n - 1) (.agg [Bo false,I 0]):=by
  obtain ⟨m,rfl⟩ : ∃ m,n = m + 1:=⟨n - 1,by omega⟩
  simp [cpyL,D.setAll,List.replicate_succ]
 have hm1 : min 1 n = 1:=by omega
 refine Bk c_Z7 mixed 0 (go1 @wrapU ?_)
 refine Uc (cj3 @wrapU @hc0 @hm1) (hm) (go1 (cj3 @wrapU @hc0 @hm1) ?_)
 refine dw_for (c:=1) (l:=fun i=>[(7,.own 1000000 2 n),(8,I (min (2 ^ i) n : Nat)),(1000000,.row 2 (List.replicate (min (2 ^ i) n) (vD v) ++ List.replicate (n - min (2 ^ i) n) (.agg [Bo false,I 0])))]) n (fun _=>True) 0 trivial (Wk.list [2000030] rfl rfl ?_) (fun i hi _=>?_) (Nat.zero_le _)
 ·repeat' (first|(conv in hold _=>simp (disch:=omega) only [go_sem,hc0,hm1,hz,hv])|exact trivial|exact Sub.refl _|omega)
 ·have hC1 : 1 ≤ min (2 ^ i) n:=by have:=Nat.one_le_two_pow (n:=i); omega
  have hC2 : min (2 ^ i) n ≤ n:=Nat.min_le_right _ _
  have hnx : min (2 ^ i) n < n → i < n ∧ min (2 ^ (i + 1)) n = min (2 ^ i) n + min (min (2 ^ i) n) (n - min (2 ^ i) n):=fun hlt=>by
   have:=Nat.lt_two_pow_self (n:=i)
   rw [Nat.pow_succ]
   omega
  generalize min (2 ^ i) n = C at hC1 hC2 hnx ⊢
  have hcp : cpyL (List.replicate C (D.agg [Bo v.b,I v.n]) ++ List.replicate (n - C) (.agg [Bo false,I 0])) C (n - C) (List.replicate C (.agg [Bo v.b,I v.n])) = List.replicate (C + min C (n - C)) (.agg [Bo v.b,I v.n]) ++ List.replicate (n - (C + min C (n - C))) (.agg [Bo false,I 0]):=rep_cpy _ _ C n hC2 _ rfl (min C (n - C)) rfl
  have hta : (List.replicate C (D.agg [Bo v.b,I v.n]) ++ List.replicate (n - C) (D.agg [Bo false,I 0])).take C = List.replicate C (D.agg [Bo v.b,I v.n]):=List.take_left' List.length_replicate
  refine go1R trivial ?_
  (with_reducible first | refine dw_reg0 ?_ | refine dw_regB ?_)
  conv=>arg 3; whnf
  repeat' ((fail_if_success (with_reducible first | refine dw_reg0 ?_ | refine dw_regB ?_)); first | with_reducible refine acc_none ?_ | (conv in hold _=>simp (disch:=omega) only [go_sem,hz])|refine Stp.go ?_|(with_reducible first|refine it_pos rfl ?_|refine it_neg (by decide) ?_|refine st_nil rfl ?_|refine s_op ?_ ?_|exact trivial)|((with_reducible first|refine dw_reg0 ?_|refine dw_regB ?_);(conv=>arg 3;whnf))|(refine Spl.go (fun hq he=>?_) (fun hq he=>?_)<;>first|(exfalso;clear hq;omega)|((try first|(conv=>arg 8;simp only [hq])|(conv=>arg 4;simp only [hq]));clear hq))|((with_reducible first|refine c_split (fun hq=>?_) (fun hq=>?_)|refine q_split (fun hq=>?_) (fun hq=>?_))<;>(try first|(conv=>arg 8;simp only [hq])|(conv=>arg 4;simp only [hq])))|(with_reducible refine fin_0 ?_ (by first|rfl|(conv=>lhs;simp only [go_sem,hz])) ?_)|exact Sub.refl _|omega)
  ·obtain ⟨hin,hnx⟩:=hnx (by omega)
   obtain ⟨m,hmq⟩ : ∃ m,min C (n - C) = m:=⟨_,rfl⟩
   rw [hmq] at hcp hnx
   have hmc : m ≤ n:=by omega
   have ecm : ((C + m : Nat) : Int) = (C : Int) + (m : Int):=by omega
   rw [hnx]
   (with_reducible first | refine dw_reg0 ?_ | refine dw_regB ?_)
   conv=>arg 3; whnf
   refine go1 (cj3 @hta @hcp @hmq) ?_
   refine ⟨hin,trivial,Wk.list [1000000] rfl rfl ?_⟩
   repeat' (first|(conv in hold _=>simp (disch:=omega) only [go_sem,hzz,ecm])|exact trivial|exact Sub.refl _|omega)
  ·obtain rfl : C = n:=by omega
   repeat' (first|with_reducible refine acc_none ?_ | (conv in hold _=>simp (disch:=omega) only [go_sem,Nat.sub_self,List.replicate_zero])|refine Stp.go ?_|(with_reducible first|refine it_pos rfl ?_|refine it_neg (by decide) ?_|refine st_nil rfl ?_|refine s_op ?_ ?_|exact trivial)|((with_reducible first|refine dw_reg0 ?_|refine dw_regB ?_);(conv=>arg 3;whnf))|(refine Spl.go (fun hq he=>?_) (fun hq he=>?_)<;>first|(exfalso;clear hq;omega)|((try first|(conv=>arg 8;simp only [hq])|(conv=>arg 4;simp only [hq]));clear hq))|((with_reducible first|refine c_split (fun hq=>?_) (fun hq=>?_)|refine q_split (fun hq=>?_) (fun hq=>?_))<;>(try first|(conv=>arg 8;simp only [hq])|(conv=>arg 4;simp only [hq])))|(with_reducible refine fin_0 ?_ (by first|rfl|(conv=>lhs;simp only [go_sem,Nat.sub_self,List.replicate_zero])) ?_)|exact Sub.refl _|omega)
   refine fin_L [1000000] ?_ ?_ rfl ?_
   repeat' (first|(conv in hold _=>simp (disch:=omega) only [go_sem,Nat.sub_self,List.replicate_zero,hv])|exact trivial|exact Sub.refl _|omega)
theorem nullRow_ok (n : Nat) (h0 : 0 < n) (h : n ≤ 1000) : Does Tryz.prog 187 [] [I n] (rowD (nulR n)) []:=by
 have h1:=repeatV_own ⟨true,0⟩ n h0 h
 have h2 : vD ⟨true,0⟩ = .agg [Bo true,I 0]:=rfl
 rw [h2] at h1
 have ht : (List.replicate n (D.agg [Bo true,I 0])).take n = List.replicate n (.agg [Bo true,I 0]):=List.take_of_length_le (by rw [List.length_replicate]; exact Nat.le_refl _)
 have hp : D.purL (List.replicate n (D.agg [Bo true,I 0])) = true:=D.purL_iff.2 (fun d hd=>by rw [(List.mem_replicate.1 hd).2]; rfl)
 have hren : ∀ L,D.renL L (List.replicate n (D.agg [Bo true,I 0])) = List.replicate n (.agg [Bo true,I 0]):=fun L=>by rw [D.renL_map,List.map_replicate]; rfl
 have hr : rowD (nulR n) = .sl 2 (List.replicate n (.agg [Bo true,I 0])):=by rw [rowD,nulR,List.map_replicate]; rfl
 rw [hr]
 refine Bk c_Z133 mixed 0 (go1F trivial ?_)
 refine UcR [3000001] trivial (h1) (go1F trivial ?_)
 refine fin_wk (wk_frz 2 3000001 (by decide) (by decide) rfl ?_) ?_
 rotate_left
 (conv in hold _=>simp (disch:=omega) only [go_sem,ht,hren,List.length_replicate,Nat.le_refl])
 ·refine fin_L [] ?_ ?_ rfl ?_
  repeat' (first|(conv in hold _=>simp (disch:=omega) only [go_sem])|exact trivial|exact Sub.refl _|omega)
 ·rw [hren]; exact hp
theorem cloneV_own (vs : List V) (h0 : 0 < vs.length) (hl : vs.length < 2000000) : Does Tryz.prog 97 [] [rowD vs] (.own 1000000 2 vs.length) [.row 2 (vs.map vD)]:=by
 refine Bk c_Z8 mixed 0 (go1 trivial ?_)
 refine fin_L [2000007] ?_ ?_ rfl ?_
 repeat' (first|(conv in hold _=>simp (disch:=omega) only [go_sem,take_all])|exact trivial|exact Sub.refl _|omega)
end Go.Proofs.YtjngffbghkafaaaGreat
