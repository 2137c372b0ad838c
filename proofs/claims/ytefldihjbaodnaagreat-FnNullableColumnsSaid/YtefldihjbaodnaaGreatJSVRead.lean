/-
  The library's sort of rows lies at this program: its closure's bodies and types. Closed facts of the program alone.
-/
import Derived.Shelf.SlLaysF
import Derived.Shelf.SlGeneric
import Derived.KernelRfl
import Derived.Test.YtefldihjbaodnaaGreatKSDca
import Derived.Test.YtefldihjbaodnaaGreatJSVGo
import Derived.Test.YtefldihjbaodnaaGreatJSDcWPRowE
import Derived.Test.YtefldihjbaodnaaGreatJSVTbD
namespace Go.Proofs.YtefldihjbaodnaaGreat
open Go.Shelf
def rowsSort_ren : Go.Shelf.Ren:=⟨fun | 6=>68 | 15=>124 | 14=>123 | 28=>180 | 29=>181 | 20=>172 | 21=>173 | 22=>174 | 23=>175 | 24=>176 | 25=>177 | 26=>178 | 27=>179 | 46=>203 | 47=>204 | 48=>205 | 49=>206 | 50=>207 | 57=>220 | n=>n,fun | 22=>31 | 24=>46 | 25=>110 | 3=>3 | 39=>162 | 0=>0 | 53=>225 | 55=>227 | 4=>4 | 46=>218 | 45=>217 | 50=>222 | 5=>5 | 9=>9 | 66=>251 | 70=>255 | 76=>264 | 77=>265 | n=>n,fun | n=>n⟩
theorem rowsSort : Go.Proofs.SlLaysF.n6 Tryz.prog rowsSort_ren:={
 mixed:=by kernel_rfl
 f6:=⟨Tryz.f68.name,by decide,Tryz.func68.trans (congrArg some (by kernel_rfl))⟩
 f14:=⟨Tryz.f123.name,by decide,Tryz.func123.trans (congrArg some (by kernel_rfl))⟩
 f15:=Tryz.func124.trans (congrArg some (by kernel_rfl))
 f20:=⟨Tryz.f172.name,by decide,Tryz.func172.trans (congrArg some (by kernel_rfl))⟩
 f21:=⟨Tryz.f173.name,by decide,Tryz.func173.trans (congrArg some (by kernel_rfl))⟩
 f22:=⟨Tryz.f174.name,by decide,Tryz.func174.trans (congrArg some (by kernel_rfl))⟩
 f23:=⟨Tryz.f175.name,by decide,Tryz.func175.trans (congrArg some (by kernel_rfl))⟩
 f24:=⟨Tryz.f176.name,by decide,Tryz.func176.trans (congrArg some (by kernel_rfl))⟩
 f25:=⟨Tryz.f177.name,by decide,Tryz.func177.trans (congrArg some (by kernel_rfl))⟩
 f26:=⟨Tryz.f178.name,by decide,Tryz.func178.trans (congrArg some (by kernel_rfl))⟩
 f27:=⟨Tryz.f179.name,by decide,Tryz.func179.trans (congrArg some (by kernel_rfl))⟩
 f28:=Tryz.func180.trans (congrArg some (by kernel_rfl))
 f29:=Tryz.func181.trans (congrArg some (by kernel_rfl))
 f46:=⟨Tryz.f203.name,by decide,Tryz.func203.trans (congrArg some (by kernel_rfl))⟩
 f47:=Tryz.func204.trans (congrArg some (by kernel_rfl))
 f48:=Tryz.func205.trans (congrArg some (by kernel_rfl))
 f49:=⟨Tryz.f206.name,by decide,Tryz.func206.trans (congrArg some (by kernel_rfl))⟩
 f50:=⟨Tryz.f207.name,by decide,Tryz.func207.trans (congrArg some (by kernel_rfl))⟩
 f57:=⟨Tryz.f220.name,by decide,Tryz.func220.trans (congrArg some (by kernel_rfl))⟩
 t0:=Tryz.underlying0
 a0:=Tryz.isAgg0
 z0:=Tryz.sizeOf0
 v0:=Tryz.zeroValue0
 t3:=Tryz.underlying3
 a3:=Tryz.isAgg3
 z3:=Tryz.sizeOf3
 v3:=Tryz.zeroValue3
 t4:=Tryz.underlying4
 a4:=Tryz.isAgg4
 z4:=Tryz.sizeOf4
 v4:=Tryz.zeroValue4
 t5:=Tryz.underlying5
 a5:=Tryz.isAgg5
 z5:=Tryz.sizeOf5
 v5:=Tryz.zeroValue5
 t9:=Tryz.underlying9
 a9:=Tryz.isAgg9
 z9:=Tryz.sizeOf9
 v9:=Tryz.zeroValue9
 t22:=Tryz.underlying31
 a22:=Tryz.isAgg31
 z22:=Tryz.sizeOf31
 v22:=Tryz.zeroValue31
 a24:=Tryz.isAgg46
 z24:=Tryz.sizeOf46
 t25:=Tryz.underlying110
 a25:=Tryz.isAgg110
 z25:=Tryz.sizeOf110
 v25:=Tryz.zeroValue110
 t39:=Tryz.underlying162
 a39:=Tryz.isAgg162
 z39:=Tryz.sizeOf162
 v39:=Tryz.zeroValue162
 t45:=Tryz.underlying217
 a45:=Tryz.isAgg217
 z45:=Tryz.sizeOf217
 v45:=Tryz.zeroValue217
 t46:=Tryz.underlying218
 a46:=Tryz.isAgg218
 z46:=Tryz.sizeOf218
 v46:=Tryz.zeroValue218
 t50:=Tryz.underlying222
 a50:=Tryz.isAgg222
 z50:=Tryz.sizeOf222
 v50:=Tryz.zeroValue222
 t53:=Tryz.underlying225
 a53:=Tryz.isAgg225
 z53:=Tryz.sizeOf225
 v53:=Tryz.zeroValue225
 t55:=Tryz.underlying227
 a55:=Tryz.isAgg227
 z55:=Tryz.sizeOf227
 v55:=Tryz.zeroValue227
 t66:=Tryz.underlying251
 a66:=Tryz.isAgg251
 z66:=Tryz.sizeOf251
 v66:=Tryz.zeroValue251
 t70:=Tryz.underlying255
 a70:=Tryz.isAgg255
 z70:=Tryz.sizeOf255
 v70:=Tryz.zeroValue255
 t76:=Tryz.underlying264
 a76:=Tryz.isAgg264
 z76:=Tryz.sizeOf264
 v76:=Tryz.zeroValue264
 t77:=Tryz.underlying265
 a77:=Tryz.isAgg265
 z77:=Tryz.sizeOf265
 v77:=Tryz.zeroValue265 }
end Go.Proofs.YtefldihjbaodnaaGreat
set_option maxHeartbeats 4000000
set_option maxRecDepth 100000
set_option linter.unusedVariables false
set_option linter.unusedSimpArgs false
namespace Go.Proofs.YtefldihjbaodnaaGreat
open Go.RowKit
def tupR (r : List V) : D:=.tup [rowD r]
theorem tupR_at {rs : List (List V)} {i : Nat} {es : List D} (h : (rs.map tupR)[i]? = some (.tup es)) : ∃ r,rs[i]? = some r ∧ es = [rowD r]:=by
 rw [List.getElem?_map] at h
 cases hr : rs[i]? with
 | none=>rw [hr] at h; cases h
 | some r=>
  rw [hr] at h
  simp only [Option.map_some,Option.some.injEq,tupR,D.tup.injEq] at h
  exact ⟨r,rfl,h.symm⟩
theorem values_rows (rs : List (List V)) (hl : rs.length ≤ 100000) : Yields Tryz.prog 164 [.ptr [rowsD rs]] (rs.map tupR):=by
 refine yields c_Z2 mixed (Nat.le_of_ble_eq_true rfl) (fun i e=>?_)
 conv=>arg 3; whnf
 refine go1 trivial ?_
 refine dw_for (c:=0) (l:=fun j=>[(0,.v (.func (.yield i) #[] #[])),(1,.ptr [rowsD rs]),(5,rowsD rs),(6,I rs.length),(7,I j),(gh,.gho i (rs.map tupR) e j)]) rs.length (fun j=>j ≤ e) 0 (Nat.zero_le _) (Wk.list [] rfl rfl ?_) (fun j hj hJ=>?_) (Nat.zero_le _)
 ·repeat' (first|(conv in hold _=>simp (disch:=omega) only [go_sem])|exact trivial|exact Sub.refl _|omega)
  exact rfl
 ·rcases at_or_end hj with ⟨x,hx,hlt⟩ | rfl
  ·refine go1 @hx ?_
   refine v_yld (by ((conv=>lhs; simp (disch:=omega) only [go_sem]); try rfl)) (hJ) ((by rw [List.getElem?_map,hx]; rfl)) (by first | rfl | (simp only [go_sem])) ?_
   repeat' (first|with_reducible refine acc_none ?_ | (conv in hold _=>simp (disch:=omega) only [go_sem])|refine Stp.go ?_|(with_reducible first|refine it_pos rfl ?_|refine it_neg (by decide) ?_|refine st_nil rfl ?_|refine s_op ?_ ?_|exact trivial)|((with_reducible first|refine dw_reg0 ?_|refine dw_regB ?_);(conv=>arg 3;whnf))|(refine Spl.go (fun hq he=>?_) (fun hq he=>?_)<;>first|(exfalso;clear hq;omega)|((try first|(conv=>arg 8;simp only [hq])|(conv=>arg 4;simp only [hq]));clear hq))|((with_reducible first|refine c_split (fun hq=>?_) (fun hq=>?_)|refine q_split (fun hq=>?_) (fun hq=>?_))<;>(try first|(conv=>arg 8;simp only [hq])|(conv=>arg 4;simp only [hq])))|(with_reducible refine fin_0 ?_ (by first|rfl|(conv=>lhs;simp only [go_sem])) ?_)|exact Sub.refl _|omega)
   ·refine ⟨(j + 1),?_,?_⟩
    ·((conv=>lhs; simp (disch:=omega) only [go_sem]); try rfl)
    simp only [List.length_map]
    omega
   ·refine ⟨hlt,by omega,Wk.list [] rfl rfl ?_⟩
    repeat' (first|(conv in hold _=>simp (disch:=omega) only [go_sem])|exact trivial|exact Sub.refl _|omega)
  ·refine go1 trivial ?_
   refine ⟨rs.length,?_,?_⟩
   ·((conv=>lhs; simp (disch:=omega) only [go_sem]); try rfl)
   rw [List.length_map]
   omega
theorem Values_rows (rs : List (List V)) : Does Tryz.prog 118 [] [rowsD rs] (.fn 164 [.ptr [rowsD rs]]) []:=by
 refine Bg c_Z4 mixed (go1F trivial ?_)
 refine fin_wk (wk_fro 2 2000001 (by decide) (by decide) rfl ?_) ?_
 rotate_left
 (conv in hold _=>simp (disch:=omega) only [go_sem])
 ·refine fin_L [] ?_ ?_ rfl ?_
  repeat' (first|(conv in hold _=>simp (disch:=omega) only [go_sem])|exact trivial|exact Sub.refl _|omega)
 ·rfl
theorem appendSeq_rows {f : FuncId} (hf : enters Tryz.prog f = true) {caps : List D} (hcp : D.purL caps = true) (rs : List (List V)) (hl : rs.length ≤ 100000) (hY : Yields Tryz.prog f caps (rs.map tupR)) :
  Does Tryz.prog 223 [] [.nul,.fn f caps] (.own 1000000 1 rs.length) [.row 1 (rs.map rowD)]:=by
 have hren:=fun L=>ren_pure.renL_pure L caps hcp
 refine Bk c_Z1 mixed 0 (go1 trivial ?_)
 refine dw_rng f caps (rs.map tupR) 1 2 [(2,.ref 1000000 0),(6,.fn f caps)] (fun i=>[(1000000,.obj [.own 1000001 1 i]),(1000001,.row 1 ((rs.take i).map rowD))]) hY hf hcp (Nat.zero_le _) (by decide) (by decide) ?_ (fun i=>namesOK_of rfl) ((wk_rowO 2000002 3000000 1 0 (by decide) (by decide) (by decide) rfl rfl rfl).trans (Wk.list [2000002,3000000] rfl rfl ?_)) rfl (fun i es h=>by obtain ⟨_,_,rfl⟩:=tupR_at h; rfl) (fun i es h hp=>?_) ?_
 ·simp (disch:=omega) only [go_sem,hren,and_self,Nat.reduceLT]
 ·repeat' (first|(conv in hold _=>simp (disch:=omega) only [go_sem,hren])|exact trivial|exact Sub.refl _|omega)
 ·obtain ⟨r,hr,rfl⟩:=tupR_at h
  have hlt:=(List.getElem?_eq_some_iff.1 hr).1
  have hmk : ((rs.take i).map rowD).take i = (rs.take i).map rowD:=take_map rowD (by omega)
  have hnx:=take_next hr
  have htl:=take_len (vs:=rs) (i:=i) (by omega)
  refine go1 @htl ?_
  refine Wk.list [1000000,2000011] rfl rfl ?_
  repeat' (first|(conv in hold _=>simp (disch:=omega) only [go_sem,List.length_map,htl])|exact trivial|exact Sub.refl _|omega)
  rw [hmk,hnx,List.map_append]
  rfl
 ·have e1 : rs.take rs.length = rs:=List.take_length
  refine go1 @e1 ?_
  refine fin_L [1000001] ?_ ?_ rfl ?_
  repeat' (first|(conv in hold _=>simp (disch:=omega) only [go_sem,List.length_map,e1])|exact trivial|exact Sub.refl _|omega)
theorem collect_rows {f : FuncId} (hf : enters Tryz.prog f = true) {caps : List D} (hcp : D.purL caps = true) (rs : List (List V)) (hl : rs.length ≤ 100000) (hY : Yields Tryz.prog f caps (rs.map tupR)) :
  Does Tryz.prog 219 [] [.fn f caps] (.own 1000000 1 rs.length) [.row 1 (rs.map rowD)]:=by
 have hren:=fun L=>ren_pure.renL_pure L caps hcp
 have ha:=appendSeq_rows hf hcp rs hl hY
 refine Bk c_Z15 mixed 0 (go1 trivial ?_)
 refine UcR [3000001] @hren (ha) (go1 @hren ?_)
 refine fin_L [3000001] ?_ ?_ rfl ?_
 repeat' (first|(conv in hold _=>simp (disch:=omega) only [go_sem])|exact trivial|exact Sub.refl _|omega)
end Go.Proofs.YtefldihjbaodnaaGreat
set_option maxHeartbeats 4000000
set_option maxRecDepth 100000
namespace Go.Proofs.YtefldihjbaodnaaGreat
open Go.RowKit
theorem newReader_ok (bs : List Nat) : Does Tryz.prog 25 [] [bytesD bs] (.ref 1000000 0) [rdD (bs.take 2000) 0]:=by
 refine does c_Z147 mixed (Nat.le_of_ble_eq_true rfl) 0 rfl ?_
 conv=>arg 3; whnf
 repeat' (first|with_reducible refine acc_none ?_ | (conv in hold _=>simp (disch:=omega) only [go_sem,bytesD])|refine Stp.go ?_|(with_reducible first|refine it_pos rfl ?_|refine it_neg (by decide) ?_|refine st_nil rfl ?_|refine s_op ?_ ?_|exact trivial)|((with_reducible first|refine dw_reg0 ?_|refine dw_regB ?_);(conv=>arg 3;whnf))|(refine Spl.go (fun hq he=>?_) (fun hq he=>?_)<;>first|(exfalso;clear hq;omega)|((try first|(conv=>arg 8;simp only [hq])|(conv=>arg 4;simp only [hq]));clear hq))|((with_reducible first|refine c_split (fun hq=>?_) (fun hq=>?_)|refine q_split (fun hq=>?_) (fun hq=>?_))<;>(try first|(conv=>arg 8;simp only [hq])|(conv=>arg 4;simp only [hq])))|(with_reducible refine fin_0 ?_ (by first|rfl|(conv=>lhs;simp only [go_sem,bytesD])) ?_)|exact Sub.refl _|omega)
 ·refine fin_L [2000010] ?_ ?_ rfl ?_
  repeat' (first|(conv in hold _=>simp (disch:=omega) only [go_sem,bytesD])|exact trivial|exact Sub.refl _|omega)
  rw [List.map_take]; rfl
 ·have e : bs.take 2000 = bs:=List.take_of_length_le (by omega)
  rw [e]
  refine fin_L [2000010] ?_ ?_ rfl ?_
  repeat' (first|(conv in hold _=>simp (disch:=omega) only [go_sem,bytesD])|exact trivial|exact Sub.refl _|omega)
  rfl
theorem pick_ok {bs : List Nat} (hs : Src bs) (p : Nat) (hp : p < 1000000000) (n : Int) (hn : n < 1000000000) :
  ∃ v : Int,Does Tryz.prog 60 [rdD bs p] [.ref 1000000 0,I n] (I v) [rdD bs (p + 1)] ∧ 0 ≤ v ∧ (1 ≤ n → v < n) ∧ (n < 1 → v = 0):=by
 have hbs:=hs.byte
 have hl:=hs.len
 have hat : ∀ k : Nat,k < bs.length → ∃ b : Nat,bs[k]? = some b ∧ b < 256:=fun k hk=>⟨bs[k],List.getElem?_eq_getElem hk,hbs _ (List.getElem_mem hk)⟩
 by_cases hn1 : n < 1
 ·refine ⟨0,?_,by omega,by omega,fun _=>rfl⟩
  refine Bk c_Z88 mixed 1 (go1 (cj2 @bytesD.eq_1 @rdD.eq_1) ?_)
  refine fin_L [1000000] ?_ ?_ rfl ?_
  repeat' (first|(conv in hold _=>simp (disch:=omega) only [go_sem,bytesD])|exact trivial|exact Sub.refl _|omega)
 ·by_cases hb : bs.length = 0
  ·refine ⟨0,?_,by omega,by omega,fun _=>rfl⟩
   refine Bk c_Z88 mixed 1 (go1 (cj2 @bytesD.eq_1 @rdD.eq_1) ?_)
   refine fin_L [1000000] ?_ ?_ rfl ?_
   repeat' (first|(conv in hold _=>simp (disch:=omega) only [go_sem,bytesD])|exact trivial|exact Sub.refl _|omega)
  ·have e : (p : Int) + 1 - 1 = p:=by omega
   by_cases hpl : p < bs.length
   ·obtain ⟨b,hb,hb2⟩:=hat p hpl
    have h1:=Int.tmod_lt_of_pos (b : Int) (show 0 < n by omega)
    have h2:=Int.tmod_nonneg n (show (0 : Int) ≤ (b : Int) by omega)
    refine ⟨(b : Int).tmod n,?_,by omega,by omega,by omega⟩
    refine Bk c_Z88 mixed 1 (go1 (cj5 @bytesD.eq_1 @rdD.eq_1 @e @hb @byteD.eq_1) ?_)
    refine fin_L [1000000] ?_ ?_ rfl ?_
    repeat' (first|(conv in hold _=>simp (disch:=omega) only [go_sem,bytesD])|exact trivial|exact Sub.refl _|omega)
   ·have hl1:=Int.tmod_lt_of_pos (p : Int) (show (0 : Int) < bs.length by omega)
    have hl2:=Int.tmod_nonneg bs.length (show (0 : Int) ≤ p by omega)
    have hm1:=Int.tmod_lt_of_pos ((p : Int) * 7 + 3) (show (0 : Int) < bs.length by omega)
    have hm2:=Int.tmod_nonneg bs.length (show (0 : Int) ≤ (p : Int) * 7 + 3 by omega)
    obtain ⟨b1,hb1,hb1'⟩:=hat ((p : Int).tmod bs.length).toNat (by omega)
    obtain ⟨b2,hb2,hb2'⟩:=hat (((p : Int) * 7 + 3).tmod bs.length).toNat (by omega)
    have hd1 : (0 : Int) ≤ (p : Int).tdiv bs.length:=Int.tdiv_nonneg (by omega) (by omega)
    have hd2 : (p : Int).tdiv bs.length ≤ p:=Int.tdiv_le_self _ (by omega)
    have hx0 : (0 : Int) ≤ (b1 : Int) * 131 + (b2 : Int) * 1117 + (p : Int) * 29 + (p : Int).tdiv bs.length * 53:=by omega
    have hx1 : (b1 : Int) * 131 + (b2 : Int) * 1117 + (p : Int) * 29 + (p : Int).tdiv bs.length * 53 < 1099511627776:=by omega
    have hy0 : (0 : Int) ≤ ((b1 : Int) * 131 + (b2 : Int) * 1117 + (p : Int) * 29 + (p : Int).tdiv bs.length * 53).tdiv 64:=Int.tdiv_nonneg hx0 (by omega)
    have hy1 : ((b1 : Int) * 131 + (b2 : Int) * 1117 + (p : Int) * 29 + (p : Int).tdiv bs.length * 53).tdiv 64 ≤ (b1 : Int) * 131 + (b2 : Int) * 1117 + (p : Int) * 29 + (p : Int).tdiv bs.length * 53:=Int.tdiv_le_self _ hx0
    have hw : IntKind.i64.wrap (((b1 : Int) * 131 + (b2 : Int) * 1117 + (p : Int) * 29 + (p : Int).tdiv bs.length * 53).tdiv 64) = ((b1 : Int) * 131 + (b2 : Int) * 1117 + (p : Int) * 29 + (p : Int).tdiv bs.length * 53).tdiv 64:=wrap64 (by omega) (by omega)
    have hxr:=xor_range hx0 hx1 hy0 (by omega)
    refine ⟨(intBit .xor .i64 ((b1 : Int) * 131 + (b2 : Int) * 1117 + (p : Int) * 29 + (p : Int).tdiv bs.length * 53) (((b1 : Int) * 131 + (b2 : Int) * 1117 + (p : Int) * 29 + (p : Int).tdiv bs.length * 53).tdiv 64)).tmod n,?_,Int.tmod_nonneg n hxr,fun h=>Int.tmod_lt_of_pos _ (by omega),fun h=>by omega⟩
    refine Bk c_Z88 mixed 1 (go1 (cj7 @bytesD.eq_1 @rdD.eq_1 @e @hb1 @hb2 @byteD.eq_1 @hw) ?_)
    refine fin_L [1000000] ?_ ?_ rfl ?_
    repeat' (first|(conv in hold _=>simp (disch:=omega) only [go_sem,bytesD])|exact trivial|exact Sub.refl _|omega)
theorem one_ok {bs : List Nat} (hs : Src bs) (p : Nat) (hp : p < 1000000000) (xs : List Int) (hx : 0 < xs.length) (hxl : xs.length < 1000) :
  ∃ v : Int,Does Tryz.prog 99 [rdD bs p] [.ref 1000000 0,.sl 1 (xs.map I)] (I v) [rdD bs (p + 1)] ∧ v ∈ xs:=by
 obtain ⟨k,hk,h0,h1,_⟩:=pick_ok hs p hp xs.length (by omega)
 have h1:=h1 (by omega)
 have hkx : k.toNat < xs.length:=by omega
 have e:=List.getElem?_eq_getElem hkx
 refine ⟨xs[k.toNat],?_,List.getElem_mem hkx⟩
 refine Bk c_Z111 mixed 1 (go1 trivial ?_)
 refine c_doesR [1000000] (hk) (callOK_of rfl (Nat.le_of_ble_eq_true rfl) rfl ?_ ?_) ?_ ?_
 ·repeat' (first|(conv in hold _=>simp (disch:=omega) only [go_sem,rdD,List.getElem?_map,e,Option.map_some])|exact trivial|exact Sub.refl _|omega)
 ·repeat' (first|(conv in hold _=>simp (disch:=omega) only [go_sem,rdD,List.getElem?_map,e,Option.map_some])|exact trivial|exact Sub.refl _|omega)
 ·((conv=>rhs;simp (disch:=omega) only [go_sem,rdD,List.getElem?_map,e,Option.map_some]); try rfl)
 repeat' (first|with_reducible refine acc_none ?_ | (conv in hold _=>simp (disch:=omega) only [go_sem,rdD,List.getElem?_map,e,Option.map_some])|refine Stp.go ?_|(with_reducible first|refine it_pos rfl ?_|refine it_neg (by decide) ?_|refine st_nil rfl ?_|refine s_op ?_ ?_|exact trivial)|((with_reducible first|refine dw_reg0 ?_|refine dw_regB ?_);(conv=>arg 3;whnf))|(refine Spl.go (fun hq he=>?_) (fun hq he=>?_)<;>first|(exfalso;clear hq;omega)|((try first|(conv=>arg 8;simp only [hq])|(conv=>arg 4;simp only [hq]));clear hq))|((with_reducible first|refine c_split (fun hq=>?_) (fun hq=>?_)|refine q_split (fun hq=>?_) (fun hq=>?_))<;>(try first|(conv=>arg 8;simp only [hq])|(conv=>arg 4;simp only [hq])))|(with_reducible refine fin_0 ?_ (by first|rfl|(conv=>lhs;simp only [go_sem,rdD,List.getElem?_map,e,Option.map_some])) ?_)|exact Sub.refl _|omega)
 refine fin_L [1000000] ?_ ?_ rfl ?_
 repeat' (first|(conv in hold _=>simp (disch:=omega) only [go_sem])|exact trivial|exact Sub.refl _|omega)
end Go.Proofs.YtefldihjbaodnaaGreat
