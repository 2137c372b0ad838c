/-
  The library's sort of rows lies at this program: its closure's bodies and types. Closed facts of the program alone.
-/
import Derived.Shelf.SlLaysF
import Derived.Shelf.SlGeneric
import Derived.KernelRfl
import Derived.Test.YtjngffbghkafaaaGreatKSDca
import Derived.Test.YtjngffbghkafaaaGreatJSVGo
import Derived.Test.YtjngffbghkafaaaGreatKSDcb
import Derived.Test.YtjngffbghkafaaaGreatJSVTbD
import Derived.Test.YtjngffbghkafaaaGreatJSVGi
import Derived.Test.YtjngffbghkafaaaGreatKSDcc
import Derived.Test.YtjngffbghkafaaaGreatJSDcVWidD
import Derived.Test.YtjngffbghkafaaaGreatKSDci
namespace Go.Proofs.YtjngffbghkafaaaGreat
open Go.Shelf
def rowsSort_ren : Go.Shelf.Ren:=⟨fun | 6=>95 | 15=>158 | 14=>157 | 28=>205 | 29=>206 | 20=>197 | 21=>198 | 22=>199 | 23=>200 | 24=>201 | 25=>202 | 26=>203 | 27=>204 | 46=>225 | 47=>226 | 48=>227 | 49=>228 | 50=>229 | 57=>242 | n=>n,fun | 22=>44 | 24=>59 | 25=>133 | 3=>3 | 39=>191 | 0=>0 | 53=>253 | 55=>255 | 4=>4 | 46=>246 | 45=>245 | 50=>250 | 5=>5 | 9=>9 | 66=>276 | 70=>280 | 76=>289 | 77=>290 | n=>n,fun | n=>n⟩
theorem rowsSort : Go.Proofs.SlLaysF.n6 Tryz.prog rowsSort_ren:={
 mixed:=by kernel_rfl
 f6:=⟨Tryz.f95.name,by decide,Tryz.func95.trans (congrArg some (by kernel_rfl))⟩
 f14:=⟨Tryz.f157.name,by decide,Tryz.func157.trans (congrArg some (by kernel_rfl))⟩
 f15:=Tryz.func158.trans (congrArg some (by kernel_rfl))
 f20:=⟨Tryz.f197.name,by decide,Tryz.func197.trans (congrArg some (by kernel_rfl))⟩
 f21:=⟨Tryz.f198.name,by decide,Tryz.func198.trans (congrArg some (by kernel_rfl))⟩
 f22:=⟨Tryz.f199.name,by decide,Tryz.func199.trans (congrArg some (by kernel_rfl))⟩
 f23:=⟨Tryz.f200.name,by decide,Tryz.func200.trans (congrArg some (by kernel_rfl))⟩
 f24:=⟨Tryz.f201.name,by decide,Tryz.func201.trans (congrArg some (by kernel_rfl))⟩
 f25:=⟨Tryz.f202.name,by decide,Tryz.func202.trans (congrArg some (by kernel_rfl))⟩
 f26:=⟨Tryz.f203.name,by decide,Tryz.func203.trans (congrArg some (by kernel_rfl))⟩
 f27:=⟨Tryz.f204.name,by decide,Tryz.func204.trans (congrArg some (by kernel_rfl))⟩
 f28:=Tryz.func205.trans (congrArg some (by kernel_rfl))
 f29:=Tryz.func206.trans (congrArg some (by kernel_rfl))
 f46:=⟨Tryz.f225.name,by decide,Tryz.func225.trans (congrArg some (by kernel_rfl))⟩
 f47:=Tryz.func226.trans (congrArg some (by kernel_rfl))
 f48:=Tryz.func227.trans (congrArg some (by kernel_rfl))
 f49:=⟨Tryz.f228.name,by decide,Tryz.func228.trans (congrArg some (by kernel_rfl))⟩
 f50:=⟨Tryz.f229.name,by decide,Tryz.func229.trans (congrArg some (by kernel_rfl))⟩
 f57:=⟨Tryz.f242.name,by decide,Tryz.func242.trans (congrArg some (by kernel_rfl))⟩
 t0:=Tryz.underlying0
 a0:=Tryz.isAgg0
 z0:=Tryz.sizeOf0
 v0:=Tryz.zeroValue0
 t3:=Tryz.underlying3
 a3:=Tryz.isAgg3
 z3:=Tryz.sizeOf3
 v3:=Tryz.zeroValue3
 t4:=Tryz.underlying4
 a4:=Tryz.isAgg4
 z4:=Tryz.sizeOf4
 v4:=Tryz.zeroValue4
 t5:=Tryz.underlying5
 a5:=Tryz.isAgg5
 z5:=Tryz.sizeOf5
 v5:=Tryz.zeroValue5
 t9:=Tryz.underlying9
 a9:=Tryz.isAgg9
 z9:=Tryz.sizeOf9
 v9:=Tryz.zeroValue9
 t22:=Tryz.underlying44
 a22:=Tryz.isAgg44
 z22:=Tryz.sizeOf44
 v22:=Tryz.zeroValue44
 a24:=Tryz.isAgg59
 z24:=Tryz.sizeOf59
 t25:=Tryz.underlying133
 a25:=Tryz.isAgg133
 z25:=Tryz.sizeOf133
 v25:=Tryz.zeroValue133
 t39:=Tryz.underlying191
 a39:=Tryz.isAgg191
 z39:=Tryz.sizeOf191
 v39:=Tryz.zeroValue191
 t45:=Tryz.underlying245
 a45:=Tryz.isAgg245
 z45:=Tryz.sizeOf245
 v45:=Tryz.zeroValue245
 t46:=Tryz.underlying246
 a46:=Tryz.isAgg246
 z46:=Tryz.sizeOf246
 v46:=Tryz.zeroValue246
 t50:=Tryz.underlying250
 a50:=Tryz.isAgg250
 z50:=Tryz.sizeOf250
 v50:=Tryz.zeroValue250
 t53:=Tryz.underlying253
 a53:=Tryz.isAgg253
 z53:=Tryz.sizeOf253
 v53:=Tryz.zeroValue253
 t55:=Tryz.underlying255
 a55:=Tryz.isAgg255
 z55:=Tryz.sizeOf255
 v55:=Tryz.zeroValue255
 t66:=Tryz.underlying276
 a66:=Tryz.isAgg276
 z66:=Tryz.sizeOf276
 v66:=Tryz.zeroValue276
 t70:=Tryz.underlying280
 a70:=Tryz.isAgg280
 z70:=Tryz.sizeOf280
 v70:=Tryz.zeroValue280
 t76:=Tryz.underlying289
 a76:=Tryz.isAgg289
 z76:=Tryz.sizeOf289
 v76:=Tryz.zeroValue289
 t77:=Tryz.underlying290
 a77:=Tryz.isAgg290
 z77:=Tryz.sizeOf290
 v77:=Tryz.zeroValue290 }
end Go.Proofs.YtjngffbghkafaaaGreat
set_option maxHeartbeats 4000000
set_option maxRecDepth 100000
set_option linter.unusedVariables false
set_option linter.unusedSimpArgs false
namespace Go.Proofs.YtjngffbghkafaaaGreat
open Go.RowKit
def tupR (r : List V) : D:=.tup [rowD r]
theorem tupR_at {rs : List (List V)} {i : Nat} {es : List D} (h : (rs.map tupR)[i]? = some (.tup es)) : ∃ r,rs[i]? = some r ∧ es = [rowD r]:=by
 rw [List.getElem?_map] at h
 cases hr : rs[i]? with
 | none=>rw [hr] at h; cases h
 | some r=>
  rw [hr] at h
  simp only [Option.map_some,Option.some.injEq,tupR,D.tup.injEq] at h
  exact ⟨r,rfl,h.symm⟩
theorem values_rows (rs : List (List V)) (hl : rs.length ≤ 100000) : Yields Tryz.prog 189 [.ptr [rowsD rs]] (rs.map tupR):=by
 refine yields c_Z2 mixed (Nat.le_of_ble_eq_true rfl) (fun i e=>?_)
 conv=>arg 3; whnf
 refine go1 trivial ?_
 refine dw_for (c:=0) (l:=fun j=>[(0,.v (.func (.yield i) #[] #[])),(1,.ptr [rowsD rs]),(5,rowsD rs),(6,I rs.length),(7,I j),(gh,.gho i (rs.map tupR) e j)]) rs.length (fun j=>j ≤ e) 0 (Nat.zero_le _) (Wk.list [] rfl rfl ?_) (fun j hj hJ=>?_) (Nat.zero_le _)
 ·repeat' (first|(conv in hold _=>simp (disch:=omega) only [go_sem])|exact trivial|exact Sub.refl _|omega)
  exact rfl
 ·rcases at_or_end hj with ⟨x,hx,hlt⟩ | rfl
  ·refine go1 @hx ?_
   refine v_yld (by ((conv=>lhs; simp (disch:=omega) only [go_sem]); try rfl)) (hJ) ((by rw [List.getElem?_map,hx]; rfl)) (by first | rfl | (simp only [go_sem])) ?_
   repeat' (first|with_reducible refine acc_none ?_ | (conv in hold _=>simp (disch:=omega) only [go_sem])|refine Stp.go ?_|(with_reducible first|refine it_pos rfl ?_|refine it_neg (by decide) ?_|refine st_nil rfl ?_|refine s_op ?_ ?_|exact trivial)|((with_reducible first|refine dw_reg0 ?_|refine dw_regB ?_);(conv=>arg 3;whnf))|(refine Spl.go (fun hq he=>?_) (fun hq he=>?_)<;>first|(exfalso;clear hq;omega)|((try first|(conv=>arg 8;simp only [hq])|(conv=>arg 4;simp only [hq]));clear hq))|((with_reducible first|refine c_split (fun hq=>?_) (fun hq=>?_)|refine q_split (fun hq=>?_) (fun hq=>?_))<;>(try first|(conv=>arg 8;simp only [hq])|(conv=>arg 4;simp only [hq])))|(with_reducible refine fin_0 ?_ (by first|rfl|(conv=>lhs;simp only [go_sem])) ?_)|exact Sub.refl _|omega)
   ·refine ⟨(j + 1),?_,?_⟩
    ·((conv=>lhs; simp (disch:=omega) only [go_sem]); try rfl)
    simp only [List.length_map]
    omega
   ·refine ⟨hlt,by omega,Wk.list [] rfl rfl ?_⟩
    repeat' (first|(conv in hold _=>simp (disch:=omega) only [go_sem])|exact trivial|exact Sub.refl _|omega)
  ·refine go1 trivial ?_
   refine ⟨rs.length,?_,?_⟩
   ·((conv=>lhs; simp (disch:=omega) only [go_sem]); try rfl)
   rw [List.length_map]
   omega
theorem Values_rows (rs : List (List V)) : Does Tryz.prog 152 [] [rowsD rs] (.fn 189 [.ptr [rowsD rs]]) []:=by
 refine Bg c_Z4 mixed (go1F trivial ?_)
 refine fin_wk (wk_fro 2 2000001 (by decide) (by decide) rfl ?_) ?_
 rotate_left
 (conv in hold _=>simp (disch:=omega) only [go_sem])
 ·refine fin_L [] ?_ ?_ rfl ?_
  repeat' (first|(conv in hold _=>simp (disch:=omega) only [go_sem])|exact trivial|exact Sub.refl _|omega)
 ·rfl
theorem appendSeq_rows {f : FuncId} (hf : enters Tryz.prog f = true) {caps : List D} (hcp : D.purL caps = true) (rs : List (List V)) (hl : rs.length ≤ 100000) (hY : Yields Tryz.prog f caps (rs.map tupR)) :
  Does Tryz.prog 245 [] [.nul,.fn f caps] (.own 1000000 1 rs.length) [.row 1 (rs.map rowD)]:=by
 have hren:=fun L=>ren_pure.renL_pure L caps hcp
 refine Bk c_Z1 mixed 0 (go1 trivial ?_)
 refine dw_rng f caps (rs.map tupR) 1 2 [(2,.ref 1000000 0),(6,.fn f caps)] (fun i=>[(1000000,.obj [.own 1000001 1 i]),(1000001,.row 1 ((rs.take i).map rowD))]) hY hf hcp (Nat.zero_le _) (by decide) (by decide) ?_ (fun i=>namesOK_of rfl) ((wk_rowO 2000002 3000000 1 0 (by decide) (by decide) (by decide) rfl rfl rfl).trans (Wk.list [2000002,3000000] rfl rfl ?_)) rfl (fun i es h=>by obtain ⟨_,_,rfl⟩:=tupR_at h; rfl) (fun i es h hp=>?_) ?_
 ·simp (disch:=omega) only [go_sem,hren,and_self,Nat.reduceLT]
 ·repeat' (first|(conv in hold _=>simp (disch:=omega) only [go_sem,hren])|exact trivial|exact Sub.refl _|omega)
 ·obtain ⟨r,hr,rfl⟩:=tupR_at h
  have hlt:=(List.getElem?_eq_some_iff.1 hr).1
  have hmk : ((rs.take i).map rowD).take i = (rs.take i).map rowD:=take_map rowD (by omega)
  have hnx:=take_next hr
  have htl:=take_len (vs:=rs) (i:=i) (by omega)
  refine go1 @htl ?_
  refine Wk.list [1000000,2000011] rfl rfl ?_
  repeat' (first|(conv in hold _=>simp (disch:=omega) only [go_sem,List.length_map,htl])|exact trivial|exact Sub.refl _|omega)
  rw [hmk,hnx,List.map_append]
  rfl
 ·have e1 : rs.take rs.length = rs:=List.take_length
  refine go1 @e1 ?_
  refine fin_L [1000001] ?_ ?_ rfl ?_
  repeat' (first|(conv in hold _=>simp (disch:=omega) only [go_sem,List.length_map,e1])|exact trivial|exact Sub.refl _|omega)
theorem collect_rows {f : FuncId} (hf : enters Tryz.prog f = true) {caps : List D} (hcp : D.purL caps = true) (rs : List (List V)) (hl : rs.length ≤ 100000) (hY : Yields Tryz.prog f caps (rs.map tupR)) :
  Does Tryz.prog 241 [] [.fn f caps] (.own 1000000 1 rs.length) [.row 1 (rs.map rowD)]:=by
 have hren:=fun L=>ren_pure.renL_pure L caps hcp
 have ha:=appendSeq_rows hf hcp rs hl hY
 refine Bk c_Z16 mixed 0 (go1 trivial ?_)
 refine UcR [3000001] @hren (ha) (go1 @hren ?_)
 refine fin_L [3000001] ?_ ?_ rfl ?_
 repeat' (first|(conv in hold _=>simp (disch:=omega) only [go_sem])|exact trivial|exact Sub.refl _|omega)
end Go.Proofs.YtjngffbghkafaaaGreat
set_option maxHeartbeats 4000000
set_option maxRecDepth 100000
namespace Go.Proofs.YtjngffbghkafaaaGreat
open Go.RowKit
structure V.near (v : V) : Prop where
 lo : -10000 ≤ v.n
 hi : v.n ≤ 10000
end Go.Proofs.YtjngffbghkafaaaGreat
namespace Go.Proofs.YtjngffbghkafaaaGreat
open Go.RowKit
theorem does_toInt (b : Bool) : Does Tryz.prog 211 [] [.v (.bool b)] (.v (.int .i64 (if b then 1 else 0))) []:=by
 refine does0 c_Z169 mixed (Nat.le_of_ble_eq_true rfl) ?_
 conv=>arg 3; whnf
 repeat' (first|with_reducible refine acc_none ?_ | (conv in hold _=>simp (disch:=omega) only [go_sem])|refine Stp.go ?_|(with_reducible first|refine it_pos rfl ?_|refine it_neg (by decide) ?_|refine st_nil rfl ?_|refine s_op ?_ ?_|exact trivial)|((with_reducible first|refine dw_reg0 ?_|refine dw_regB ?_);(conv=>arg 3;whnf))|(refine Spl.go (fun hq he=>?_) (fun hq he=>?_)<;>first|(exfalso;clear hq;omega)|((try first|(conv=>arg 8;simp only [hq])|(conv=>arg 4;simp only [hq]));clear hq))|((with_reducible first|refine c_split (fun hq=>?_) (fun hq=>?_)|refine q_split (fun hq=>?_) (fun hq=>?_))<;>(try first|(conv=>arg 8;simp only [hq])|(conv=>arg 4;simp only [hq])))|(with_reducible refine fin_0 ?_ (by first|rfl|(conv=>lhs;simp only [go_sem])) ?_)|exact Sub.refl _|omega)
 ·subst hq; exact Sub.refl _
 ·subst hq; exact Sub.refl _
theorem does_kidsOf (k : Int) : Does Tryz.prog 214 [] [I k] (I (kidsN k)) []:=by
 refine does0 c_Z164 mixed (Nat.le_of_ble_eq_true rfl) ?_
 conv=>arg 3; whnf
 repeat' (first|with_reducible refine acc_none ?_ | (conv in hold _=>simp (disch:=omega) only [go_sem])|refine Stp.go ?_|(with_reducible first|refine it_pos rfl ?_|refine it_neg (by decide) ?_|refine st_nil rfl ?_|refine s_op ?_ ?_|exact trivial)|((with_reducible first|refine dw_reg0 ?_|refine dw_regB ?_);(conv=>arg 3;whnf))|(refine Spl.go (fun hq he=>?_) (fun hq he=>?_)<;>first|(exfalso;clear hq;omega)|((try first|(conv=>arg 8;simp only [hq])|(conv=>arg 4;simp only [hq]));clear hq))|((with_reducible first|refine c_split (fun hq=>?_) (fun hq=>?_)|refine q_split (fun hq=>?_) (fun hq=>?_))<;>(try first|(conv=>arg 8;simp only [hq])|(conv=>arg 4;simp only [hq])))|(with_reducible refine fin_0 ?_ (by first|rfl|(conv=>lhs;simp only [go_sem])) ?_)|exact Sub.refl _|omega)
 all_goals (refine Sub.of_eq ?_; unfold kidsN; congr 2; omega)
end Go.Proofs.YtjngffbghkafaaaGreat
set_option maxHeartbeats 4000000
set_option maxRecDepth 100000
namespace Go.Proofs.YtjngffbghkafaaaGreat
open Go.ChangeShapes Go.WideShapes Go.ChangeAt Go.RowKit Go.Joins Go.Deep
theorem cells_int : Tryz.prog.cellsOf 3 = 1:=by kernel_rfl
section
variable {H : Type} {enc : TypeId × Value → H} {W : World} {base b0 : Nat} {held : Bool} {r : Reach} {v : Value} {d : DataW H} {p : List MemPlace}
theorem trod_4 {P : Program} {spare : Nat → Bool} {t : TypeId} {f0 f1 f2 f3 : Field} {fuel : Nat} {cs : List Value} {x : DataW H × List MemPlace} (ht : P.underlying t = some (.struct #[f0,f1,f2,f3])) (h : DataW.trod enc P W base spare held fuel t cs = some x) :
  ∃ y0 y1 y2 y3 n,fuel = n + 1 ∧ cs.length = P.cellsOf t ∧ DataW.trod enc P W base spare held n f0.type ((cs.drop f0.offset).take (P.cellsOf f0.type)) = some y0 ∧
   DataW.trod enc P W base spare held n f1.type ((cs.drop f1.offset).take (P.cellsOf f1.type)) = some y1 ∧ DataW.trod enc P W base spare held n f2.type ((cs.drop f2.offset).take (P.cellsOf f2.type)) = some y2 ∧
   DataW.trod enc P W base spare held n f3.type ((cs.drop f3.offset).take (P.cellsOf f3.type)) = some y3:=by
 obtain ⟨xs,n,hn,_,hl,hlen,hf⟩:=DataW.trod_struct ht h
 have hs : xs.length = 4:=by simpa using hlen
 match xs,hs with
 | [y0,y1,y2,y3],_=>exact ⟨y0,y1,y2,y3,n,hn,hl,by simpa using hf 0 f0 rfl,by simpa using hf 1 f1 rfl,by simpa using hf 2 f2 rfl,by simpa using hf 3 f3 rfl⟩
theorem agg_fz {ds : List D} {cs : Array Value} (h : CellsOK W (allOf W) noNames ds cs.toList) : Fz W (allOf W) noNames (.agg ds) (.agg cs):=by
 have:=Fz.agg noNames ds cs.toList h.len h.one h.fz
 simpa using this
end
theorem calls_2 {f : FuncId} {d0 d1 : D} {v0 v1 : Value} {w : World} (h : Does Tryz.prog f [] [d0,d1] (Bo true) []) (h0 : Fz w (allOf w) noNames d0 v0) (h1 : Fz w (allOf w) noNames d1 v1) : Calls Tryz.prog f #[v0,v1] w fun e W'=>e = .returned (.bool true) ∧ Below w.heap.size w W':=by
 refine calls_of h w [v0,v1] rfl (fun i d x hd hx=>?_)
 rcases i with _ | _ | i
 ·obtain rfl : d0 = d:=by simpa using hd
  obtain rfl : v0 = x:=by simpa using hx
  exact h0
 ·obtain rfl : d1 = d:=by simpa using hd
  obtain rfl : v1 = x:=by simpa using hx
  exact h1
 ·simp at hd
end Go.Proofs.YtjngffbghkafaaaGreat
set_option maxHeartbeats 4000000
set_option maxRecDepth 100000
namespace Go.Proofs.YtjngffbghkafaaaGreat
open Go.RowKit
theorem toValue_ok (v : V) : Does Tryz.prog 130 [] [vD v] (vD v) []:=by
 refine does0 c_Z146 mixed (Nat.le_of_ble_eq_true rfl) ?_
 conv=>arg 3; whnf
 repeat' (first|with_reducible refine acc_none ?_ | (conv in hold _=>simp (disch:=omega) only [go_sem])|refine Stp.go ?_|(with_reducible first|refine it_pos rfl ?_|refine it_neg (by decide) ?_|refine st_nil rfl ?_|refine s_op ?_ ?_|exact trivial)|((with_reducible first|refine dw_reg0 ?_|refine dw_regB ?_);(conv=>arg 3;whnf))|(refine Spl.go (fun hq he=>?_) (fun hq he=>?_)<;>first|(exfalso;clear hq;omega)|((try first|(conv=>arg 8;simp only [hq])|(conv=>arg 4;simp only [hq]));clear hq))|((with_reducible first|refine c_split (fun hq=>?_) (fun hq=>?_)|refine q_split (fun hq=>?_) (fun hq=>?_))<;>(try first|(conv=>arg 8;simp only [hq])|(conv=>arg 4;simp only [hq])))|(with_reducible refine fin_0 ?_ (by first|rfl|(conv=>lhs;simp only [go_sem])) ?_)|exact Sub.refl _|omega)
theorem eqValue_ok (v : V) : Does Tryz.prog 135 [] [vD v,vD v] (Bo true) []:=by
 refine does0 c_Z139 mixed (Nat.le_of_ble_eq_true rfl) ?_
 conv=>arg 3; whnf
 repeat' (first|with_reducible refine acc_none ?_ | (conv in hold _=>simp (disch:=omega) only [go_sem,beq_self_eq_true,bne_self_eq_false])|refine Stp.go ?_|(with_reducible first|refine it_pos rfl ?_|refine it_neg (by decide) ?_|refine st_nil rfl ?_|refine s_op ?_ ?_|exact trivial)|((with_reducible first|refine dw_reg0 ?_|refine dw_regB ?_);(conv=>arg 3;whnf))|(refine Spl.go (fun hq he=>?_) (fun hq he=>?_)<;>first|(exfalso;clear hq;omega)|((try first|(conv=>arg 8;simp only [hq])|(conv=>arg 4;simp only [hq]));clear hq))|((with_reducible first|refine c_split (fun hq=>?_) (fun hq=>?_)|refine q_split (fun hq=>?_) (fun hq=>?_))<;>(try first|(conv=>arg 8;simp only [hq])|(conv=>arg 4;simp only [hq])))|(with_reducible refine fin_0 ?_ (by first|rfl|(conv=>lhs;simp only [go_sem,beq_self_eq_true,bne_self_eq_false])) ?_)|exact Sub.refl _|omega)
end Go.Proofs.YtjngffbghkafaaaGreat
