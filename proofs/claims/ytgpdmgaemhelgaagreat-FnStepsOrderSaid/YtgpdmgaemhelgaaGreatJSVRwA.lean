/-
  Columns replaced by expressions, by the program. No condition.
-/
import Derived.Test.YtgpdmgaemhelgaaGreatKSDca
import Derived.Test.YtgpdmgaemhelgaaGreatKSDcb
import Derived.Test.YtgpdmgaemhelgaaGreatKSDcc
import Derived.Test.YtgpdmgaemhelgaaGreatKSVClD
import Derived.Test.YtgpdmgaemhelgaaGreatJSVClC
import Derived.Test.YtgpdmgaemhelgaaGreatJSVEvI
import Derived.Test.YtgpdmgaemhelgaaGreatJSVYld
import Derived.Test.YtgpdmgaemhelgaaGreatJSDce
import Derived.Test.YtgpdmgaemhelgaaGreatJSVLaw
import Derived.Test.YtgpdmgaemhelgaaGreatRows
import Derived.Test.YtgpdmgaemhelgaaGreatJSVBox
set_option maxHeartbeats 4000000
set_option maxRecDepth 100000
set_option linter.unusedVariables false
set_option linter.unusedSimpArgs false
namespace Go.Proofs.YtgpdmgaemhelgaaGreat
open Go.RowKit
def subOk (bs : List E) (w : Int) (e : E) : Prop:=((1 ≤ (bs.length : Int) ∧ (bs.length : Int) ≤ 6) ∧ eOk e bs.length 8) ∧ (∀ b,b ∈ bs → (1 ≤ w ∧ w ≤ 6) ∧ eOk b w 8) ∧ (1 ≤ w ∧ w ≤ 6) ∧ eOk (subE bs e) w 8
def zR : D:=.tup [eD zE,Bo false]
theorem zE_sub : Sub (.tup [.agg [I 0,I 0,Bo false,I 0,.nul],Bo false]) zR:=Sub.tup ⟨by rw [eD_eq]; exact Sub.agg ⟨Sub.refl _,Sub.refl _,Sub.refl _,Sub.refl _,Sub.nul 5,trivial⟩,Sub.refl _,trivial⟩
theorem zR_pur : zR.pur = true:=by unfold zR; rw [eD_eq]; rfl
theorem visitS_ok (bs : List E) (e : E) (h : e.k = 1 → (0 ≤ e.c ∧ e.c < bs.length) ∧ ∀ b,b ∈ bs → esz b ≤ 800000) : Does Tryz.prog 234 [] [.agg [.sl 5 (bs.map eD)],eD e] (eD (visE bs e)) []:=by
 by_cases hk : e.k = 1
 ·obtain ⟨hc,hb⟩:=h hk
  obtain ⟨b,hbe⟩ : ∃ b,bs[e.c.toNat]? = some b:=⟨_,List.getElem?_eq_getElem (show e.c.toNat < bs.length by omega)⟩
  have hcl:=cloneExpr_ok b (hb b (List.mem_of_getElem? hbe))
  have hv : visE bs e = b:=by rw [visE,if_pos hk,List.getD_eq_getElem?_getD,hbe]; rfl
  rw [hv]
  refine Bg c_Z16 mixed (go1 @hbe ?_)
  exact Uc trivial (hcl) (go0 trivial)
 ·have hv : visE bs e = e:=by rw [visE,if_neg hk]
  rw [hv]
  exact Bg c_Z16 mixed (go0 trivial)
theorem rewriteS_ok (bs : List E) (hb : ∀ b,b ∈ bs → esz b ≤ 800000) : ∀ (e : E) (d : Nat),eOk e bs.length d → Does Tryz.prog 165 [] [eD e,.ifc 191 (.agg [.sl 5 (bs.map eD)])] (eD (subE bs e)) []:=by
 refine E.ind (fun e ih d h=>?_)
 have h1:=(eOk_iff e _ d).1 h
 have hn2:=kidsN_le e.k
 have hlen : e.ks.length ≤ 2:=by omega
 have hm : methOf Tryz.prog 191 name_impl_visit = some 234:=by kernel_rfl
 have hv:=visitS_ok bs (.mk e.k e.c e.v (subL bs e.ks)) (fun hk=>⟨by
  have hl:=h1.2.2.2
  unfold leafOk at hl
  rw [if_pos (show e.k = 1 from hk)] at hl
  exact ⟨hl.1,by show e.c < _; omega⟩,hb⟩)
 rw [← subE_vis,eD_eq] at hv
 have hfl:=subL_map bs e.ks
 have hll : (subL bs e.ks).length = e.ks.length:=by rw [hfl,List.length_map]
 refine Bg c_Z57 mixed (go1 trivial ?_)
 refine dw_for (c:=3) (l:=fun i=>[(1,.ifc 191 (.agg [.sl 5 (bs.map eD)])),(2,.ref 1000000 0),(4,.ref 1000001 0),(5,.own 1000002 5 i),(9,.sl 5 (e.ks.map eD)),(10,I e.ks.length),(11,I i),(1000000,.obj [I e.k,I e.c,Bo e.v.b,I e.v.n,.sl 5 (e.ks.map eD)]),(1000001,.obj [I 0,I 0,Bo false,I 0,.nul]),(1000002,.row 5 (((subL bs e.ks).take i).map eD))]) e.ks.length (fun _=>True) 0 trivial ((wk_row 5 2000020 5 (by decide) (by decide) rfl rfl).trans (Wk.list [2000002,2000004,2000020] rfl rfl ?_)) (fun i hi _=>?_) (Nat.zero_le _)
 ·repeat' (first|(conv in hold _=>simp (disch:=omega) only [go_sem])|exact trivial|exact Sub.refl _|omega)
  exact rfl
 ·have hlt:=take_len (vs:=subL bs e.ks) (i:=i) (by omega)
  have hmt:=take_map eD (vs:=subL bs e.ks) (i:=i) (by omega)
  rcases at_or_end hi with ⟨x,hx,hlt1⟩ | rfl
  ·have hix:=ih x (List.mem_of_getElem? hx) (d - 1) (h1.2.2.1 x (List.mem_of_getElem? hx))
   have hfx : (subL bs e.ks)[i]? = some (subE bs x):=by rw [hfl,List.getElem?_map,hx]; rfl
   have hnx:=take_next hfx
   refine go1 @hx ?_
   refine Uc trivial (hix) (go1 trivial ?_)
   refine ⟨hlt1,trivial,Wk.list [1000000,1000001,2000020] rfl rfl ?_⟩
   repeat' (first|(conv in hold _=>simp (disch:=omega) only [go_sem])|exact trivial|exact Sub.refl _|omega)
   rw [hmt,hnx,List.map_append,List.map_cons,List.map_nil,eD_eq (subE bs x)]
  ·have e1 : (subL bs e.ks).take e.ks.length = subL bs e.ks:=List.take_of_length_le (by omega)
   have e2 : ((subL bs e.ks).map eD).take e.ks.length = (subL bs e.ks).map eD:=List.take_of_length_le (by rw [List.length_map]; omega)
   refine go1C @e1 ?_
   refine s_pre (pre_frz (t:=25) (g:=1000002) (by decide) (by decide) rfl ?_) ?_
   rotate_left
   refine go1 (cj3 @e1 @e2 @hll) ?_
   refine i_meth (hm) ?_
   exact Uc (cj2 @e2 @hll) (hv) (go0 (cj2 @e2 @hll))
   exact exprs_pur _
theorem Substitute_impl (bs : List E) (w : Int) (e : E) (hn : bs.length ≤ 1000) : (subOk bs w e → Does Tryz.prog 170 [] [eD e,.sl 5 (bs.map eD),I w] (.tup [eD (subE bs e),Bo true]) []) ∧ (¬ subOk bs w e → Does Tryz.prog 170 [] [eD e,.sl 5 (bs.map eD),I w] zR []):=by
 have hve:=implValidExpr_ok e bs.length
 suffices hh : ∀ r : D,(subOk bs w e → r = .tup [eD (subE bs e),Bo true]) → (¬ subOk bs w e → r = zR) → Does Tryz.prog 170 [] [eD e,.sl 5 (bs.map eD),I w] r [] from
  ⟨fun h=>hh _ (fun _=>rfl) (fun h'=>absurd h h'),fun h=>hh _ (fun h'=>absurd h' h) (fun _=>rfl)⟩
 intro r hy hno
 by_cases h1 : (1 ≤ (bs.length : Int) ∧ (bs.length : Int) ≤ 6) ∧ eOk e bs.length 8
 ·rw [decide_eq_true h1] at hve
  refine Bg c_Z70 mixed (go1 trivial ?_)
  refine Uc trivial (hve) (go1 trivial ?_)
  refine dw_for (c:=2) (l:=fun i=>[(1,.sl 5 (bs.map eD)),(2,I w),(3,.ref 1000000 0),(6,.ref 1000001 0),(7,Bo false),(17,.sl 5 (bs.map eD)),(18,I bs.length),(19,I i),(1000000,.obj [I e.k,I e.c,Bo e.v.b,I e.v.n,.sl 5 (e.ks.map eD)]),(1000001,.obj [I 0,I 0,Bo false,I 0,.nul])]) bs.length (fun i=>∀ (j : Nat) (b : E),j < i → bs[j]? = some b → (1 ≤ w ∧ w ≤ 6) ∧ eOk b w 8) 0 (by omega) (Wk.list [2000003,2000006] rfl rfl ?_) (fun i hi hJ=>?_) (Nat.zero_le _)
  ·repeat' (first|(conv in hold _=>simp (disch:=omega) only [go_sem])|exact trivial|exact Sub.refl _|omega)
   exact rfl
  ·rcases at_or_end hi with ⟨x,hx,hlt1⟩ | rfl
   ·have hvx:=implValidExpr_ok x w
    by_cases hxo : (1 ≤ w ∧ w ≤ 6) ∧ eOk x w 8
    ·rw [decide_eq_true hxo] at hvx
     refine go1 @hx ?_
     refine Uc trivial (hvx) (go1 trivial ?_)
     refine ⟨hlt1,upto_next (p:=fun b=>(1 ≤ w ∧ w ≤ 6) ∧ eOk b w 8) hx hJ hxo,Wk.list [1000000,1000001] rfl rfl ?_⟩
     exact Ag trivial
    ·rw [decide_eq_false hxo] at hvx
     rw [hno (fun h=>hxo (h.2.1 x (List.mem_of_getElem? hx)))]
     refine go1 @hx ?_
     refine Uc @zR_pur (hvx) (go1 @zR_pur ?_)
     exact zE_sub
   ·have hall:=upto_all (p:=fun b=>(1 ≤ w ∧ w ≤ 6) ∧ eOk b w 8) hJ
    have hw : 1 ≤ w ∧ w ≤ 6:=by
     obtain ⟨b,hb⟩ : ∃ b,bs[0]? = some b:=⟨_,List.getElem?_eq_getElem (by omega)⟩
     exact (hall b (List.mem_of_getElem? hb)).1
    have hrw:=rewriteS_ok bs (fun b hb=>by have:=esz_small b 8 (hall b hb).2 (by decide); omega) e 8 h1.2
    have hvr:=implValidExpr_ok (subE bs e) w
    by_cases hro : eOk (subE bs e) w 8
    ·rw [decide_eq_true ⟨hw,hro⟩] at hvr
     rw [hy ⟨h1,hall,hw,hro⟩]
     refine go1 trivial ?_
     refine Uc trivial (hrw) (go1 trivial ?_)
     exact Uc trivial (hvr) (go0 trivial)
    ·rw [decide_eq_false (fun h=>hro h.2)] at hvr
     rw [hno (fun h=>hro h.2.2.2)]
     refine go1 trivial ?_
     refine Uc trivial (hrw) (go1 trivial ?_)
     refine Uc @zR_pur (hvr) (go1 @zR_pur ?_)
     exact zE_sub
 ·rw [decide_eq_false h1] at hve
  rw [hno (fun h=>h1 h.1)]
  refine Bg c_Z70 mixed (go1 trivial ?_)
  refine Uc @zR_pur (hve) (go1 @zR_pur ?_)
  exact zE_sub
end Go.Proofs.YtgpdmgaemhelgaaGreat
set_option maxHeartbeats 4000000
set_option maxRecDepth 100000
set_option linter.unusedVariables false
set_option linter.unusedSimpArgs false
namespace Go.Proofs.YtgpdmgaemhelgaaGreat
open Go.RowKit
theorem pszL_sum : ∀ l : List Pl,pszL l = (l.map fun p=>1 + psz p).sum
 | []=>rfl
 | p :: l=>by rw [pszL,pszL_sum l]; rfl
def holeP (p : Pl) (g n : Nat) : D:=.agg [I p.k,I p.t,.sl 5 (p.es.map eD),intsD p.cs,.own g 5 n]
theorem holeP_ren (p : Pl) (g n : Nat) (L : List Nat) (g' : Nat) (h : nameOf L g = some g') : (holeP p g n).ren L = holeP p g' n:=by
 unfold holeP intsD
 simp only [D.ren,D.renL,h]
def trP : Tr where
 α:=Pl
 s:=5
 d:=pD
 ks:=Pl.ks
 hole:=holeP
 size:=fun p=>1 + psz p
 pur p:=by rw [pD_eq]; rfl
 fr p g:=by
  unfold holeP intsD
  simp only [D.frz,D.frzL,List.length_map,Nat.le_refl,and_self,if_true]
  rw [take_all,pD_eq]
  rfl
 ren:=holeP_ren
 one p:=Nat.le_add_right 1 _
 sum p:=by rw [psz_eq,pszL_sum]; omega
theorem setP_ren (R : List Nat) (es : List Pl) (i : Nat) (d : D) : D.renL R ((es.map pD).set i d) = (es.map pD).set i (d.ren R):=by
 rw [D.renL_map,List.map_set,← D.renL_map,plans_ren]
theorem clonePlans_ok (es : List Pl) (h0 : 0 < es.length) (hl : es.length < 1000000) : Does Tryz.prog 93 [] [.sl 5 (es.map pD)] (.own 1000000 5 es.length) [.row 5 (es.map pD)]:=by
 refine Bk c_Z2 mixed 0 (go1 trivial ?_)
 refine fin_L [2000007] ?_ ?_ rfl ?_
 all_goals exact Ag trivial
theorem clonePlansRaw_ok (a : Option Addr) (c : Nat) : Does Tryz.prog 93 [] [.v (.slice a 0 c)] (.sl 5 []) []:=by
 cases a with
 | none=>
  refine does0 c_Z2 mixed (Nat.le_of_ble_eq_true rfl) ?_
  conv=>arg 3; whnf
  repeat' (first|with_reducible refine acc_none ?_ | (conv in hold _=>simp (disch:=omega) only [go_sem,Option.isNone_none,bne_tf])|refine Stp.go ?_|(with_reducible first|refine it_pos rfl ?_|refine it_neg (by decide) ?_|refine st_nil rfl ?_|refine s_op ?_ ?_|exact trivial)|((with_reducible first|refine dw_reg0 ?_|refine dw_regB ?_);(conv=>arg 3;whnf))|(refine Spl.go (fun hq he=>?_) (fun hq he=>?_)<;>first|(exfalso;clear hq;omega)|((try first|(conv=>arg 8;simp only [hq])|(conv=>arg 4;simp only [hq]));clear hq))|((with_reducible first|refine c_split (fun hq=>?_) (fun hq=>?_)|refine q_split (fun hq=>?_) (fun hq=>?_))<;>(try first|(conv=>arg 8;simp only [hq])|(conv=>arg 4;simp only [hq])))|(with_reducible refine fin_0 ?_ (by first|rfl|(conv=>lhs;simp only [go_sem,Option.isNone_none,bne_tf])) ?_)|exact Sub.refl _|omega)
  exact Sub.nul 5
 | some A=>
  refine Bg c_Z2 mixed (go1R trivial ?_)
  (with_reducible first | refine dw_reg0 ?_ | refine dw_regB ?_)
  conv=>arg 3; whnf
  refine go1R trivial ?_
  (with_reducible first | refine dw_reg0 ?_ | refine dw_regB ?_)
  conv=>arg 3; whnf
  repeat' ((fail_if_success (with_reducible first | refine dw_reg0 ?_ | refine dw_regB ?_)); first | with_reducible refine acc_none ?_ | (conv in hold _=>simp (disch:=omega) only [go_sem,Option.isNone_some,bne_ff])|refine Stp.go ?_|(with_reducible first|refine it_pos rfl ?_|refine it_neg (by decide) ?_|refine st_nil rfl ?_|refine s_op ?_ ?_|exact trivial)|((with_reducible first|refine dw_reg0 ?_|refine dw_regB ?_);(conv=>arg 3;whnf))|(refine Spl.go (fun hq he=>?_) (fun hq he=>?_)<;>first|(exfalso;clear hq;omega)|((try first|(conv=>arg 8;simp only [hq])|(conv=>arg 4;simp only [hq]));clear hq))|((with_reducible first|refine c_split (fun hq=>?_) (fun hq=>?_)|refine q_split (fun hq=>?_) (fun hq=>?_))<;>(try first|(conv=>arg 8;simp only [hq])|(conv=>arg 4;simp only [hq])))|(with_reducible refine fin_0 ?_ (by first|rfl|(conv=>lhs;simp only [go_sem,Option.isNone_some,bne_ff])) ?_)|exact Sub.refl _|omega)
  (with_reducible first | refine dw_reg0 ?_ | refine dw_regB ?_)
  conv=>arg 3; whnf
  refine Stp.go ?_
  refine s_pre (pre_raw (t:=0) 5 (by decide) rfl) ?_
  refine go1F trivial ?_
  refine fin_wk (wk_frz 2 2000007 (by decide) (by decide) rfl ?_) ?_
  rotate_left
  (conv in hold _=>simp (disch:=omega) only [go_sem])
  ·refine fin_L [] ?_ ?_ rfl ?_
   all_goals exact Ag trivial
  ·rfl
theorem clonePlansNone_ok : Does Tryz.prog 93 [] [.sl 5 []] (.sl 5 []) []:=by
 intro w F m xs hxl hHle hwf hfz hblk hnone hinj
 match xs,hxl with
 | [x],_=>
  have h0:=hfz 0 _ x rfl rfl
  have hx : ∃ a c,x = .slice a 0 c:=by
   cases h0 with
   | sl0 _ _ a c=>exact ⟨_,_,rfl⟩
   | sl _ _ _ b off c=>exact ⟨_,_,rfl⟩
  obtain ⟨a,c,rfl⟩:=hx
  refine clonePlansRaw_ok a c w F m [.slice a 0 c] rfl hHle hwf (fun i d y hd hy=>?_) hblk hnone hinj
  match i with
  | 0=>
   obtain rfl : D.v (.slice a 0 c) = d:=by simpa using hd
   obtain rfl : Value.slice a 0 c = y:=by simpa using hy
   exact .v m _
  | i + 1=>simp at hd
theorem cloneIntsRaw_ok (a : Option Addr) (c : Nat) : Does Tryz.prog 92 [] [.v (.slice a 0 c)] (.sl 1 []) []:=by
 cases a with
 | none=>
  refine does0 c_Z13 mixed (Nat.le_of_ble_eq_true rfl) ?_
  conv=>arg 3; whnf
  repeat' (first|with_reducible refine acc_none ?_ | (conv in hold _=>simp (disch:=omega) only [go_sem,Option.isNone_none,bne_tf])|refine Stp.go ?_|(with_reducible first|refine it_pos rfl ?_|refine it_neg (by decide) ?_|refine st_nil rfl ?_|refine s_op ?_ ?_|exact trivial)|((with_reducible first|refine dw_reg0 ?_|refine dw_regB ?_);(conv=>arg 3;whnf))|(refine Spl.go (fun hq he=>?_) (fun hq he=>?_)<;>first|(exfalso;clear hq;omega)|((try first|(conv=>arg 8;simp only [hq])|(conv=>arg 4;simp only [hq]));clear hq))|((with_reducible first|refine c_split (fun hq=>?_) (fun hq=>?_)|refine q_split (fun hq=>?_) (fun hq=>?_))<;>(try first|(conv=>arg 8;simp only [hq])|(conv=>arg 4;simp only [hq])))|(with_reducible refine fin_0 ?_ (by first|rfl|(conv=>lhs;simp only [go_sem,Option.isNone_none,bne_tf])) ?_)|exact Sub.refl _|omega)
  exact Sub.nul 1
 | some A=>
  refine Bg c_Z13 mixed (go1R trivial ?_)
  (with_reducible first | refine dw_reg0 ?_ | refine dw_regB ?_)
  conv=>arg 3; whnf
  refine go1R trivial ?_
  (with_reducible first | refine dw_reg0 ?_ | refine dw_regB ?_)
  conv=>arg 3; whnf
  repeat' ((fail_if_success (with_reducible first | refine dw_reg0 ?_ | refine dw_regB ?_)); first | with_reducible refine acc_none ?_ | (conv in hold _=>simp (disch:=omega) only [go_sem,Option.isNone_some,bne_ff])|refine Stp.go ?_|(with_reducible first|refine it_pos rfl ?_|refine it_neg (by decide) ?_|refine st_nil rfl ?_|refine s_op ?_ ?_|exact trivial)|((with_reducible first|refine dw_reg0 ?_|refine dw_regB ?_);(conv=>arg 3;whnf))|(refine Spl.go (fun hq he=>?_) (fun hq he=>?_)<;>first|(exfalso;clear hq;omega)|((try first|(conv=>arg 8;simp only [hq])|(conv=>arg 4;simp only [hq]));clear hq))|((with_reducible first|refine c_split (fun hq=>?_) (fun hq=>?_)|refine q_split (fun hq=>?_) (fun hq=>?_))<;>(try first|(conv=>arg 8;simp only [hq])|(conv=>arg 4;simp only [hq])))|(with_reducible refine fin_0 ?_ (by first|rfl|(conv=>lhs;simp only [go_sem,Option.isNone_some,bne_ff])) ?_)|exact Sub.refl _|omega)
  (with_reducible first | refine dw_reg0 ?_ | refine dw_regB ?_)
  conv=>arg 3; whnf
  refine Stp.go ?_
  refine s_pre (pre_raw (t:=0) 1 (by decide) rfl) ?_
  refine go1F trivial ?_
  refine fin_wk (wk_frz 2 2000007 (by decide) (by decide) rfl ?_) ?_
  rotate_left
  (conv in hold _=>simp (disch:=omega) only [go_sem])
  ·refine fin_L [] ?_ ?_ rfl ?_
   all_goals exact Ag trivial
  ·rfl
theorem cloneIntsNone_ok : Does Tryz.prog 92 [] [.sl 1 []] (.sl 1 []) []:=by
 intro w F m xs hxl hHle hwf hfz hblk hnone hinj
 match xs,hxl with
 | [x],_=>
  have h0:=hfz 0 _ x rfl rfl
  have hx : ∃ a c,x = .slice a 0 c:=by
   cases h0 with
   | sl0 _ _ a c=>exact ⟨_,_,rfl⟩
   | sl _ _ _ b off c=>exact ⟨_,_,rfl⟩
  obtain ⟨a,c,rfl⟩:=hx
  refine cloneIntsRaw_ok a c w F m [.slice a 0 c] rfl hHle hwf (fun i d y hd hy=>?_) hblk hnone hinj
  match i with
  | 0=>
   obtain rfl : D.v (.slice a 0 c) = d:=by simpa using hd
   obtain rfl : Value.slice a 0 c = y:=by simpa using hy
   exact .v m _
  | i + 1=>simp at hd
theorem cloneNums_ok (cs : List Int) (hl : cs.length < 1000000) : Does Tryz.prog 92 [] [intsD cs] (intsD cs) []:=by
 cases cs with
 | nil=>exact cloneIntsNone_ok
 | cons c r=>
  have htk:=take_all I (c :: r)
  have h0 : 0 < (c :: r).length:=by rw [List.length_cons]; omega
  obtain ⟨l,hl0⟩ : ∃ l,l = c :: r:=⟨_,rfl⟩
  rw [← hl0] at h0 hl htk ⊢
  refine Bg c_Z13 mixed (go1F @intsD.eq_1 ?_)
  refine fin_wk (wk_frz 2 2000007 (by decide) (by decide) rfl ?_) ?_
  rotate_left
  (conv in hold _=>simp (disch:=omega) only [go_sem,htk,List.length_map,Nat.le_refl])
  ·refine fin_L [] ?_ ?_ rfl ?_
   all_goals exact Ag @intsD.eq_1
  ·exact ints_pur _
end Go.Proofs.YtgpdmgaemhelgaaGreat
set_option maxHeartbeats 4000000
set_option maxRecDepth 100000
set_option linter.unusedVariables false
set_option linter.unusedSimpArgs false
namespace Go.Proofs.YtgpdmgaemhelgaaGreat
open Go.RowKit
def Cmp (f : FuncId) (xs : List D) (P : Prop) : Prop:=(P → Does Tryz.prog f [] xs (Bo true) []) ∧ (¬ P → Does Tryz.prog f [] xs (Bo false) [])
end Go.Proofs.YtgpdmgaemhelgaaGreat
set_option linter.unusedVariables false
set_option linter.unusedSimpArgs false
namespace Go.Proofs.YtgpdmgaemhelgaaGreat
open Go.RowKit
def rbF (k : Int) : List Nat → Nat
 | []=>5
 | [a]=>a
 | a :: b :: _=>if k = 6 then a + b else a * (b + 1)
mutual
def rb : Pl → Nat
 | .mk k _ _ _ ks=>rbF k (rbL ks)
def rbL : List Pl → List Nat
 | []=>[]
 | p :: l=>rb p :: rbL l
end
theorem rb_0 {p : Pl} (h : p.ks = []) : rb p = 5:=by
 cases p with
 | mk k t es cs ks=>cases h; rfl
theorem rb_1 {p q : Pl} (h : p.ks = [q]) : rb p = rb q:=by
 cases p with
 | mk k t es cs ks=>cases h; rfl
theorem rb_2 {p q r : Pl} (h : p.ks = [q,r]) : rb p = if p.k = 6 then rb q + rb r else rb q * (rb r + 1):=by
 cases p with
 | mk k t es cs ks=>cases h; rfl
theorem rb_eq (p : Pl) : rb p = rbF p.k (rbL p.ks):=by cases p; rfl
def capB (a b : Nat) : Nat:=if a = 0 then (if b = 0 then 5 else 10) else (if b = 0 then 30 else 60)
theorem cap_5 (a b : Nat) : 5 ≤ capB a b:=by
 unfold capB
 split <;> split <;> decide
theorem cap_60 (a b : Nat) : capB a b ≤ 60:=by
 unfold capB
 split <;> split <;> decide
theorem cap_mono {a b a' b' : Nat} (ha : a ≤ a') (hb : b ≤ b') : capB a b ≤ capB a' b':=by
 unfold capB
 split <;> split <;> split <;> split <;> omega
theorem cap_uni {a n : Nat} (h : n ≤ capB a 0) : n + n ≤ capB a 1:=by
 unfold capB at h ⊢
 split at h <;> rename_i ha
 ·rw [if_pos ha,if_neg (by decide)]; rw [if_pos rfl] at h; omega
 ·rw [if_neg ha,if_neg (by decide)]; rw [if_pos rfl] at h; omega
theorem cap_join {b b' m n : Nat} (hm : m ≤ capB 0 b) (hn : n ≤ capB 0 b') (hb : b + b' ≤ 1) : m * (n + 1) ≤ capB 1 (b + b'):=by
 have h : (b = 0 ∧ b' = 0) ∨ (b = 0 ∧ b' = 1) ∨ (b = 1 ∧ b' = 0):=by omega
 rcases h with ⟨rfl,rfl⟩ | ⟨rfl,rfl⟩ | ⟨rfl,rfl⟩
 ·exact Nat.mul_le_mul (show m ≤ 5 from hm) (Nat.succ_le_succ (show n ≤ 5 from hn))
 ·exact Nat.le_trans (Nat.mul_le_mul (show m ≤ 5 from hm) (Nat.succ_le_succ (show n ≤ 10 from hn))) (by decide)
 ·exact Nat.mul_le_mul (show m ≤ 10 from hm) (Nat.succ_le_succ (show n ≤ 5 from hn))
end Go.Proofs.YtgpdmgaemhelgaaGreat
