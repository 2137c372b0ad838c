/-
  Marks of tables: every value of rows of one's own is written, and found again. No condition.
-/
import Derived.Test.YtedmegmhjmabcaaKSDca
import Derived.Test.YtedmegmhjmabcaaKSVToT
import Derived.Test.YtedmegmhjmabcaaJSVTbW
set_option maxHeartbeats 4000000
set_option maxRecDepth 100000
set_option linter.unusedVariables false
set_option linter.unusedSimpArgs false
namespace Go.Proofs.Ytedmegmhjmabcaa
open Go.RowKit
def mkV (k : Int) (i : Nat) : V:=⟨(k + 2 * i).tmod 3 == 0,k + 2 * i + 1⟩
def mkVD (k : Int) (i : Nat) : D:=.agg [Bo ((k + 2 * i).tmod 3 == 0),I (k + 2 * i + 1)]
def mkRow (k : Int) (n : Nat) : List V:=(List.range n).map (mkV k)
theorem mkRow_len (k : Int) (n : Nat) : (mkRow k n).length = n:=by unfold mkRow; rw [List.length_map,List.length_range]
theorem mkRow_D (k : Int) (n : Nat) : (mkRow k n).map vD = (List.range n).map (mkVD k):=by unfold mkRow; rw [List.map_map]; rfl
def cntV : List (List V) → Nat
 | []=>0
 | r :: l=>r.length + cntV l
theorem cntV_le : ∀ l : List (List V),cntV l ≤ rsz l
 | []=>Nat.le_refl _
 | r :: l=>by have:=cntV_le l; rw [cntV,rsz]; omega
theorem cntV_append : ∀ (l m : List (List V)),cntV (l ++ m) = cntV l + cntV m
 | [],m=>by rw [List.nil_append,cntV,Nat.zero_add]
 | e :: l,m=>by rw [List.cons_append,cntV,cntV,cntV_append l m]; omega
theorem cntV_next {ps : List (List V)} {i : Nat} {x : List V} (h : ps[i]? = some x) : cntV (ps.take (i + 1)) = cntV (ps.take i) + x.length:=by
 rw [take_next h,cntV_append,cntV,cntV]
 omega
theorem cntV_take (l : List (List V)) (i : Nat) : cntV (l.take i) ≤ cntV l:=by
 have h:=cntV_append (l.take i) (l.drop i)
 rw [List.take_append_drop] at h
 omega
def mkR : List (List V) → Int → List (List V)
 | [],_=>[]
 | r :: l,k=>mkRow k r.length :: mkR l (k + 2 * r.length)
theorem mkR_len : ∀ (l : List (List V)) (k : Int),(mkR l k).length = l.length
 | [],_=>rfl
 | e :: l,k=>by rw [mkR,List.length_cons,mkR_len l,List.length_cons]
theorem mkR_at : ∀ {l : List (List V)} {i : Nat} {x : List V} (k : Int),l[i]? = some x → (mkR l k)[i]? = some (mkRow (k + 2 * cntV (l.take i)) x.length)
 | [],i,x,k,h=>by simp at h
 | e :: l,0,x,k,h=>by
  obtain rfl : e = x:=by simpa using h
  rw [mkR,List.take_zero,cntV]
  simp
 | e :: l,i + 1,x,k,h=>by
  have ih:=mkR_at (k + 2 * e.length) (show l[i]? = some x by simpa using h)
  rw [mkR,List.getElem?_cons_succ,ih,List.take_succ_cons,cntV]
  congr 2
  omega
theorem kD_mkR (κ : Nat) (l : List (List V)) (k : Int) : kD κ 1 ((mkR l k).map rowD) = kD κ 1 (l.map rowD):=kD_lenE (by rw [List.length_map,List.length_map,mkR_len]) _ _
theorem like_mkR (l : List (List V)) (k : Int) : rowEl.like l (mkR l k):=⟨mkR_len l k,fun i a a' ha ha'=>by
 rw [mkR_at k ha] at ha'
 obtain rfl:=Option.some.inj ha'
 exact congrArg (fun b=>[b]) (isT_len (by rw [List.length_map,List.length_map,mkRow_len]))⟩
theorem markValueS_ok (l : List V) (hl : l.length ≤ 1048576) (k : Int) (hk : 0 ≤ k ∧ k ≤ 1099511627776) : Does Try.prog 73 [.row 2 (l.map vD)] [.own 1000000 2 l.length,I k] (I (k + 2 * l.length)) [.row 2 ((List.range l.length).map (mkVD k))]:=by
 have hlm : (l.map vD).length = l.length:=List.length_map ..
 have hren:=mix_ren (mkVD k) (l.map vD) (fun _=>rfl) (vals_pur l)
 have hren2:=news_ren (mkVD k) (fun _=>rfl)
 refine does c_Z18 mixed (Nat.le_of_ble_eq_true rfl) 1 rfl ?_
 conv=>arg 3; whnf
 repeat' (first|with_reducible refine acc_none ?_ | (conv in hold _=>simp (disch:=omega) only [go_sem,beq_self_eq_true,bne_self_eq_false])|refine Stp.go ?_|(with_reducible first|refine it_pos rfl ?_|refine it_neg (by decide) ?_|refine st_nil rfl ?_|refine s_op ?_ ?_|exact trivial)|((with_reducible first|refine dw_reg0 ?_|refine dw_regB ?_);(conv=>arg 3;whnf))|(refine Spl.go (fun hq he=>?_) (fun hq he=>?_)<;>first|(exfalso;clear hq;omega)|((try first|(conv=>arg 8;simp only [hq])|(conv=>arg 4;simp only [hq]));clear hq))|((with_reducible first|refine c_split (fun hq=>?_) (fun hq=>?_)|refine q_split (fun hq=>?_) (fun hq=>?_))<;>(try first|(conv=>arg 8;simp only [hq])|(conv=>arg 4;simp only [hq])))|(with_reducible refine fin_0 ?_ (by first|rfl|(conv=>lhs;simp only [go_sem,beq_self_eq_true,bne_self_eq_false])) ?_)|exact Sub.refl _|omega)
 refine dw_for (c:=1) (l:=fun i=>[(0,.own 1000000 2 l.length),(1,I (k + 2 * i)),(5,I i),(1000000,.row 2 (mixL (mkVD k) (l.map vD) i))]) l.length (fun _=>True) 0 trivial (Wk.list [1000000] rfl rfl ?_) (fun i hi _=>?_) (Nat.zero_le _)
 ·repeat' (first|(conv in hold _=>simp (disch:=omega) only [go_sem,beq_self_eq_true,bne_self_eq_false,hren])|exact trivial|exact Sub.refl _|omega)
  exact ⟨congrArg (fun n=>D.v (Value.int IntKind.i64 n)) (by omega),rfl,rfl⟩
 ·have hml:=mix_len (mkVD k) (l.map vD) (i:=i) (by omega)
  by_cases hlt : i < l.length
  ·obtain ⟨x,hx⟩ : ∃ x,l[i]? = some x:=⟨_,List.getElem?_eq_getElem hlt⟩
   have hxI : (l.map vD)[i]? = some (.agg [Bo x.b,I x.n]):=by rw [List.getElem?_map,hx]; rfl
   have hg:=mix_get (mkVD k) hxI
   have hst:=mix_set (mkVD k) (old:=l.map vD) (i:=i) (by omega)
   rw [mkVD] at hst
   have hset : ∀ y : D,((mixL (mkVD k) (l.map vD) i).set i y).length = l.length:=fun y=>by rw [List.length_set,hml,hlm]
   have hget : ∀ y : D,((mixL (mkVD k) (l.map vD) i).set i y)[i]? = some y:=fun y=>by rw [List.getElem?_set_self (by omega)]
   repeat' (first|with_reducible refine acc_none ?_ | (conv in hold _=>simp (disch:=omega) only [go_sem,beq_self_eq_true,bne_self_eq_false,hml,hlm,hg,hset,hget,List.set_set])|refine Stp.go ?_|(with_reducible first|refine it_pos rfl ?_|refine it_neg (by decide) ?_|refine st_nil rfl ?_|refine s_op ?_ ?_|exact trivial)|((with_reducible first|refine dw_reg0 ?_|refine dw_regB ?_);(conv=>arg 3;whnf))|(refine Spl.go (fun hq he=>?_) (fun hq he=>?_)<;>first|(exfalso;clear hq;omega)|((try first|(conv=>arg 8;simp only [hq])|(conv=>arg 4;simp only [hq]));clear hq))|((with_reducible first|refine c_split (fun hq=>?_) (fun hq=>?_)|refine q_split (fun hq=>?_) (fun hq=>?_))<;>(try first|(conv=>arg 8;simp only [hq])|(conv=>arg 4;simp only [hq])))|(with_reducible refine fin_0 ?_ (by first|rfl|(conv=>lhs;simp only [go_sem,beq_self_eq_true,bne_self_eq_false,hml,hlm,hg,hset,hget,List.set_set])) ?_)|exact Sub.refl _|omega)
   refine ⟨hlt,trivial,Wk.list [1000000] rfl rfl ?_⟩
   repeat' (first|(conv in hold _=>simp (disch:=omega) only [go_sem,beq_self_eq_true,bne_self_eq_false,hst,hren])|exact trivial|exact Sub.refl _|omega)
   exact congrArg (fun n=>D.v (Value.int IntKind.i64 n)) (by omega)
  ·obtain rfl : i = l.length:=by omega
   have hend:=mix_end (mkVD k) (l.map vD)
   rw [hlm] at hend
   repeat' (first|with_reducible refine acc_none ?_ | (conv in hold _=>simp (disch:=omega) only [go_sem,beq_self_eq_true,bne_self_eq_false,hml,hlm])|refine Stp.go ?_|(with_reducible first|refine it_pos rfl ?_|refine it_neg (by decide) ?_|refine st_nil rfl ?_|refine s_op ?_ ?_|exact trivial)|((with_reducible first|refine dw_reg0 ?_|refine dw_regB ?_);(conv=>arg 3;whnf))|(refine Spl.go (fun hq he=>?_) (fun hq he=>?_)<;>first|(exfalso;clear hq;omega)|((try first|(conv=>arg 8;simp only [hq])|(conv=>arg 4;simp only [hq]));clear hq))|((with_reducible first|refine c_split (fun hq=>?_) (fun hq=>?_)|refine q_split (fun hq=>?_) (fun hq=>?_))<;>(try first|(conv=>arg 8;simp only [hq])|(conv=>arg 4;simp only [hq])))|(with_reducible refine fin_0 ?_ (by first|rfl|(conv=>lhs;simp only [go_sem,beq_self_eq_true,bne_self_eq_false,hml,hlm])) ?_)|exact Sub.refl _|omega)
   refine fin_L [1000000] ?_ ?_ rfl ?_
   repeat' (first|(conv in hold _=>simp (disch:=omega) only [go_sem,beq_self_eq_true,bne_self_eq_false,hend,hren2])|exact trivial|exact Sub.refl _|omega)
theorem heldValueS_ok (n : Nat) (hn : n ≤ 1048576) (k : Int) (hk : 0 ≤ k ∧ k ≤ 1099511627776) : Does Try.prog 74 [] [.sl 2 ((List.range n).map (mkVD k)),I k] (I (k + 2 * n)) []:=by
 have hlm : ((List.range n).map (mkVD k)).length = n:=by rw [List.length_map,List.length_range]
 refine does0 c_Z17 mixed (Nat.le_of_ble_eq_true rfl) ?_
 conv=>arg 3; whnf
 repeat' (first|with_reducible refine acc_none ?_ | (conv in hold _=>simp (disch:=omega) only [go_sem,beq_self_eq_true,bne_self_eq_false,hlm])|refine Stp.go ?_|(with_reducible first|refine it_pos rfl ?_|refine it_neg (by decide) ?_|refine st_nil rfl ?_|refine s_op ?_ ?_|exact trivial)|((with_reducible first|refine dw_reg0 ?_|refine dw_regB ?_);(conv=>arg 3;whnf))|(refine Spl.go (fun hq he=>?_) (fun hq he=>?_)<;>first|(exfalso;clear hq;omega)|((try first|(conv=>arg 8;simp only [hq])|(conv=>arg 4;simp only [hq]));clear hq))|((with_reducible first|refine c_split (fun hq=>?_) (fun hq=>?_)|refine q_split (fun hq=>?_) (fun hq=>?_))<;>(try first|(conv=>arg 8;simp only [hq])|(conv=>arg 4;simp only [hq])))|(with_reducible refine fin_0 ?_ (by first|rfl|(conv=>lhs;simp only [go_sem,beq_self_eq_true,bne_self_eq_false,hlm])) ?_)|exact Sub.refl _|omega)
 refine dw_for (c:=0) (l:=fun i=>[(0,.sl 2 ((List.range n).map (mkVD k))),(1,I (k + 2 * i)),(5,I i)]) n (fun _=>True) 0 trivial (Wk.list [] rfl rfl ?_) (fun i hi _=>?_) (Nat.zero_le _)
 ·repeat' (first|(conv in hold _=>simp (disch:=omega) only [go_sem,beq_self_eq_true,bne_self_eq_false])|exact trivial|exact Sub.refl _|omega)
  exact ⟨congrArg (fun n=>D.v (Value.int IntKind.i64 n)) (by omega),rfl⟩
 ·by_cases hlt : i < n
  ·have hx : ((List.range n).map (mkVD k))[i]? = some (.agg [Bo ((k + 2 * i).tmod 3 == 0),I (k + 2 * i + 1)]):=by rw [List.getElem?_map,List.getElem?_range hlt]; rfl
   repeat' (first|with_reducible refine acc_none ?_ | (conv in hold _=>simp (disch:=omega) only [go_sem,beq_self_eq_true,bne_self_eq_false,hlm,hx])|refine Stp.go ?_|(with_reducible first|refine it_pos rfl ?_|refine it_neg (by decide) ?_|refine st_nil rfl ?_|refine s_op ?_ ?_|exact trivial)|((with_reducible first|refine dw_reg0 ?_|refine dw_regB ?_);(conv=>arg 3;whnf))|(refine Spl.go (fun hq he=>?_) (fun hq he=>?_)<;>first|(exfalso;clear hq;omega)|((try first|(conv=>arg 8;simp only [hq])|(conv=>arg 4;simp only [hq]));clear hq))|((with_reducible first|refine c_split (fun hq=>?_) (fun hq=>?_)|refine q_split (fun hq=>?_) (fun hq=>?_))<;>(try first|(conv=>arg 8;simp only [hq])|(conv=>arg 4;simp only [hq])))|(with_reducible refine fin_0 ?_ (by first|rfl|(conv=>lhs;simp only [go_sem,beq_self_eq_true,bne_self_eq_false,hlm,hx])) ?_)|exact Sub.refl _|omega)
   refine ⟨hlt,trivial,Wk.list [] rfl rfl ?_⟩
   repeat' (first|(conv in hold _=>simp (disch:=omega) only [go_sem,beq_self_eq_true,bne_self_eq_false])|exact trivial|exact Sub.refl _|omega)
   exact congrArg (fun n=>D.v (Value.int IntKind.i64 n)) (by omega)
  ·obtain rfl : i = n:=by omega
   repeat' (first|with_reducible refine acc_none ?_ | (conv in hold _=>simp (disch:=omega) only [go_sem,beq_self_eq_true,bne_self_eq_false,hlm])|refine Stp.go ?_|(with_reducible first|refine it_pos rfl ?_|refine it_neg (by decide) ?_|refine st_nil rfl ?_|refine s_op ?_ ?_|exact trivial)|((with_reducible first|refine dw_reg0 ?_|refine dw_regB ?_);(conv=>arg 3;whnf))|(refine Spl.go (fun hq he=>?_) (fun hq he=>?_)<;>first|(exfalso;clear hq;omega)|((try first|(conv=>arg 8;simp only [hq])|(conv=>arg 4;simp only [hq]));clear hq))|((with_reducible first|refine c_split (fun hq=>?_) (fun hq=>?_)|refine q_split (fun hq=>?_) (fun hq=>?_))<;>(try first|(conv=>arg 8;simp only [hq])|(conv=>arg 4;simp only [hq])))|(with_reducible refine fin_0 ?_ (by first|rfl|(conv=>lhs;simp only [go_sem,beq_self_eq_true,bne_self_eq_false,hlm])) ?_)|exact Sub.refl _|omega)
theorem markValueS_nil (k : Int) : Does Try.prog 73 [] [.sl 2 [],I k] (I k) []:=by
 refine does0 c_Z18 mixed (Nat.le_of_ble_eq_true rfl) ?_
 conv=>arg 3; whnf
 repeat' (first|with_reducible refine acc_none ?_ | (conv in hold _=>simp (disch:=omega) only [go_sem,beq_self_eq_true,bne_self_eq_false])|refine Stp.go ?_|(with_reducible first|refine it_pos rfl ?_|refine it_neg (by decide) ?_|refine st_nil rfl ?_|refine s_op ?_ ?_|exact trivial)|((with_reducible first|refine dw_reg0 ?_|refine dw_regB ?_);(conv=>arg 3;whnf))|(refine Spl.go (fun hq he=>?_) (fun hq he=>?_)<;>first|(exfalso;clear hq;omega)|((try first|(conv=>arg 8;simp only [hq])|(conv=>arg 4;simp only [hq]));clear hq))|((with_reducible first|refine c_split (fun hq=>?_) (fun hq=>?_)|refine q_split (fun hq=>?_) (fun hq=>?_))<;>(try first|(conv=>arg 8;simp only [hq])|(conv=>arg 4;simp only [hq])))|(with_reducible refine fin_0 ?_ (by first|rfl|(conv=>lhs;simp only [go_sem,beq_self_eq_true,bne_self_eq_false])) ?_)|exact Sub.refl _|omega)
 refine dw_for (c:=0) (l:=fun i=>[(0,.sl 2 []),(1,I k),(5,I i)]) 0 (fun _=>True) 0 trivial (Wk.list [] rfl rfl ?_) (fun i hi _=>?_) (Nat.zero_le _)
 ·repeat' (first|(conv in hold _=>simp (disch:=omega) only [go_sem,beq_self_eq_true,bne_self_eq_false])|exact trivial|exact Sub.refl _|omega)
  exact rfl
 ·obtain rfl : i = 0:=by omega
  repeat' (first|with_reducible refine acc_none ?_ | (conv in hold _=>simp (disch:=omega) only [go_sem,beq_self_eq_true,bne_self_eq_false,List.length_nil])|refine Stp.go ?_|(with_reducible first|refine it_pos rfl ?_|refine it_neg (by decide) ?_|refine st_nil rfl ?_|refine s_op ?_ ?_|exact trivial)|((with_reducible first|refine dw_reg0 ?_|refine dw_regB ?_);(conv=>arg 3;whnf))|(refine Spl.go (fun hq he=>?_) (fun hq he=>?_)<;>first|(exfalso;clear hq;omega)|((try first|(conv=>arg 8;simp only [hq])|(conv=>arg 4;simp only [hq]));clear hq))|((with_reducible first|refine c_split (fun hq=>?_) (fun hq=>?_)|refine q_split (fun hq=>?_) (fun hq=>?_))<;>(try first|(conv=>arg 8;simp only [hq])|(conv=>arg 4;simp only [hq])))|(with_reducible refine fin_0 ?_ (by first|rfl|(conv=>lhs;simp only [go_sem,beq_self_eq_true,bne_self_eq_false,List.length_nil])) ?_)|exact Sub.refl _|omega)
theorem flatD_mkV (k : Int) (n : Nat) : flatD ((List.range n).map (mkVD k)):=flatD_map (mkVD k) _ (fun a c hc=>by
 have hc' : c ∈ [Bo ((k + 2 * a).tmod 3 == 0),I (k + 2 * a + 1)]:=hc
 simp only [List.mem_cons,List.not_mem_nil,or_false] at hc'
 rcases hc' with rfl | rfl <;> exact ⟨_,rfl⟩)
theorem markValueS_rc (c : List V) (hl : c.length ≤ 1048576) (k : Int) (hk : 0 ≤ k ∧ k ≤ 1099511627776) : RCalls Try.prog 73 [⟨0,2,c.map vD⟩] [kD 0 2 (c.map vD),I k] [⟨0,2,(mkRow k c.length).map vD⟩] 1 (I (k + 2 * c.length)):=by
 rw [mkRow_D]
 by_cases h0 : c = []
 ·subst h0
  have h:=rcalls_nilP (pre:=[⟨0,2,[]⟩]) (post:=[⟨0,2,[]⟩]) (markValueS_nil k) rfl rfl (fun it hit=>by obtain rfl:=List.mem_singleton.1 hit; rfl)
  rw [show k + 2 * (([] : List V).length : Int) = k from Int.add_zero k]
  exact h
 ·have hm0 : c.map vD ≠ []:=fun h=>h0 (List.map_eq_nil_iff.1 h)
  have hm:=markValueS_ok c hl k hk
  have hlm : (c.map vD).length = c.length:=List.length_map ..
  rw [← hlm] at hm
  have h:=rcalls_upd hm rfl hm0 (by rw [List.length_map,List.length_range]) (flatD_vals _) (flatD_mkV _ _) rfl
  unfold kD
  rw [if_neg hm0]
  rw [hlm] at h ⊢
  exact h
theorem markValueSS_nil (k : Int) : Does Try.prog 35 [] [.sl 1 [],I k] (I k) []:=by
 refine does0 c_Z12 mixed (Nat.le_of_ble_eq_true rfl) ?_
 conv=>arg 3; whnf
 repeat' (first|with_reducible refine acc_none ?_ | (conv in hold _=>simp (disch:=omega) only [go_sem])|refine Stp.go ?_|(with_reducible first|refine it_pos rfl ?_|refine it_neg (by decide) ?_|refine st_nil rfl ?_|refine s_op ?_ ?_|exact trivial)|((with_reducible first|refine dw_reg0 ?_|refine dw_regB ?_);(conv=>arg 3;whnf))|(refine Spl.go (fun hq he=>?_) (fun hq he=>?_)<;>first|(exfalso;clear hq;omega)|((try first|(conv=>arg 8;simp only [hq])|(conv=>arg 4;simp only [hq]));clear hq))|((with_reducible first|refine c_split (fun hq=>?_) (fun hq=>?_)|refine q_split (fun hq=>?_) (fun hq=>?_))<;>(try first|(conv=>arg 8;simp only [hq])|(conv=>arg 4;simp only [hq])))|(with_reducible refine fin_0 ?_ (by first|rfl|(conv=>lhs;simp only [go_sem])) ?_)|exact Sub.refl _|omega)
 refine dw_for (c:=0) (l:=fun i=>[(0,.sl 1 []),(1,I k),(5,I i)]) 0 (fun _=>True) 0 trivial (Wk.list [] rfl rfl ?_) (fun i hi _=>?_) (Nat.zero_le _)
 ·repeat' (first|(conv in hold _=>simp (disch:=omega) only [go_sem])|exact trivial|exact Sub.refl _|omega)
  exact rfl
 ·obtain rfl : i = 0:=by omega
  repeat' (first|with_reducible refine acc_none ?_ | (conv in hold _=>simp (disch:=omega) only [go_sem,List.length_nil])|refine Stp.go ?_|(with_reducible first|refine it_pos rfl ?_|refine it_neg (by decide) ?_|refine st_nil rfl ?_|refine s_op ?_ ?_|exact trivial)|((with_reducible first|refine dw_reg0 ?_|refine dw_regB ?_);(conv=>arg 3;whnf))|(refine Spl.go (fun hq he=>?_) (fun hq he=>?_)<;>first|(exfalso;clear hq;omega)|((try first|(conv=>arg 8;simp only [hq])|(conv=>arg 4;simp only [hq]));clear hq))|((with_reducible first|refine c_split (fun hq=>?_) (fun hq=>?_)|refine q_split (fun hq=>?_) (fun hq=>?_))<;>(try first|(conv=>arg 8;simp only [hq])|(conv=>arg 4;simp only [hq])))|(with_reducible refine fin_0 ?_ (by first|rfl|(conv=>lhs;simp only [go_sem,List.length_nil])) ?_)|exact Sub.refl _|omega)
theorem markValueSS_rc (l : List (List V)) (hl : rsz l ≤ 1048576) (k : Int) (hk : 0 ≤ k ∧ k ≤ 549755813888) : RCalls Try.prog 35 [⟨0,1,l.map rowD⟩] [kD 0 1 (l.map rowD),I k] [⟨0,1,(mkR l k).map rowD⟩] 1 (I (k + 2 * cntV l)):=by
 by_cases h0 : l = []
 ·subst h0
  have h:=rcalls_nilP (pre:=[⟨0,1,[]⟩]) (post:=[⟨0,1,[]⟩]) (markValueSS_nil k) rfl rfl (fun it hit=>by obtain rfl:=List.mem_singleton.1 hit; rfl)
  rw [show k + 2 * (cntV [] : Int) = k from Int.add_zero k]
  exact h
 ·have hm0 : l.map rowD ≠ []:=fun h=>h0 (List.map_eq_nil_iff.1 h)
  have hkD : kD 0 1 (l.map rowD) = .kow 0 1 l.length:=by unfold kD; rw [if_neg hm0,List.length_map]
  have hlen:=rsz_len l
  have hlk:=like_mkR l k
  have hcl:=cnt_rows_i l
  have hca:=cnt_rows l
  have hcv:=cntV_le l
  have hmk:=mkR_len l k
  rw [hkD]
  refine rcalls_rowX rowEl c_Z12 mixed hlk h0 (Nat.le_of_ble_eq_true rfl) rfl rfl (by omega) (fun m0=>?_)
  have hren : ∀ (L : List Nat) (i : Nat),D.rnkL L (rowEl.row 0 (mixA (mkR l k) l i)) = rowEl.row 0 (mixA (mkR l k) l i):=fun L i=>rnk_low.rnkL_low L _ (rowR_low _ _)
  show dwp _ 1 _ (hold (entRR (famOf (rowEl.mixF l (mkR l k)) (cntS (rowEl.all l) + 1) m0) 1 l.length 0 (rowEl.row 0 l) [I k])) (FinRR _ _ (rowEl.mixF l (mkR l k)) (cntS (rowEl.all l) + 1) m0 l.length 1 (rowEl.row 0 (mkR l k))) (fun _ _=>False) (FinRR _ _ (rowEl.mixF l (mkR l k)) (cntS (rowEl.all l) + 1) m0 l.length 1 (rowEl.row 0 (mkR l k)))
  conv=>arg 3; whnf
  repeat' (first|with_reducible refine acc_none ?_ | (conv in hold _=>simp (disch:=omega) only [go_sem])|refine Stp.go ?_|(with_reducible first|refine it_pos rfl ?_|refine it_neg (by decide) ?_|refine st_nil rfl ?_|refine s_op ?_ ?_|exact trivial)|((with_reducible first|refine dw_reg0 ?_|refine dw_regB ?_);(conv=>arg 3;whnf))|(refine Spl.go (fun hq he=>?_) (fun hq he=>?_)<;>first|(exfalso;clear hq;omega)|((try first|(conv=>arg 8;simp only [hq])|(conv=>arg 4;simp only [hq]));clear hq))|((with_reducible first|refine c_split (fun hq=>?_) (fun hq=>?_)|refine q_split (fun hq=>?_) (fun hq=>?_))<;>(try first|(conv=>arg 8;simp only [hq])|(conv=>arg 4;simp only [hq])))|(with_reducible refine fin_0 ?_ (by first|rfl|(conv=>lhs;simp only [go_sem])) ?_)|exact Sub.refl _|omega)
  refine dw_for (c:=1) (l:=fun i=>[(gh,.gho 0 [.fam (famOf (rowEl.mixF l (mkR l k)) (cntS (rowEl.all l) + 1) m0)] 0 i),(0,.own 1000000 1 l.length),(1,I (k + 2 * cntV (l.take i))),(5,I i),(1000000,.row 1 (rowEl.row 0 (mixA (mkR l k) l i)))]) l.length (fun _=>True) 0 trivial (Wk.listK [1000000] rfl rfl ?_) (fun i hi _=>?_) (Nat.zero_le _)
  ·repeat' (first|(conv in hold _=>simp (disch:=omega) only [go_sem,hren])|exact trivial|exact Sub.refl _|omega)
   rw [mixA_zero,cntV]
   exact ⟨congrArg (fun n=>D.v (Value.int IntKind.i64 n)) (by omega),rfl,rfl⟩
  ·have hml : (rowEl.row 0 (mixA (mkR l k) l i)).length = l.length:=(El.row_len rowEl _ _).trans (mixA_len hmk hi)
   have hct:=cntV_take l i
   rcases at_or_end hi with ⟨x,hx,hlt⟩ | rfl
   ·have hnx:=cntV_next hx
    have hxs:=rsz_mem (List.mem_of_getElem? hx)
    have hci:=hcl i
    have hgi:=El.mix_at rowEl hlk hx
    have hnew:=mkR_at k hx
    have hst:=El.mix_set rowEl hlk hx hnew
    obtain ⟨q,hq⟩ : ∃ q : Int,q = k + 2 * ↑(cntV (l.take i)):=⟨_,rfl⟩
    rw [← hq] at hnew hst ⊢
    obtain ⟨κ,hκ⟩ : ∃ κ,κ = cntS (rowEl.all (l.take i)):=⟨_,rfl⟩
    rw [← hκ] at hgi hst hci
    have hkx : rowEl.mkd (kcs κ (rowEl.fc (mkRow q x.length))) = kD κ 2 (x.map vD):=kD_lenE (by rw [List.length_map,List.length_map,mkRow_len]) _ _
    rw [hkx] at hst
    have hsame : rowEl.row 0 (mixA (mkR l k) l (i + 1)) = rowEl.row 0 (mixA (mkR l k) l i):=by
     rw [← hst]
     apply List.ext_getElem?
     intro j
     rw [List.getElem?_set]
     split
     ·rename_i h
      subst h
      rw [if_pos (by omega),hgi]
      rfl
     ·rfl
    have hgi' : (rowEl.row 0 (mixA (mkR l k) l i))[i]? = some (kD κ 2 (x.map vD)):=hgi
    have hp1:=El.mix_its rowEl hlk hx
    have hp2:=El.mix_its1 rowEl hlk hx hnew
    rw [← hκ] at hp1 hp2
    rcases kD_two κ 2 (x.map vD) with k1 | k1
    all_goals (
     (try rw [List.length_map] at k1)
     rw [k1] at hgi'
     repeat' ((fail_if_success (with_reducible first | refine s_call ?_ | refine s_cal ?_ | refine s_inv ?_)); first | with_reducible refine acc_none ?_ | (conv in hold _=>simp (disch:=omega) only [go_sem,hml,hgi'])|refine Stp.go ?_|(with_reducible first|refine it_pos rfl ?_|refine it_neg (by decide) ?_|refine st_nil rfl ?_|refine s_op ?_ ?_|exact trivial)|((with_reducible first|refine dw_reg0 ?_|refine dw_regB ?_);(conv=>arg 3;whnf))|(refine Spl.go (fun hq he=>?_) (fun hq he=>?_)<;>first|(exfalso;clear hq;omega)|((try first|(conv=>arg 8;simp only [hq])|(conv=>arg 4;simp only [hq]));clear hq))|((with_reducible first|refine c_split (fun hq=>?_) (fun hq=>?_)|refine q_split (fun hq=>?_) (fun hq=>?_))<;>(try first|(conv=>arg 8;simp only [hq])|(conv=>arg 4;simp only [hq])))|(with_reducible refine fin_0 ?_ (by first|rfl|(conv=>lhs;simp only [go_sem,hml,hgi'])) ?_)|exact Sub.refl _|omega)
     refine s_rcall (fm:=rowEl.mixF l (mkR l k)) (p:=cntS (rowEl.all l) + 1) (m0:=m0) (k:=i) (i + 1) [κ] (rowEl.rest l (mkR l k) i) (markValueS_rc x (by omega) q (by omega)) (by ((conv=>lhs; simp (disch:=omega) only [go_sem]); try rfl)) (by ((conv=>lhs; simp (disch:=omega) only [go_sem]); try rfl)) (show _ = [(kD 0 2 (x.map vD)).rk _,_] by rw [kD_rk]; exact congrArg (fun d=>[d,I q]) k1.symm) (rr:=I (q + 2 * x.length)) rfl (by rw [D.lowL,kD_low]; rfl) rfl rfl (fun κ' h=>?_) (Nat.le_refl _) hp1 hp2 (fun it hit _=>?_) (fun it hit _=>?_) (fun it hit hne=>?_) (Nat.le_refl _) rfl (show cntS (rowEl.all l) + 1 ≤ 900000 by omega) (show 1 ≤ 900000 by omega) ?_
     ·obtain rfl:=List.mem_singleton.1 h
      show κ' < cntS (rowEl.all l) + 1
      have:=cntS_take_le rowEl l i
      omega
     ·obtain rfl:=List.mem_singleton.1 hit
      exact Nat.zero_lt_one
     ·obtain rfl:=List.mem_singleton.1 hit
      exact Nat.zero_lt_one
     ·have:=El.rest_lt rowEl hlk i it hit hne
      show it.κ < cntS (rowEl.all l) + 1
      omega
     ·repeat' (first|with_reducible refine acc_none ?_ | (conv in hold _=>simp (disch:=omega) only [go_sem])|refine Stp.go ?_|(with_reducible first|refine it_pos rfl ?_|refine it_neg (by decide) ?_|refine st_nil rfl ?_|refine s_op ?_ ?_|exact trivial)|((with_reducible first|refine dw_reg0 ?_|refine dw_regB ?_);(conv=>arg 3;whnf))|(refine Spl.go (fun hq he=>?_) (fun hq he=>?_)<;>first|(exfalso;clear hq;omega)|((try first|(conv=>arg 8;simp only [hq])|(conv=>arg 4;simp only [hq]));clear hq))|((with_reducible first|refine c_split (fun hq=>?_) (fun hq=>?_)|refine q_split (fun hq=>?_) (fun hq=>?_))<;>(try first|(conv=>arg 8;simp only [hq])|(conv=>arg 4;simp only [hq])))|(with_reducible refine fin_0 ?_ (by first|rfl|(conv=>lhs;simp only [go_sem])) ?_)|exact Sub.refl _|omega)
      refine ⟨hlt,trivial,Wk.listK [1000000] rfl rfl ?_⟩
      repeat' (first|(conv in hold _=>simp (disch:=omega) only [go_sem,hren])|exact trivial|exact Sub.refl _|omega)
      exact ⟨congrArg (fun n=>D.v (Value.int IntKind.i64 n)) (by omega),congrArg (D.row 1) hsame.symm⟩)
   ·repeat' (first|with_reducible refine acc_none ?_ | (conv in hold _=>simp (disch:=omega) only [go_sem,hml,List.take_length])|refine Stp.go ?_|(with_reducible first|refine it_pos rfl ?_|refine it_neg (by decide) ?_|refine st_nil rfl ?_|refine s_op ?_ ?_|exact trivial)|((with_reducible first|refine dw_reg0 ?_|refine dw_regB ?_);(conv=>arg 3;whnf))|(refine Spl.go (fun hq he=>?_) (fun hq he=>?_)<;>first|(exfalso;clear hq;omega)|((try first|(conv=>arg 8;simp only [hq])|(conv=>arg 4;simp only [hq]));clear hq))|((with_reducible first|refine c_split (fun hq=>?_) (fun hq=>?_)|refine q_split (fun hq=>?_) (fun hq=>?_))<;>(try first|(conv=>arg 8;simp only [hq])|(conv=>arg 4;simp only [hq])))|(with_reducible refine fin_0 ?_ (by first|rfl|(conv=>lhs;simp only [go_sem,hml,List.take_length])) ?_)|exact Sub.refl _|omega)
    refine fin_RR (by ((conv=>lhs; simp (disch:=omega) only [go_sem]); try rfl)) ?_ (by ((conv=>lhs; simp (disch:=omega) only [go_sem]); try rfl)) ?_
    ·repeat' (first|(conv in hold _=>simp (disch:=omega) only [go_sem])|exact trivial|exact Sub.refl _|omega)
    ·repeat' (first|(conv in hold _=>simp (disch:=omega) only [go_sem])|exact trivial|exact Sub.refl _|omega)
     rw [mixA_end hmk]
theorem markTable_rc (t : Ta) (hl : rsz t.rows ≤ 1048576) (k : Int) (hk : 0 ≤ k ∧ k ≤ 549755813888) : RCalls Try.prog 21 [⟨0,1,t.rows.map rowD⟩] [tK 0 t,I k] [⟨0,1,(mkR t.rows k).map rowD⟩] 1 (I (k + 2 * cntV t.rows)):=by
 have hms:=markValueSS_rc t.rows hl k hk
 let fm : Fm:=⟨fun _=>1,fun i=>if i = 0 then [⟨0,1,t.rows.map rowD⟩] else [⟨0,1,(mkR t.rows k).map rowD⟩]⟩
 refine rcalls_of c_Z26 mixed fm 0 1 (fun κ=>if κ = 0 then 0 else 2000000) (Nat.le_of_ble_eq_true rfl) rfl rfl (List.Perm.refl _) (List.Perm.refl _) (fun it hit _=>?_) (fun κ h=>?_) (fun κ hκ=>?_) (Nat.le_refl _) (by omega) (fun m0=>?_)
 ·obtain rfl:=List.mem_singleton.1 hit
  exact Nat.zero_lt_one
 ·have h : κ < 1:=h
  obtain rfl : κ = 0:=by omega
  rfl
 ·show nb ≤ if κ = 0 then _ else 2000000
  rw [if_neg (by omega)]; decide
 ·rw [tK]
  rcases kD_two 0 1 (t.rows.map rowD) with k1 | k1
  all_goals (
   (try rw [List.length_map] at k1)
   rw [k1]
   conv=>arg 3; whnf
   repeat' ((fail_if_success (with_reducible first | refine s_call ?_ | refine s_cal ?_ | refine s_inv ?_)); first | with_reducible refine acc_none ?_ | (conv in hold _=>simp (disch:=omega) only [go_sem])|refine Stp.go ?_|(with_reducible first|refine it_pos rfl ?_|refine it_neg (by decide) ?_|refine st_nil rfl ?_|refine s_op ?_ ?_|exact trivial)|((with_reducible first|refine dw_reg0 ?_|refine dw_regB ?_);(conv=>arg 3;whnf))|(refine Spl.go (fun hq he=>?_) (fun hq he=>?_)<;>first|(exfalso;clear hq;omega)|((try first|(conv=>arg 8;simp only [hq])|(conv=>arg 4;simp only [hq]));clear hq))|((with_reducible first|refine c_split (fun hq=>?_) (fun hq=>?_)|refine q_split (fun hq=>?_) (fun hq=>?_))<;>(try first|(conv=>arg 8;simp only [hq])|(conv=>arg 4;simp only [hq])))|(with_reducible refine fin_0 ?_ (by first|rfl|(conv=>lhs;simp only [go_sem])) ?_)|exact Sub.refl _|omega)
   refine s_rcall (fm:=fm) (p:=1) (m0:=m0) (k:=0) 1 [0] [] hms (by ((conv=>lhs; simp (disch:=omega) only [go_sem]); try rfl)) (by ((conv=>lhs; simp (disch:=omega) only [go_sem]); try rfl)) (show _ = [(kD 0 1 (t.rows.map rowD)).rk _,_] by rw [kD_rk]; exact congrArg (fun d=>[d,I k]) k1.symm) (rr:=I (k + 2 * cntV t.rows)) rfl (by rw [D.lowL,kD_low]; rfl) rfl rfl (fun κ h=>?_) (Nat.le_refl _) (List.Perm.refl _) (List.Perm.refl _) (fun it hit _=>?_) (fun it hit _=>?_) (fun it hit _=>(by cases hit)) (Nat.le_refl _) rfl (show 1 ≤ 900000 by omega) (show 1 ≤ 900000 by omega) ?_
   ·obtain rfl:=List.mem_singleton.1 h
    exact Nat.zero_lt_one
   ·obtain rfl:=List.mem_singleton.1 hit
    exact Nat.zero_lt_one
   ·obtain rfl:=List.mem_singleton.1 hit
    exact Nat.zero_lt_one
   ·repeat' (first|with_reducible refine acc_none ?_ | (conv in hold _=>simp (disch:=omega) only [go_sem])|refine Stp.go ?_|(with_reducible first|refine it_pos rfl ?_|refine it_neg (by decide) ?_|refine st_nil rfl ?_|refine s_op ?_ ?_|exact trivial)|((with_reducible first|refine dw_reg0 ?_|refine dw_regB ?_);(conv=>arg 3;whnf))|(refine Spl.go (fun hq he=>?_) (fun hq he=>?_)<;>first|(exfalso;clear hq;omega)|((try first|(conv=>arg 8;simp only [hq])|(conv=>arg 4;simp only [hq]));clear hq))|((with_reducible first|refine c_split (fun hq=>?_) (fun hq=>?_)|refine q_split (fun hq=>?_) (fun hq=>?_))<;>(try first|(conv=>arg 8;simp only [hq])|(conv=>arg 4;simp only [hq])))|(with_reducible refine fin_0 ?_ (by first|rfl|(conv=>lhs;simp only [go_sem])) ?_)|exact Sub.refl _|omega)
    refine fin_RC (by ((conv=>lhs; simp (disch:=omega) only [go_sem]); try rfl)) ?_ ?_
    ·repeat' (first|(conv in hold _=>simp (disch:=omega) only [go_sem])|exact trivial|exact Sub.refl _|omega)
    ·(try simp only [List.length_map])
     exact (by ((conv=>lhs; simp (disch:=omega) only [go_sem]); try rfl)))
theorem tK_lentM {its : List It} {κ : Nat} {t : Ta} {k : Int} (h : ⟨κ,1,(mkR t.rows k).map rowD⟩ ∈ its) : LentK its (tK κ t) (taD ⟨t.w,mkR t.rows k⟩):=by
 unfold tK
 rw [← kD_mkR κ t.rows k]
 exact LentK.aggL ⟨.same _ rfl,LentK.kD h,trivial⟩
theorem heldValueSS_ok (l : List (List V)) (hl : rsz l ≤ 1048576) (k : Int) (hk : 0 ≤ k ∧ k ≤ 549755813888) : Does Try.prog 36 [] [rowsD (mkR l k),I k] (I (k + 2 * cntV l)) []:=by
 have hmk:=mkR_len l k
 have hlen:=rsz_len l
 have hcv:=cntV_le l
 refine does0 c_Z11 mixed (Nat.le_of_ble_eq_true rfl) ?_
 conv=>arg 3; whnf
 repeat' (first|with_reducible refine acc_none ?_ | (conv in hold _=>simp (disch:=omega) only [go_sem,hmk])|refine Stp.go ?_|(with_reducible first|refine it_pos rfl ?_|refine it_neg (by decide) ?_|refine st_nil rfl ?_|refine s_op ?_ ?_|exact trivial)|((with_reducible first|refine dw_reg0 ?_|refine dw_regB ?_);(conv=>arg 3;whnf))|(refine Spl.go (fun hq he=>?_) (fun hq he=>?_)<;>first|(exfalso;clear hq;omega)|((try first|(conv=>arg 8;simp only [hq])|(conv=>arg 4;simp only [hq]));clear hq))|((with_reducible first|refine c_split (fun hq=>?_) (fun hq=>?_)|refine q_split (fun hq=>?_) (fun hq=>?_))<;>(try first|(conv=>arg 8;simp only [hq])|(conv=>arg 4;simp only [hq])))|(with_reducible refine fin_0 ?_ (by first|rfl|(conv=>lhs;simp only [go_sem,hmk])) ?_)|exact Sub.refl _|omega)
 refine dw_for (c:=0) (l:=fun i=>[(0,rowsD (mkR l k)),(1,I (k + 2 * cntV (l.take i))),(5,I i)]) l.length (fun _=>True) 0 trivial (Wk.list [] rfl rfl ?_) (fun i hi _=>?_) (Nat.zero_le _)
 ·repeat' (first|(conv in hold _=>simp (disch:=omega) only [go_sem])|exact trivial|exact Sub.refl _|omega)
  rw [cntV]
  exact ⟨congrArg (fun n=>D.v (Value.int IntKind.i64 n)) (by omega),rfl⟩
 ·have hct:=cntV_take l i
  rcases at_or_end hi with ⟨x,hx,hlt⟩ | rfl
  ·have hnx:=cntV_next hx
   have hxs:=rsz_mem (List.mem_of_getElem? hx)
   obtain ⟨q,hq⟩ : ∃ q : Int,q = k + 2 * ↑(cntV (l.take i)):=⟨_,rfl⟩
   have hmx:=mkR_at k hx
   rw [← hq] at hmx ⊢
   have hix:=heldValueS_ok x.length (by omega) q (by omega)
   rw [← mkRow_D] at hix
   have hgi : ((mkR l k).map rowD)[i]? = some (rowD (mkRow q x.length)):=by rw [List.getElem?_map,hmx]; rfl
   repeat' (first|with_reducible refine acc_none ?_ | (conv in hold _=>simp (disch:=omega) only [go_sem,hmk,hgi])|refine Stp.go ?_|(with_reducible first|refine it_pos rfl ?_|refine it_neg (by decide) ?_|refine st_nil rfl ?_|refine s_op ?_ ?_|exact trivial)|((with_reducible first|refine dw_reg0 ?_|refine dw_regB ?_);(conv=>arg 3;whnf))|(refine Spl.go (fun hq he=>?_) (fun hq he=>?_)<;>first|(exfalso;clear hq;omega)|((try first|(conv=>arg 8;simp only [hq])|(conv=>arg 4;simp only [hq]));clear hq))|((with_reducible first|refine c_split (fun hq=>?_) (fun hq=>?_)|refine q_split (fun hq=>?_) (fun hq=>?_))<;>(try first|(conv=>arg 8;simp only [hq])|(conv=>arg 4;simp only [hq])))|(with_reducible refine fin_0 ?_ (by first|rfl|(conv=>lhs;simp only [go_sem,hmk,hgi])) ?_)|exact Sub.refl _|omega)
   refine c_doesE (hix) ?_ ?_ ?_
   ·((try (conv=>rhs;simp (disch:=omega) only [go_sem])); try rfl)
   ·first|rfl|(conv=>lhs;simp only [go_sem])
   repeat' (first|with_reducible refine acc_none ?_ | (conv in hold _=>simp (disch:=omega) only [go_sem])|refine Stp.go ?_|(with_reducible first|refine it_pos rfl ?_|refine it_neg (by decide) ?_|refine st_nil rfl ?_|refine s_op ?_ ?_|exact trivial)|((with_reducible first|refine dw_reg0 ?_|refine dw_regB ?_);(conv=>arg 3;whnf))|(refine Spl.go (fun hq he=>?_) (fun hq he=>?_)<;>first|(exfalso;clear hq;omega)|((try first|(conv=>arg 8;simp only [hq])|(conv=>arg 4;simp only [hq]));clear hq))|((with_reducible first|refine c_split (fun hq=>?_) (fun hq=>?_)|refine q_split (fun hq=>?_) (fun hq=>?_))<;>(try first|(conv=>arg 8;simp only [hq])|(conv=>arg 4;simp only [hq])))|(with_reducible refine fin_0 ?_ (by first|rfl|(conv=>lhs;simp only [go_sem])) ?_)|exact Sub.refl _|omega)
   refine ⟨hlt,trivial,Wk.list [] rfl rfl ?_⟩
   repeat' (first|(conv in hold _=>simp (disch:=omega) only [go_sem])|exact trivial|exact Sub.refl _|omega)
   exact congrArg (fun n=>D.v (Value.int IntKind.i64 n)) (by omega)
  ·repeat' (first|with_reducible refine acc_none ?_ | (conv in hold _=>simp (disch:=omega) only [go_sem,hmk,List.take_length])|refine Stp.go ?_|(with_reducible first|refine it_pos rfl ?_|refine it_neg (by decide) ?_|refine st_nil rfl ?_|refine s_op ?_ ?_|exact trivial)|((with_reducible first|refine dw_reg0 ?_|refine dw_regB ?_);(conv=>arg 3;whnf))|(refine Spl.go (fun hq he=>?_) (fun hq he=>?_)<;>first|(exfalso;clear hq;omega)|((try first|(conv=>arg 8;simp only [hq])|(conv=>arg 4;simp only [hq]));clear hq))|((with_reducible first|refine c_split (fun hq=>?_) (fun hq=>?_)|refine q_split (fun hq=>?_) (fun hq=>?_))<;>(try first|(conv=>arg 8;simp only [hq])|(conv=>arg 4;simp only [hq])))|(with_reducible refine fin_0 ?_ (by first|rfl|(conv=>lhs;simp only [go_sem,hmk,List.take_length])) ?_)|exact Sub.refl _|omega)
theorem heldTable_ok (w : Int) (l : List (List V)) (hl : rsz l ≤ 1048576) (k : Int) (hk : 0 ≤ k ∧ k ≤ 549755813888) : Does Try.prog 27 [] [taD ⟨w,mkR l k⟩,I k] (I (k + 2 * cntV l)) []:=by
 have h:=heldValueSS_ok l hl k hk
 refine does0 c_Z25 mixed (Nat.le_of_ble_eq_true rfl) ?_
 conv=>arg 3; whnf
 repeat' (first|with_reducible refine acc_none ?_ | (conv in hold _=>simp (disch:=omega) only [go_sem])|refine Stp.go ?_|(with_reducible first|refine it_pos rfl ?_|refine it_neg (by decide) ?_|refine st_nil rfl ?_|refine s_op ?_ ?_|exact trivial)|((with_reducible first|refine dw_reg0 ?_|refine dw_regB ?_);(conv=>arg 3;whnf))|(refine Spl.go (fun hq he=>?_) (fun hq he=>?_)<;>first|(exfalso;clear hq;omega)|((try first|(conv=>arg 8;simp only [hq])|(conv=>arg 4;simp only [hq]));clear hq))|((with_reducible first|refine c_split (fun hq=>?_) (fun hq=>?_)|refine q_split (fun hq=>?_) (fun hq=>?_))<;>(try first|(conv=>arg 8;simp only [hq])|(conv=>arg 4;simp only [hq])))|(with_reducible refine fin_0 ?_ (by first|rfl|(conv=>lhs;simp only [go_sem])) ?_)|exact Sub.refl _|omega)
 refine c_doesE (h) ?_ ?_ ?_
 ·((try (conv=>rhs;simp (disch:=omega) only [go_sem])); try rfl)
 ·first|rfl|(conv=>lhs;simp only [go_sem])
 repeat' (first|with_reducible refine acc_none ?_ | (conv in hold _=>simp (disch:=omega) only [go_sem])|refine Stp.go ?_|(with_reducible first|refine it_pos rfl ?_|refine it_neg (by decide) ?_|refine st_nil rfl ?_|refine s_op ?_ ?_|exact trivial)|((with_reducible first|refine dw_reg0 ?_|refine dw_regB ?_);(conv=>arg 3;whnf))|(refine Spl.go (fun hq he=>?_) (fun hq he=>?_)<;>first|(exfalso;clear hq;omega)|((try first|(conv=>arg 8;simp only [hq])|(conv=>arg 4;simp only [hq]));clear hq))|((with_reducible first|refine c_split (fun hq=>?_) (fun hq=>?_)|refine q_split (fun hq=>?_) (fun hq=>?_))<;>(try first|(conv=>arg 8;simp only [hq])|(conv=>arg 4;simp only [hq])))|(with_reducible refine fin_0 ?_ (by first|rfl|(conv=>lhs;simp only [go_sem])) ?_)|exact Sub.refl _|omega)
end Go.Proofs.Ytedmegmhjmabcaa
