/-
  Values found in a column; rows kept by what they match, as the program does. No condition.
-/
import Derived.Test.YtedmegmhjmabcaaKSDca
import Derived.Test.YtedmegmhjmabcaaJSDcc
import Derived.Test.YtedmegmhjmabcaaKSDcg
import Derived.Test.YtedmegmhjmabcaaKSVSortV
import Derived.Test.YtedmegmhjmabcaaKSVScan
import Derived.Test.YtedmegmhjmabcaaJSVCol
set_option maxHeartbeats 4000000
set_option maxRecDepth 100000
set_option linter.unusedVariables false
set_option linter.unusedSimpArgs false
namespace Go.Proofs.Ytedmegmhjmabcaa
open Go.RowKit
noncomputable def mch (os : List V) (v : V) : Bool:=@decide (v.b = false ∧ v ∈ os) (Classical.propDecidable _)
theorem mch_iff {os : List V} {v : V} : mch os v = true ↔ v.b = false ∧ v ∈ os:=by
 unfold mch
 rw [@decide_eq_true_iff _ (Classical.propDecidable _)]
theorem mch_f {os : List V} {v : V} (h : ¬ (v.b = false ∧ v ∈ os)) : mch os v = false:=by
 rw [Bool.eq_false_iff]
 exact fun e=>h (mch_iff.1 e)
theorem mch_perm {os s : List V} (h : s.Perm os) (v : V) : mch s v = mch os v:=by
 rw [Bool.eq_iff_iff,mch_iff,mch_iff,h.mem_iff]
theorem find_ok (os : List V) (v : V) (hn : os.length ≤ 400) (hok : ∀ x,x ∈ os → x.ok) (hv : v.ok) (hs : os.Pairwise (fun a b=>cmpV a b ≤ 0)) :
  ∃ i : Int,Does Try.prog 199 [] [rowD os,vD v,.fn 62 []] (.tup [I i,Bo (@decide (v ∈ os) (Classical.propDecidable _))]) []:=by
 letI:=Classical.propDecidable (v ∈ os)
 have hat : ∀ (j : Nat) (x : V),os[j]? = some x → (fun j=>decide (0 ≤ cmpV (os.getD j ⟨false,0⟩) v)) j = decide (0 ≤ cmpV x v):=fun j x hj=>by
  show decide (0 ≤ cmpV (os.getD j ⟨false,0⟩) v) = _
  rw [List.getD_eq_getElem?_getD,hj]
  rfl
 have hp : ∀ i j,i ≤ j → j < os.length → (fun j=>decide (0 ≤ cmpV (os.getD j ⟨false,0⟩) v)) i = true → (fun j=>decide (0 ≤ cmpV (os.getD j ⟨false,0⟩) v)) j = true:=fun i j hij hj hi=>by
  have e1:=List.getElem?_eq_getElem (l:=os) (i:=i) (by omega)
  have e2:=List.getElem?_eq_getElem hj
  rw [hat _ _ e1] at hi
  rw [hat _ _ e2]
  have hi:=of_decide_eq_true hi
  refine decide_eq_true ?_
  by_cases hij' : i = j
  ·subst hij'; exact hi
  ·have h1:=List.pairwise_iff_getElem.1 hs i j (by omega) hj (by omega)
   have a1:=hok _ (List.mem_of_getElem? e1)
   have a2:=hok _ (List.mem_of_getElem? e2)
   have k1:=cmpV_key a1 a2
   have k2:=cmpV_key a1 hv
   have k3:=cmpV_key a2 hv
   omega
 generalize (fun j=>decide (0 ≤ cmpV (os.getD j ⟨false,0⟩) v)) = p at hat hp
 have hinv:=itB_inv (p:=p) (n:=os.length) hp
 have hend:=hinv os.length
 have hee : (itB p os.length os.length).1 = (itB p os.length os.length).2:=by omega
 have hmem : (v ∈ os) ↔ ∃ x,os[(itB p os.length os.length).1]? = some x ∧ cmpV x v = 0:=by
  constructor
  ·intro hm
   obtain ⟨j,hj⟩:=List.mem_iff_getElem?.1 hm
   have hjl:=(List.getElem?_eq_some_iff.1 hj).1
   have hpj : p j = true:=by rw [hat j v hj]; exact decide_eq_true (by rw [cmpV_self]; exact Int.le_refl _)
   have hge : (itB p os.length os.length).1 ≤ j:=by
    refine Classical.byContradiction fun hlt=>?_
    have:=hend.2.1 j (by omega)
    rw [hpj] at this
    cases this
   obtain ⟨x,hx⟩ : ∃ x,os[(itB p os.length os.length).1]? = some x:=⟨_,List.getElem?_eq_getElem (by omega)⟩
   refine ⟨x,hx,?_⟩
   have h1:=hend.2.2 _ (by omega) (List.getElem?_eq_some_iff.1 hx).1
   rw [hat _ x hx] at h1
   have h1:=of_decide_eq_true h1
   by_cases e : (itB p os.length os.length).1 = j
   ·rw [e,hj] at hx
    cases hx
    exact cmpV_self v
   ·obtain ⟨hxl,rfl⟩:=List.getElem?_eq_some_iff.1 hx
    obtain ⟨_,rfl⟩:=List.getElem?_eq_some_iff.1 hj
    have:=List.pairwise_iff_getElem.1 hs _ j hxl hjl (by omega)
    omega
  ·rintro ⟨x,hx,h0⟩
   rw [← cmpV_eq h0]
   exact List.mem_of_getElem? hx
 refine ⟨((itB p os.length os.length).1 : Nat),?_⟩
 refine does0 c_Z0 mixed (Nat.le_of_ble_eq_true rfl) ?_
 conv=>arg 3; whnf
 repeat' (first|with_reducible refine acc_none ?_ | (conv in hold _=>simp (disch:=omega) only [go_sem])|refine Stp.go ?_|(with_reducible first|refine it_pos rfl ?_|refine it_neg (by decide) ?_|refine st_nil rfl ?_|refine s_op ?_ ?_|exact trivial)|((with_reducible first|refine dw_reg0 ?_|refine dw_regB ?_);(conv=>arg 3;whnf))|(refine Spl.go (fun hq he=>?_) (fun hq he=>?_)<;>first|(exfalso;clear hq;omega)|((try first|(conv=>arg 8;simp only [hq])|(conv=>arg 4;simp only [hq]));clear hq))|((with_reducible first|refine c_split (fun hq=>?_) (fun hq=>?_)|refine q_split (fun hq=>?_) (fun hq=>?_))<;>(try first|(conv=>arg 8;simp only [hq])|(conv=>arg 4;simp only [hq])))|(with_reducible refine fin_0 ?_ (by first|rfl|(conv=>lhs;simp only [go_sem])) ?_)|exact Sub.refl _|omega)
 refine dw_for (c:=1) (l:=fun i=>[(0,rowD os),(2,.fn 62 []),(4,.ref 1000000 0),(8,I os.length),(9,I (itB p os.length i).1),(10,I (itB p os.length i).2),(1000000,.obj [Bo v.b,I v.n])]) os.length (fun _=>True) 0 trivial (Wk.list [2000004] rfl rfl ?_) (fun i hi _=>?_) (Nat.zero_le _)
 ·repeat' (first|(conv in hold _=>simp (disch:=omega) only [go_sem])|exact trivial|exact Sub.refl _|omega)
  first | exact rfl | exact ⟨rfl,rfl⟩
 ·have hi3:=hinv i
  have hnx : itB p os.length (i + 1) = stepB p (itB p os.length i):=rfl
  have hstop:=itB_end (p:=p) (n:=os.length) (i:=i)
  by_cases hlt : (itB p os.length i).1 < (itB p os.length i).2
  ·generalize itB p os.length i = s at hi3 hnx hlt
   obtain ⟨lo,hi'⟩:=s
   simp only at hi3 hlt
   have hu : IntKind.u64.wrap ((lo : Int) + (hi' : Int)) = (lo : Int) + (hi' : Int):=by
    simp [IntKind.wrap,IntKind.bits,IntKind.signed]
    omega
   have hsh : ((lo : Int) + (hi' : Int)).fdiv (2 ^ min (1 : Int).toNat IntKind.u64.bits) = (((lo + hi') / 2 : Nat) : Int):=by
    show ((lo : Int) + (hi' : Int)).fdiv 2 = _
    rw [Int.fdiv_eq_ediv_of_nonneg _ (by decide)]
    omega
   have hsh2 : ((lo : Int) + (hi' : Int)).fdiv (2 ^ min 1 64) = (((lo + hi') / 2 : Nat) : Int):=hsh
   have hw' : IntKind.i64.wrap (((lo + hi') / 2 : Nat) : Int) = (((lo + hi') / 2 : Nat) : Int):=wrap64 (by omega) (by omega)
   have hx:=List.getElem?_eq_getElem (l:=os) (i:=(lo + hi') / 2) (by omega)
   generalize os[(lo + hi') / 2]'(by omega) = x at hx
   have hc:=Value_compare_ok x v (hok x (List.mem_of_getElem? hx)) hv
   have hatm:=hat _ x hx
   have hmr : (lo + hi') / 2 < os.length:=by omega
   unfold stepB at hnx
   simp only [hlt,if_true] at hnx
   generalize (lo + hi') / 2 = m at hsh hsh2 hw' hx hatm hmr hnx
   by_cases hm : cmpV x v < 0
   ·rw [decide_eq_false (by omega)] at hatm
    rw [hatm] at hnx
    simp only [Bool.false_eq_true,if_false] at hnx
    repeat' (first|with_reducible refine acc_none ?_ | (conv in hold _=>simp (disch:=omega) only [go_sem,hu,hsh,hsh2,hw',List.getElem?_map,hx,Option.map_some])|refine Stp.go ?_|(with_reducible first|refine it_pos rfl ?_|refine it_neg (by decide) ?_|refine st_nil rfl ?_|refine s_op ?_ ?_|exact trivial)|((with_reducible first|refine dw_reg0 ?_|refine dw_regB ?_);(conv=>arg 3;whnf))|(refine Spl.go (fun hq he=>?_) (fun hq he=>?_)<;>first|(exfalso;clear hq;omega)|((try first|(conv=>arg 8;simp only [hq])|(conv=>arg 4;simp only [hq]));clear hq))|((with_reducible first|refine c_split (fun hq=>?_) (fun hq=>?_)|refine q_split (fun hq=>?_) (fun hq=>?_))<;>(try first|(conv=>arg 8;simp only [hq])|(conv=>arg 4;simp only [hq])))|(with_reducible refine fin_0 ?_ (by first|rfl|(conv=>lhs;simp only [go_sem,hu,hsh,hsh2,hw',List.getElem?_map,hx,Option.map_some])) ?_)|exact Sub.refl _|omega)
    refine v_fn ((by kernel_rfl)) ?_
    refine c_doesE (hc) ?_ ?_ ?_
    ·((try (conv=>rhs;simp (disch:=omega) only [go_sem,hu,hsh,hsh2,hw',List.getElem?_map,hx,Option.map_some])); try rfl)
    ·first|rfl|(conv=>lhs;simp only [go_sem,hu,hsh,hsh2,hw',List.getElem?_map,hx,Option.map_some])
    repeat' (first|with_reducible refine acc_none ?_ | (conv in hold _=>simp (disch:=omega) only [go_sem,hu,hsh,hsh2,hw',List.getElem?_map,hx,Option.map_some])|refine Stp.go ?_|(with_reducible first|refine it_pos rfl ?_|refine it_neg (by decide) ?_|refine st_nil rfl ?_|refine s_op ?_ ?_|exact trivial)|((with_reducible first|refine dw_reg0 ?_|refine dw_regB ?_);(conv=>arg 3;whnf))|(refine Spl.go (fun hq he=>?_) (fun hq he=>?_)<;>first|(exfalso;clear hq;omega)|((try first|(conv=>arg 8;simp only [hq])|(conv=>arg 4;simp only [hq]));clear hq))|((with_reducible first|refine c_split (fun hq=>?_) (fun hq=>?_)|refine q_split (fun hq=>?_) (fun hq=>?_))<;>(try first|(conv=>arg 8;simp only [hq])|(conv=>arg 4;simp only [hq])))|(with_reducible refine fin_0 ?_ (by first|rfl|(conv=>lhs;simp only [go_sem,hu,hsh,hsh2,hw',List.getElem?_map,hx,Option.map_some])) ?_)|exact Sub.refl _|omega)
    refine ⟨by omega,trivial,Wk.list [1000000] rfl rfl ?_⟩
    repeat' (first|(conv in hold _=>simp (disch:=omega) only [go_sem,hnx])|exact trivial|exact Sub.refl _|omega)
   ·rw [decide_eq_true (by omega)] at hatm
    rw [hatm] at hnx
    simp only [if_true] at hnx
    repeat' (first|with_reducible refine acc_none ?_ | (conv in hold _=>simp (disch:=omega) only [go_sem,hu,hsh,hsh2,hw',List.getElem?_map,hx,Option.map_some])|refine Stp.go ?_|(with_reducible first|refine it_pos rfl ?_|refine it_neg (by decide) ?_|refine st_nil rfl ?_|refine s_op ?_ ?_|exact trivial)|((with_reducible first|refine dw_reg0 ?_|refine dw_regB ?_);(conv=>arg 3;whnf))|(refine Spl.go (fun hq he=>?_) (fun hq he=>?_)<;>first|(exfalso;clear hq;omega)|((try first|(conv=>arg 8;simp only [hq])|(conv=>arg 4;simp only [hq]));clear hq))|((with_reducible first|refine c_split (fun hq=>?_) (fun hq=>?_)|refine q_split (fun hq=>?_) (fun hq=>?_))<;>(try first|(conv=>arg 8;simp only [hq])|(conv=>arg 4;simp only [hq])))|(with_reducible refine fin_0 ?_ (by first|rfl|(conv=>lhs;simp only [go_sem,hu,hsh,hsh2,hw',List.getElem?_map,hx,Option.map_some])) ?_)|exact Sub.refl _|omega)
    refine v_fn ((by kernel_rfl)) ?_
    refine c_doesE (hc) ?_ ?_ ?_
    ·((try (conv=>rhs;simp (disch:=omega) only [go_sem,hu,hsh,hsh2,hw',List.getElem?_map,hx,Option.map_some])); try rfl)
    ·first|rfl|(conv=>lhs;simp only [go_sem,hu,hsh,hsh2,hw',List.getElem?_map,hx,Option.map_some])
    repeat' (first|with_reducible refine acc_none ?_ | (conv in hold _=>simp (disch:=omega) only [go_sem,hu,hsh,hsh2,hw',List.getElem?_map,hx,Option.map_some])|refine Stp.go ?_|(with_reducible first|refine it_pos rfl ?_|refine it_neg (by decide) ?_|refine st_nil rfl ?_|refine s_op ?_ ?_|exact trivial)|((with_reducible first|refine dw_reg0 ?_|refine dw_regB ?_);(conv=>arg 3;whnf))|(refine Spl.go (fun hq he=>?_) (fun hq he=>?_)<;>first|(exfalso;clear hq;omega)|((try first|(conv=>arg 8;simp only [hq])|(conv=>arg 4;simp only [hq]));clear hq))|((with_reducible first|refine c_split (fun hq=>?_) (fun hq=>?_)|refine q_split (fun hq=>?_) (fun hq=>?_))<;>(try first|(conv=>arg 8;simp only [hq])|(conv=>arg 4;simp only [hq])))|(with_reducible refine fin_0 ?_ (by first|rfl|(conv=>lhs;simp only [go_sem,hu,hsh,hsh2,hw',List.getElem?_map,hx,Option.map_some])) ?_)|exact Sub.refl _|omega)
    refine ⟨by omega,trivial,Wk.list [1000000] rfl rfl ?_⟩
    repeat' (first|(conv in hold _=>simp (disch:=omega) only [go_sem,hnx])|exact trivial|exact Sub.refl _|omega)
  ·have he1:=hstop hlt (os.length - i)
   rw [show i + (os.length - i) = os.length by omega] at he1
   rw [he1] at hmem ⊢
   generalize itB p os.length i = s at hi3 hmem hlt
   obtain ⟨lo,hi'⟩:=s
   simp only at hi3 hmem hlt
   by_cases hlo : lo < os.length
   ·obtain ⟨x,hx⟩ : ∃ x,os[lo]? = some x:=⟨_,List.getElem?_eq_getElem hlo⟩
    have hc:=Value_compare_ok x v (hok x (List.mem_of_getElem? hx)) hv
    have hdec : decide (v ∈ os) = (cmpV x v == 0):=by
     rw [Bool.eq_iff_iff,decide_eq_true_iff,beq_iff_eq,hmem]
     exact ⟨fun ⟨y,hy,h0⟩=>by rw [hx] at hy; cases hy; exact h0,fun h0=>⟨x,hx,h0⟩⟩
    repeat' (first|with_reducible refine acc_none ?_ | (conv in hold _=>simp (disch:=omega) only [go_sem,List.getElem?_map,hx,Option.map_some])|refine Stp.go ?_|(with_reducible first|refine it_pos rfl ?_|refine it_neg (by decide) ?_|refine st_nil rfl ?_|refine s_op ?_ ?_|exact trivial)|((with_reducible first|refine dw_reg0 ?_|refine dw_regB ?_);(conv=>arg 3;whnf))|(refine Spl.go (fun hq he=>?_) (fun hq he=>?_)<;>first|(exfalso;clear hq;omega)|((try first|(conv=>arg 8;simp only [hq])|(conv=>arg 4;simp only [hq]));clear hq))|((with_reducible first|refine c_split (fun hq=>?_) (fun hq=>?_)|refine q_split (fun hq=>?_) (fun hq=>?_))<;>(try first|(conv=>arg 8;simp only [hq])|(conv=>arg 4;simp only [hq])))|(with_reducible refine fin_0 ?_ (by first|rfl|(conv=>lhs;simp only [go_sem,List.getElem?_map,hx,Option.map_some])) ?_)|exact Sub.refl _|omega)
    refine v_fn ((by kernel_rfl)) ?_
    refine c_doesE (hc) ?_ ?_ ?_
    ·((try (conv=>rhs;simp (disch:=omega) only [go_sem,hdec])); try rfl)
    ·first|rfl|(conv=>lhs;simp only [go_sem,hdec])
    repeat' (first|with_reducible refine acc_none ?_ | (conv in hold _=>simp (disch:=omega) only [go_sem,hdec])|refine Stp.go ?_|(with_reducible first|refine it_pos rfl ?_|refine it_neg (by decide) ?_|refine st_nil rfl ?_|refine s_op ?_ ?_|exact trivial)|((with_reducible first|refine dw_reg0 ?_|refine dw_regB ?_);(conv=>arg 3;whnf))|(refine Spl.go (fun hq he=>?_) (fun hq he=>?_)<;>first|(exfalso;clear hq;omega)|((try first|(conv=>arg 8;simp only [hq])|(conv=>arg 4;simp only [hq]));clear hq))|((with_reducible first|refine c_split (fun hq=>?_) (fun hq=>?_)|refine q_split (fun hq=>?_) (fun hq=>?_))<;>(try first|(conv=>arg 8;simp only [hq])|(conv=>arg 4;simp only [hq])))|(with_reducible refine fin_0 ?_ (by first|rfl|(conv=>lhs;simp only [go_sem,hdec])) ?_)|exact Sub.refl _|omega)
   ·have hdec : decide (v ∈ os) = false:=decide_eq_false (fun h=>by
     obtain ⟨y,hy,_⟩:=hmem.1 h
     have:=(List.getElem?_eq_some_iff.1 hy).1
     omega)
    repeat' (first|with_reducible refine acc_none ?_ | (conv in hold _=>simp (disch:=omega) only [go_sem,hdec])|refine Stp.go ?_|(with_reducible first|refine it_pos rfl ?_|refine it_neg (by decide) ?_|refine st_nil rfl ?_|refine s_op ?_ ?_|exact trivial)|((with_reducible first|refine dw_reg0 ?_|refine dw_regB ?_);(conv=>arg 3;whnf))|(refine Spl.go (fun hq he=>?_) (fun hq he=>?_)<;>first|(exfalso;clear hq;omega)|((try first|(conv=>arg 8;simp only [hq])|(conv=>arg 4;simp only [hq]));clear hq))|((with_reducible first|refine c_split (fun hq=>?_) (fun hq=>?_)|refine q_split (fun hq=>?_) (fun hq=>?_))<;>(try first|(conv=>arg 8;simp only [hq])|(conv=>arg 4;simp only [hq])))|(with_reducible refine fin_0 ?_ (by first|rfl|(conv=>lhs;simp only [go_sem,hdec])) ?_)|exact Sub.refl _|omega)
theorem cmatches_ok {c : Nat} {os row : List V} {v : V} (hrv : row[c]? = some v) (hn : os.length ≤ 400) (hok : ∀ x,x ∈ os → x.ok) (hv : v.ok) (hs : os.Pairwise (fun a b=>cmpV a b ≤ 0)) : Does Try.prog 198 [] [.agg [I c,rowD os],rowD row] (Bo (mch os v)) []:=by
 obtain ⟨i,h1⟩:=find_ok os v hn hok hv hs
 have hcl:=(List.getElem?_eq_some_iff.1 hrv).1
 by_cases hm : v ∈ os
 ·rw [@decide_eq_true _ (Classical.propDecidable _) hm] at h1
  have e : mch os v = !v.b:=by
   rw [Bool.eq_iff_iff,mch_iff]
   cases v.b <;> simp [hm]
  rw [e]
  refine does0 c_Z4 mixed (Nat.le_of_ble_eq_true rfl) ?_
  conv=>arg 3; whnf
  repeat' (first|with_reducible refine acc_none ?_ | (conv in hold _=>simp (disch:=omega) only [go_sem,List.getElem?_map,hrv,Option.map_some])|refine Stp.go ?_|(with_reducible first|refine it_pos rfl ?_|refine it_neg (by decide) ?_|refine st_nil rfl ?_|refine s_op ?_ ?_|exact trivial)|((with_reducible first|refine dw_reg0 ?_|refine dw_regB ?_);(conv=>arg 3;whnf))|(refine Spl.go (fun hq he=>?_) (fun hq he=>?_)<;>first|(exfalso;clear hq;omega)|((try first|(conv=>arg 8;simp only [hq])|(conv=>arg 4;simp only [hq]));clear hq))|((with_reducible first|refine c_split (fun hq=>?_) (fun hq=>?_)|refine q_split (fun hq=>?_) (fun hq=>?_))<;>(try first|(conv=>arg 8;simp only [hq])|(conv=>arg 4;simp only [hq])))|(with_reducible refine fin_0 ?_ (by first|rfl|(conv=>lhs;simp only [go_sem,List.getElem?_map,hrv,Option.map_some])) ?_)|exact Sub.refl _|omega)
  refine c_doesE (h1) ?_ ?_ ?_
  ·((try (conv=>rhs;simp (disch:=omega) only [go_sem,List.getElem?_map,hrv,Option.map_some])); try rfl)
  ·first|rfl|(conv=>lhs;simp only [go_sem,List.getElem?_map,hrv,Option.map_some])
  repeat' (first|with_reducible refine acc_none ?_ | (conv in hold _=>simp (disch:=omega) only [go_sem,List.getElem?_map,hrv,Option.map_some])|refine Stp.go ?_|(with_reducible first|refine it_pos rfl ?_|refine it_neg (by decide) ?_|refine st_nil rfl ?_|refine s_op ?_ ?_|exact trivial)|((with_reducible first|refine dw_reg0 ?_|refine dw_regB ?_);(conv=>arg 3;whnf))|(refine Spl.go (fun hq he=>?_) (fun hq he=>?_)<;>first|(exfalso;clear hq;omega)|((try first|(conv=>arg 8;simp only [hq])|(conv=>arg 4;simp only [hq]));clear hq))|((with_reducible first|refine c_split (fun hq=>?_) (fun hq=>?_)|refine q_split (fun hq=>?_) (fun hq=>?_))<;>(try first|(conv=>arg 8;simp only [hq])|(conv=>arg 4;simp only [hq])))|(with_reducible refine fin_0 ?_ (by first|rfl|(conv=>lhs;simp only [go_sem,List.getElem?_map,hrv,Option.map_some])) ?_)|exact Sub.refl _|omega)
 ·rw [@decide_eq_false _ (Classical.propDecidable _) hm] at h1
  rw [mch_f (fun h=>hm h.2)]
  refine does0 c_Z4 mixed (Nat.le_of_ble_eq_true rfl) ?_
  conv=>arg 3; whnf
  repeat' (first|with_reducible refine acc_none ?_ | (conv in hold _=>simp (disch:=omega) only [go_sem,List.getElem?_map,hrv,Option.map_some])|refine Stp.go ?_|(with_reducible first|refine it_pos rfl ?_|refine it_neg (by decide) ?_|refine st_nil rfl ?_|refine s_op ?_ ?_|exact trivial)|((with_reducible first|refine dw_reg0 ?_|refine dw_regB ?_);(conv=>arg 3;whnf))|(refine Spl.go (fun hq he=>?_) (fun hq he=>?_)<;>first|(exfalso;clear hq;omega)|((try first|(conv=>arg 8;simp only [hq])|(conv=>arg 4;simp only [hq]));clear hq))|((with_reducible first|refine c_split (fun hq=>?_) (fun hq=>?_)|refine q_split (fun hq=>?_) (fun hq=>?_))<;>(try first|(conv=>arg 8;simp only [hq])|(conv=>arg 4;simp only [hq])))|(with_reducible refine fin_0 ?_ (by first|rfl|(conv=>lhs;simp only [go_sem,List.getElem?_map,hrv,Option.map_some])) ?_)|exact Sub.refl _|omega)
  refine c_doesE (h1) ?_ ?_ ?_
  ·((try (conv=>rhs;simp (disch:=omega) only [go_sem,List.getElem?_map,hrv,Option.map_some])); try rfl)
  ·first|rfl|(conv=>lhs;simp only [go_sem,List.getElem?_map,hrv,Option.map_some])
  repeat' (first|with_reducible refine acc_none ?_ | (conv in hold _=>simp (disch:=omega) only [go_sem,List.getElem?_map,hrv,Option.map_some])|refine Stp.go ?_|(with_reducible first|refine it_pos rfl ?_|refine it_neg (by decide) ?_|refine st_nil rfl ?_|refine s_op ?_ ?_|exact trivial)|((with_reducible first|refine dw_reg0 ?_|refine dw_regB ?_);(conv=>arg 3;whnf))|(refine Spl.go (fun hq he=>?_) (fun hq he=>?_)<;>first|(exfalso;clear hq;omega)|((try first|(conv=>arg 8;simp only [hq])|(conv=>arg 4;simp only [hq]));clear hq))|((with_reducible first|refine c_split (fun hq=>?_) (fun hq=>?_)|refine q_split (fun hq=>?_) (fun hq=>?_))<;>(try first|(conv=>arg 8;simp only [hq])|(conv=>arg 4;simp only [hq])))|(with_reducible refine fin_0 ?_ (by first|rfl|(conv=>lhs;simp only [go_sem,List.getElem?_map,hrv,Option.map_some])) ?_)|exact Sub.refl _|omega)
theorem semi_ok {c : Nat} {os row : List V} {v : V} (hrv : row[c]? = some v) (hn : os.length ≤ 400) (hok : ∀ x,x ∈ os → x.ok) (hv : v.ok) (hs : os.Pairwise (fun a b=>cmpV a b ≤ 0)) : Does Try.prog 197 [] [.agg [I c,rowD os],rowD row] (Bo (mch os v)) []:=by
 have h:=cmatches_ok hrv hn hok hv hs
 refine does0 c_Z7 mixed (Nat.le_of_ble_eq_true rfl) ?_
 conv=>arg 3; whnf
 repeat' (first|with_reducible refine acc_none ?_ | (conv in hold _=>simp (disch:=omega) only [go_sem])|refine Stp.go ?_|(with_reducible first|refine it_pos rfl ?_|refine it_neg (by decide) ?_|refine st_nil rfl ?_|refine s_op ?_ ?_|exact trivial)|((with_reducible first|refine dw_reg0 ?_|refine dw_regB ?_);(conv=>arg 3;whnf))|(refine Spl.go (fun hq he=>?_) (fun hq he=>?_)<;>first|(exfalso;clear hq;omega)|((try first|(conv=>arg 8;simp only [hq])|(conv=>arg 4;simp only [hq]));clear hq))|((with_reducible first|refine c_split (fun hq=>?_) (fun hq=>?_)|refine q_split (fun hq=>?_) (fun hq=>?_))<;>(try first|(conv=>arg 8;simp only [hq])|(conv=>arg 4;simp only [hq])))|(with_reducible refine fin_0 ?_ (by first|rfl|(conv=>lhs;simp only [go_sem])) ?_)|exact Sub.refl _|omega)
 refine c_doesE (h) ?_ ?_ ?_
 ·((try (conv=>rhs;simp (disch:=omega) only [go_sem])); try rfl)
 ·first|rfl|(conv=>lhs;simp only [go_sem])
 repeat' (first|with_reducible refine acc_none ?_ | (conv in hold _=>simp (disch:=omega) only [go_sem])|refine Stp.go ?_|(with_reducible first|refine it_pos rfl ?_|refine it_neg (by decide) ?_|refine st_nil rfl ?_|refine s_op ?_ ?_|exact trivial)|((with_reducible first|refine dw_reg0 ?_|refine dw_regB ?_);(conv=>arg 3;whnf))|(refine Spl.go (fun hq he=>?_) (fun hq he=>?_)<;>first|(exfalso;clear hq;omega)|((try first|(conv=>arg 8;simp only [hq])|(conv=>arg 4;simp only [hq]));clear hq))|((with_reducible first|refine c_split (fun hq=>?_) (fun hq=>?_)|refine q_split (fun hq=>?_) (fun hq=>?_))<;>(try first|(conv=>arg 8;simp only [hq])|(conv=>arg 4;simp only [hq])))|(with_reducible refine fin_0 ?_ (by first|rfl|(conv=>lhs;simp only [go_sem])) ?_)|exact Sub.refl _|omega)
theorem anti_ok {c : Nat} {os row : List V} {v : V} (hrv : row[c]? = some v) (hn : os.length ≤ 400) (hok : ∀ x,x ∈ os → x.ok) (hv : v.ok) (hs : os.Pairwise (fun a b=>cmpV a b ≤ 0)) : Does Try.prog 200 [] [.agg [I c,rowD os],rowD row] (Bo (!mch os v)) []:=by
 have h:=cmatches_ok hrv hn hok hv hs
 refine does0 c_Z6 mixed (Nat.le_of_ble_eq_true rfl) ?_
 conv=>arg 3; whnf
 repeat' (first|with_reducible refine acc_none ?_ | (conv in hold _=>simp (disch:=omega) only [go_sem])|refine Stp.go ?_|(with_reducible first|refine it_pos rfl ?_|refine it_neg (by decide) ?_|refine st_nil rfl ?_|refine s_op ?_ ?_|exact trivial)|((with_reducible first|refine dw_reg0 ?_|refine dw_regB ?_);(conv=>arg 3;whnf))|(refine Spl.go (fun hq he=>?_) (fun hq he=>?_)<;>first|(exfalso;clear hq;omega)|((try first|(conv=>arg 8;simp only [hq])|(conv=>arg 4;simp only [hq]));clear hq))|((with_reducible first|refine c_split (fun hq=>?_) (fun hq=>?_)|refine q_split (fun hq=>?_) (fun hq=>?_))<;>(try first|(conv=>arg 8;simp only [hq])|(conv=>arg 4;simp only [hq])))|(with_reducible refine fin_0 ?_ (by first|rfl|(conv=>lhs;simp only [go_sem])) ?_)|exact Sub.refl _|omega)
 refine c_doesE (h) ?_ ?_ ?_
 ·((try (conv=>rhs;simp (disch:=omega) only [go_sem])); try rfl)
 ·first|rfl|(conv=>lhs;simp only [go_sem])
 repeat' (first|with_reducible refine acc_none ?_ | (conv in hold _=>simp (disch:=omega) only [go_sem])|refine Stp.go ?_|(with_reducible first|refine it_pos rfl ?_|refine it_neg (by decide) ?_|refine st_nil rfl ?_|refine s_op ?_ ?_|exact trivial)|((with_reducible first|refine dw_reg0 ?_|refine dw_regB ?_);(conv=>arg 3;whnf))|(refine Spl.go (fun hq he=>?_) (fun hq he=>?_)<;>first|(exfalso;clear hq;omega)|((try first|(conv=>arg 8;simp only [hq])|(conv=>arg 4;simp only [hq]));clear hq))|((with_reducible first|refine c_split (fun hq=>?_) (fun hq=>?_)|refine q_split (fun hq=>?_) (fun hq=>?_))<;>(try first|(conv=>arg 8;simp only [hq])|(conv=>arg 4;simp only [hq])))|(with_reducible refine fin_0 ?_ (by first|rfl|(conv=>lhs;simp only [go_sem])) ?_)|exact Sub.refl _|omega)
theorem filterB_ok (rs : List (List V)) (hl : rs.length ≤ 1000) {T : TypeId} {f : FuncId} {name : String} {e : D} (hep : e.pur = true) (her : ∀ L,e.ren L = e) (hm : methOf Try.prog T name = some f) (p : List V → Bool) (h : ∀ x,x ∈ rs → Does Try.prog f [] [e,rowD x] (Bo (p x)) []) : Does Try.prog 64 [] [rowsD rs,.bnd T name e] (rowsD (rs.filter p)) []:=by
 refine does c_Z5 mixed (Nat.le_of_ble_eq_true rfl) 0 rfl ?_
 conv=>arg 3; whnf
 repeat' (first|with_reducible refine acc_none ?_ | (conv in hold _=>simp (disch:=omega) only [go_sem])|refine Stp.go ?_|(with_reducible first|refine it_pos rfl ?_|refine it_neg (by decide) ?_|refine st_nil rfl ?_|refine s_op ?_ ?_|exact trivial)|((with_reducible first|refine dw_reg0 ?_|refine dw_regB ?_);(conv=>arg 3;whnf))|(refine Spl.go (fun hq he=>?_) (fun hq he=>?_)<;>first|(exfalso;clear hq;omega)|((try first|(conv=>arg 8;simp only [hq])|(conv=>arg 4;simp only [hq]));clear hq))|((with_reducible first|refine c_split (fun hq=>?_) (fun hq=>?_)|refine q_split (fun hq=>?_) (fun hq=>?_))<;>(try first|(conv=>arg 8;simp only [hq])|(conv=>arg 4;simp only [hq])))|(with_reducible refine fin_0 ?_ (by first|rfl|(conv=>lhs;simp only [go_sem])) ?_)|exact Sub.refl _|omega)
 refine dw_for (c:=1) (l:=fun i=>[(1,.bnd T name e),(5,.own 1000000 1 ((rs.take i).filter p).length),(8,rowsD rs),(9,I rs.length),(10,I i),(1000000,.row 1 (((rs.take i).filter p).map rowD))]) rs.length (fun _=>True) 0 trivial ((wk_row 5 2000020 1 (by decide) (by decide) rfl rfl).trans (Wk.list [2000020] rfl rfl ?_)) (fun i hi _=>?_) (Nat.zero_le _)
 ·repeat' (first|(conv in hold _=>simp (disch:=omega) only [go_sem,her])|exact trivial|exact Sub.refl _|omega)
  first | exact ⟨rfl,rfl,rfl⟩ | exact rfl | skip
 ·have hlen:=filt_len p rs i hi
  have htm : (((rs.take i).filter p).map rowD).take ((rs.take i).filter p).length = ((rs.take i).filter p).map rowD:=take_all rowD _
  rcases at_or_end hi with ⟨x,hx,hlt⟩ | rfl
  ·have hix:=h x (List.mem_of_getElem? hx)
   cases hp : p x with
   | true=>
    rw [hp] at hix
    have e1:=filt_t hx hp
    repeat' (first|with_reducible refine acc_none ?_ | (conv in hold _=>simp (disch:=omega) only [go_sem,List.getElem?_map,hx,Option.map_some])|refine Stp.go ?_|(with_reducible first|refine it_pos rfl ?_|refine it_neg (by decide) ?_|refine st_nil rfl ?_|refine s_op ?_ ?_|exact trivial)|((with_reducible first|refine dw_reg0 ?_|refine dw_regB ?_);(conv=>arg 3;whnf))|(refine Spl.go (fun hq he=>?_) (fun hq he=>?_)<;>first|(exfalso;clear hq;omega)|((try first|(conv=>arg 8;simp only [hq])|(conv=>arg 4;simp only [hq]));clear hq))|((with_reducible first|refine c_split (fun hq=>?_) (fun hq=>?_)|refine q_split (fun hq=>?_) (fun hq=>?_))<;>(try first|(conv=>arg 8;simp only [hq])|(conv=>arg 4;simp only [hq])))|(with_reducible refine fin_0 ?_ (by first|rfl|(conv=>lhs;simp only [go_sem,List.getElem?_map,hx,Option.map_some])) ?_)|exact Sub.refl _|omega)
    refine v_bnd (hm) ?_
    refine c_doesE (hix) ?_ ?_ ?_
    ·((try (conv=>rhs;simp (disch:=omega) only [go_sem,htm,hep])); try rfl)
    ·first|rfl|(conv=>lhs;simp only [go_sem,htm,hep])
    repeat' (first|with_reducible refine acc_none ?_ | (conv in hold _=>simp (disch:=omega) only [go_sem,htm,hep])|refine Stp.go ?_|(with_reducible first|refine it_pos rfl ?_|refine it_neg (by decide) ?_|refine st_nil rfl ?_|refine s_op ?_ ?_|exact trivial)|((with_reducible first|refine dw_reg0 ?_|refine dw_regB ?_);(conv=>arg 3;whnf))|(refine Spl.go (fun hq he=>?_) (fun hq he=>?_)<;>first|(exfalso;clear hq;omega)|((try first|(conv=>arg 8;simp only [hq])|(conv=>arg 4;simp only [hq]));clear hq))|((with_reducible first|refine c_split (fun hq=>?_) (fun hq=>?_)|refine q_split (fun hq=>?_) (fun hq=>?_))<;>(try first|(conv=>arg 8;simp only [hq])|(conv=>arg 4;simp only [hq])))|(with_reducible refine fin_0 ?_ (by first|rfl|(conv=>lhs;simp only [go_sem,htm,hep])) ?_)|exact Sub.refl _|omega)
    refine ⟨hlt,trivial,Wk.list [2000020] rfl rfl ?_⟩
    repeat' (first|(conv in hold _=>simp (disch:=omega) only [go_sem,e1,htm,her])|exact trivial|exact Sub.refl _|omega)
    rw [List.map_append]
    rfl
   | false=>
    rw [hp] at hix
    have e1:=filt_f hx hp
    repeat' (first|with_reducible refine acc_none ?_ | (conv in hold _=>simp (disch:=omega) only [go_sem,List.getElem?_map,hx,Option.map_some])|refine Stp.go ?_|(with_reducible first|refine it_pos rfl ?_|refine it_neg (by decide) ?_|refine st_nil rfl ?_|refine s_op ?_ ?_|exact trivial)|((with_reducible first|refine dw_reg0 ?_|refine dw_regB ?_);(conv=>arg 3;whnf))|(refine Spl.go (fun hq he=>?_) (fun hq he=>?_)<;>first|(exfalso;clear hq;omega)|((try first|(conv=>arg 8;simp only [hq])|(conv=>arg 4;simp only [hq]));clear hq))|((with_reducible first|refine c_split (fun hq=>?_) (fun hq=>?_)|refine q_split (fun hq=>?_) (fun hq=>?_))<;>(try first|(conv=>arg 8;simp only [hq])|(conv=>arg 4;simp only [hq])))|(with_reducible refine fin_0 ?_ (by first|rfl|(conv=>lhs;simp only [go_sem,List.getElem?_map,hx,Option.map_some])) ?_)|exact Sub.refl _|omega)
    refine v_bnd (hm) ?_
    refine c_doesE (hix) ?_ ?_ ?_
    ·((try (conv=>rhs;simp (disch:=omega) only [go_sem,hep])); try rfl)
    ·first|rfl|(conv=>lhs;simp only [go_sem,hep])
    repeat' (first|with_reducible refine acc_none ?_ | (conv in hold _=>simp (disch:=omega) only [go_sem,hep])|refine Stp.go ?_|(with_reducible first|refine it_pos rfl ?_|refine it_neg (by decide) ?_|refine st_nil rfl ?_|refine s_op ?_ ?_|exact trivial)|((with_reducible first|refine dw_reg0 ?_|refine dw_regB ?_);(conv=>arg 3;whnf))|(refine Spl.go (fun hq he=>?_) (fun hq he=>?_)<;>first|(exfalso;clear hq;omega)|((try first|(conv=>arg 8;simp only [hq])|(conv=>arg 4;simp only [hq]));clear hq))|((with_reducible first|refine c_split (fun hq=>?_) (fun hq=>?_)|refine q_split (fun hq=>?_) (fun hq=>?_))<;>(try first|(conv=>arg 8;simp only [hq])|(conv=>arg 4;simp only [hq])))|(with_reducible refine fin_0 ?_ (by first|rfl|(conv=>lhs;simp only [go_sem,hep])) ?_)|exact Sub.refl _|omega)
    refine ⟨hlt,trivial,Wk.list [1000000] rfl rfl ?_⟩
    repeat' (first|(conv in hold _=>simp (disch:=omega) only [go_sem,e1,her])|exact trivial|exact Sub.refl _|omega)
  ·have e1 : (rs.take rs.length).filter p = rs.filter p:=by rw [List.take_length]
   rw [e1] at hlen htm
   repeat' (first|with_reducible refine acc_none ?_ | (conv in hold _=>simp (disch:=omega) only [go_sem,e1])|refine Stp.go ?_|(with_reducible first|refine it_pos rfl ?_|refine it_neg (by decide) ?_|refine st_nil rfl ?_|refine s_op ?_ ?_|exact trivial)|((with_reducible first|refine dw_reg0 ?_|refine dw_regB ?_);(conv=>arg 3;whnf))|(refine Spl.go (fun hq he=>?_) (fun hq he=>?_)<;>first|(exfalso;clear hq;omega)|((try first|(conv=>arg 8;simp only [hq])|(conv=>arg 4;simp only [hq]));clear hq))|((with_reducible first|refine c_split (fun hq=>?_) (fun hq=>?_)|refine q_split (fun hq=>?_) (fun hq=>?_))<;>(try first|(conv=>arg 8;simp only [hq])|(conv=>arg 4;simp only [hq])))|exact Sub.refl _|omega)
   refine fin_wk (wk_frz 4 1000000 (by decide) (by decide) rfl ?_) ?_
   rotate_left
   (conv in hold _=>simp (disch:=omega) only [go_sem,e1,htm,List.length_map,Nat.le_refl])
   ·refine fin_L [] ?_ ?_ rfl ?_
    repeat' (first|(conv in hold _=>simp (disch:=omega) only [go_sem,e1,htm])|exact trivial|exact Sub.refl _|omega)
   ·exact rows_pur _
end Go.Proofs.Ytedmegmhjmabcaa
