/-
  Rows copied by the program: trees of one's own. No condition.
-/
import Derived.Test.YtedmegmhjmabcaaKSDca
import Derived.Test.YtedmegmhjmabcaaKSDcb
import Derived.Test.YtedmegmhjmabcaaKSDce
import Derived.Test.YtedmegmhjmabcaaKSVToT
import Derived.Test.YtedmegmhjmabcaaKSVLawX
import Derived.Test.YtedmegmhjmabcaaKSVClone
set_option maxHeartbeats 4000000
set_option maxRecDepth 100000
set_option linter.unusedVariables false
set_option linter.unusedSimpArgs false
namespace Go.Proofs.Ytedmegmhjmabcaa
open Go.RowKit
theorem cloneRow_own (vs : List V) (h0 : 0 < vs.length) (hl : vs.length < 2000000) : Does Try.prog 105 [] [rowD vs] (.own 1000000 2 vs.length) [.row 2 (vs.map vD)]:=by
 refine does c_Z1 mixed (Nat.le_of_ble_eq_true rfl) 0 rfl ?_
 conv=>arg 3; whnf
 repeat' (first|with_reducible refine acc_none ?_ | (conv in hold _=>simp (disch:=omega) only [go_sem])|refine Stp.go ?_|(with_reducible first|refine it_pos rfl ?_|refine it_neg (by decide) ?_|refine st_nil rfl ?_|refine s_op ?_ ?_|exact trivial)|((with_reducible first|refine dw_reg0 ?_|refine dw_regB ?_);(conv=>arg 3;whnf))|(refine Spl.go (fun hq he=>?_) (fun hq he=>?_)<;>first|(exfalso;clear hq;omega)|((try first|(conv=>arg 8;simp only [hq])|(conv=>arg 4;simp only [hq]));clear hq))|((with_reducible first|refine c_split (fun hq=>?_) (fun hq=>?_)|refine q_split (fun hq=>?_) (fun hq=>?_))<;>(try first|(conv=>arg 8;simp only [hq])|(conv=>arg 4;simp only [hq])))|(with_reducible refine fin_0 ?_ (by first|rfl|(conv=>lhs;simp only [go_sem])) ?_)|exact Sub.refl _|omega)
 refine fin_L [2000007] ?_ ?_ rfl ?_
 repeat' (first|(conv in hold _=>simp (disch:=omega) only [go_sem,take_all])|exact trivial|exact Sub.refl _|omega)
theorem cloneRow_rc (vs : List V) (h0 : 0 < vs.length) (hl : vs.length < 2000000) : RCalls Try.prog 105 [] [rowD vs] [⟨0,2,vs.map vD⟩] 1 (kD 0 2 (vs.map vD)):=by
 have hm0 : vs.map vD ≠ []:=fun h=>by rw [List.map_eq_nil_iff.1 h] at h0; exact absurd h0 (Nat.lt_irrefl 0)
 have hlm : (vs.map vD).length = vs.length:=List.length_map ..
 have ho:=cloneRow_own vs h0 hl
 rw [← hlm] at ho
 have h:=rcalls_ans ho rfl hm0 (flatD_vals _)
 unfold kD
 rw [if_neg hm0]
 exact h
theorem cloneRows_none : Does Try.prog 67 [] [rowsD []] .nul []:=by
 refine does0 c_Z22 mixed (Nat.le_of_ble_eq_true rfl) ?_
 conv=>arg 3; whnf
 repeat' (first|with_reducible refine acc_none ?_ | (conv in hold _=>simp (disch:=omega) only [go_sem])|refine Stp.go ?_|(with_reducible first|refine it_pos rfl ?_|refine it_neg (by decide) ?_|refine st_nil rfl ?_|refine s_op ?_ ?_|exact trivial)|((with_reducible first|refine dw_reg0 ?_|refine dw_regB ?_);(conv=>arg 3;whnf))|(refine Spl.go (fun hq he=>?_) (fun hq he=>?_)<;>first|(exfalso;clear hq;omega)|((try first|(conv=>arg 8;simp only [hq])|(conv=>arg 4;simp only [hq]));clear hq))|((with_reducible first|refine c_split (fun hq=>?_) (fun hq=>?_)|refine q_split (fun hq=>?_) (fun hq=>?_))<;>(try first|(conv=>arg 8;simp only [hq])|(conv=>arg 4;simp only [hq])))|(with_reducible refine fin_0 ?_ (by first|rfl|(conv=>lhs;simp only [go_sem])) ?_)|exact Sub.refl _|omega)
 refine dw_for (c:=0) (l:=fun i=>[(3,.nul),(6,.sl 1 []),(7,I 0),(8,I i)]) 0 (fun _=>True) 0 trivial (Wk.list [] rfl rfl ?_) (fun i hi _=>?_) (Nat.zero_le _)
 ·repeat' (first|(conv in hold _=>simp (disch:=omega) only [go_sem])|exact trivial|exact Sub.refl _|omega)
  exact ⟨rfl,rfl⟩
 ·obtain rfl : i = 0:=by omega
  repeat' (first|with_reducible refine acc_none ?_ | (conv in hold _=>simp (disch:=omega) only [go_sem])|refine Stp.go ?_|(with_reducible first|refine it_pos rfl ?_|refine it_neg (by decide) ?_|refine st_nil rfl ?_|refine s_op ?_ ?_|exact trivial)|((with_reducible first|refine dw_reg0 ?_|refine dw_regB ?_);(conv=>arg 3;whnf))|(refine Spl.go (fun hq he=>?_) (fun hq he=>?_)<;>first|(exfalso;clear hq;omega)|((try first|(conv=>arg 8;simp only [hq])|(conv=>arg 4;simp only [hq]));clear hq))|((with_reducible first|refine c_split (fun hq=>?_) (fun hq=>?_)|refine q_split (fun hq=>?_) (fun hq=>?_))<;>(try first|(conv=>arg 8;simp only [hq])|(conv=>arg 4;simp only [hq])))|(with_reducible refine fin_0 ?_ (by first|rfl|(conv=>lhs;simp only [go_sem])) ?_)|exact Sub.refl _|omega)
theorem cloneRows_rc (rs : List (List V)) (h : ∀ r,r ∈ rs → 0 < r.length ∧ r.length < 2000000) (hl : rs.length ≤ 1000) : RCalls Try.prog 67 [] [rowsD rs] [⟨0,1,rs.map rowD⟩] 1 (kD 0 1 (rs.map rowD)):=by
 by_cases h0 : rs = []
 ·subst h0
  exact (rcalls_nil (post:=[⟨0,1,[]⟩]) (top':=0) (show Does Try.prog 67 [] [rowsD []] (rowsD []) [] from cloneRows_none.weak ⟨Sub.refl _,trivial⟩ (Sub.nul 1)) rfl rfl (fun it hit=>by obtain rfl:=List.mem_singleton.1 hit; rfl)).top (by omega)
 ·have hm0 : rs.map rowD ≠ []:=fun h=>h0 (List.map_eq_nil_iff.1 h)
  have hn1 : nb = 1000000:=rfl
  have hcl : ∀ i,cntS (rowEl.all (rs.take i)) ≤ rs.length:=fun i=>by
   have h1 : ∀ m : List (List V),cntS (rowEl.all m) ≤ m.length:=by
    intro m
    induction m with
    | nil=>exact Nat.zero_le _
    | cons r m ih=>
     have e : rowEl.all (r :: m) = rowEl.fc r ++ rowEl.all m:=rfl
     have:=nE_le r
     rw [e,cntS_append,cnt_row,List.length_cons]
     omega
   have:=h1 (rs.take i)
   rw [List.length_take] at this
   omega
  have hca:=hcl rs.length
  rw [List.take_length] at hca
  have hren : ∀ (L : List Nat) (i : Nat),D.rnkL L (rowEl.row 0 (rs.take i)) = rowEl.row 0 (rs.take i):=fun L i=>rnk_low.rnkL_low L _ (rowR_low _ _)
  have hkD : kD 0 1 (rs.map rowD) = .kow 0 1 rs.length:=by unfold kD; rw [if_neg hm0,List.length_map]
  refine rcalls_of c_Z15 mixed (rowEl.fm rs) 0 (rs.length + 1) (fun κ=>if κ = 0 then cntS (rowEl.all rs) else 2000000) (Nat.le_of_ble_eq_true rfl) (kD_low _ _ _) ?_ ?_ ?_ ?_ (fun κ h=>absurd h (Nat.not_lt_zero κ)) (fun κ hκ=>?_) (Nat.zero_le _) (by omega) (fun m0=>?_)
  ·rw [El.fm_top rowEl (Nat.zero_le _),List.take_zero]; rfl
  ·rw [El.fm_its rowEl (Nat.zero_le _),List.take_zero]; exact List.Perm.refl _
  ·rw [El.fm_itsE rowEl]; exact List.Perm.refl _
  ·intro it hit _
   obtain rfl:=List.mem_singleton.1 hit
   exact Nat.zero_lt_one
  ·show nb ≤ if κ = 0 then _ else 2000000
   rw [if_neg (by omega)]; decide
  ·rw [hkD]
   conv=>arg 3; whnf
   repeat' (first|with_reducible refine acc_none ?_ | (conv in hold _=>simp (disch:=omega) only [go_sem])|refine Stp.go ?_|(with_reducible first|refine it_pos rfl ?_|refine it_neg (by decide) ?_|refine st_nil rfl ?_|refine s_op ?_ ?_|exact trivial)|((with_reducible first|refine dw_reg0 ?_|refine dw_regB ?_);(conv=>arg 3;whnf))|(refine Spl.go (fun hq he=>?_) (fun hq he=>?_)<;>first|(exfalso;clear hq;omega)|((try first|(conv=>arg 8;simp only [hq])|(conv=>arg 4;simp only [hq]));clear hq))|((with_reducible first|refine c_split (fun hq=>?_) (fun hq=>?_)|refine q_split (fun hq=>?_) (fun hq=>?_))<;>(try first|(conv=>arg 8;simp only [hq])|(conv=>arg 4;simp only [hq])))|(with_reducible refine fin_0 ?_ (by first|rfl|(conv=>lhs;simp only [go_sem])) ?_)|exact Sub.refl _|omega)
   refine dw_for (c:=1) (l:=fun i=>[(gh,.gho 0 [.fam (famOf (rowEl.fm rs) 0 m0)] 0 i),(3,.own 1000000 1 i),(6,rowsD rs),(7,I rs.length),(8,I i),(1000000,.row 1 (rowEl.row 0 (rs.take i)))]) rs.length (fun _=>True) 0 trivial ((wk_row 3 2000016 1 (by decide) (by decide) rfl rfl).trans (Wk.listK [2000016] rfl rfl ?_)) (fun i hi _=>?_) (Nat.zero_le _)
   ·repeat' (first|(conv in hold _=>simp (disch:=omega) only [go_sem,hren])|exact trivial|exact Sub.refl _|omega)
    first | exact rfl | exact ⟨rfl,rfl⟩ | exact ⟨rfl,rfl,rfl⟩ | skip
   ·have hci:=hcl i
    have hfl : (rowEl.row 0 (rs.take i)).length = i:=by rw [El.row_len,List.length_take]; omega
    have hft : (rowEl.row 0 (rs.take i)).take i = rowEl.row 0 (rs.take i):=List.take_of_length_le (Nat.le_of_eq hfl)
    rcases at_or_end hi with ⟨x,hx,hlt⟩ | rfl
    ·have hxl:=h x (List.mem_of_getElem? hx)
     have hix:=cloneRow_rc x hxl.1 hxl.2
     have hnE : nE x = 1:=if_neg (fun e=>by rw [e] at hxl; exact absurd hxl.1 (Nat.lt_irrefl 0))
     have hrn:=El.row_next rowEl hx
     rw [rK_eq] at hrn
     obtain ⟨t,ht⟩ : ∃ t,t = cntS (rowEl.all (rs.take i)):=⟨_,rfl⟩
     rw [← ht,rK] at hrn
     have hkx : kD t 2 (x.map vD) = .kow t 2 x.length:=by
      unfold kD
      rw [if_neg (fun e=>by rw [List.map_eq_nil_iff.1 e] at hxl; exact absurd hxl.1 (Nat.lt_irrefl 0)),List.length_map]
     have htop : (rowEl.fm rs).top i = t:=(El.fm_top rowEl hi).trans ht.symm
     have hnx:=El.fm_next rowEl hx
     have hki : ∀ κ,keyR [] ((rowEl.fm rs).top i) κ = t + κ:=fun κ=>by rw [htop]; rfl
     repeat' ((fail_if_success (with_reducible first | refine s_call ?_ | refine s_cal ?_ | refine s_inv ?_)); first | with_reducible refine acc_none ?_ | (conv in hold _=>simp (disch:=omega) only [go_sem,List.getElem?_map,hx,Option.map_some,hfl,hft])|refine Stp.go ?_|(with_reducible first|refine it_pos rfl ?_|refine it_neg (by decide) ?_|refine st_nil rfl ?_|refine s_op ?_ ?_|exact trivial)|((with_reducible first|refine dw_reg0 ?_|refine dw_regB ?_);(conv=>arg 3;whnf))|(refine Spl.go (fun hq he=>?_) (fun hq he=>?_)<;>first|(exfalso;clear hq;omega)|((try first|(conv=>arg 8;simp only [hq])|(conv=>arg 4;simp only [hq]));clear hq))|((with_reducible first|refine c_split (fun hq=>?_) (fun hq=>?_)|refine q_split (fun hq=>?_) (fun hq=>?_))<;>(try first|(conv=>arg 8;simp only [hq])|(conv=>arg 4;simp only [hq])))|(with_reducible refine fin_0 ?_ (by first|rfl|(conv=>lhs;simp only [go_sem,List.getElem?_map,hx,Option.map_some,hfl,hft])) ?_)|exact Sub.refl _|omega)
     refine s_rcall (fm:=rowEl.fm rs) (p:=0) (m0:=m0) (k:=i) (i + 1) [] ((rowEl.fm rs).its i) hix (by ((conv=>lhs; simp (disch:=omega) only [go_sem,List.getElem?_map,hx,Option.map_some]); try rfl)) (by ((conv=>lhs; simp (disch:=omega) only [go_sem,List.getElem?_map,hx,Option.map_some]); try rfl)) (congrArg (fun d=>[d]) (rk_pur _ _ (rowD_pur x)).symm) (rr:=.kow t 2 x.length) (by rw [kD_rk,hki,Nat.add_zero,hkx])
      rfl (kD_low _ _ _) rfl (fun κ h=>(by cases h)) (Nat.zero_le _) (List.Perm.refl _) ?_ (fun it hit hne=>(by cases hit)) (fun it hit hne=>?_) (El.fm_lt rowEl hi) (Nat.zero_le _) ?_ ?_ (Nat.zero_le _) ?_
     ·rw [hnx,← ht,its_row]
      refine List.perm_append_comm.trans ?_
      show List.Perm _ ([(⟨keyR [] ((rowEl.fm rs).top i) 0,2,x.map vD⟩ : It)] ++ _)
      rw [hki,Nat.add_zero]
     ·obtain rfl:=List.mem_singleton.1 hit
      exact Nat.zero_lt_one
     ·rw [El.fm_top rowEl (by omega),htop,El.all_next rowEl hx,cntS_append,cnt_row,← ht,hnE]
      rfl
     ·have h1:=hcl (i + 1)
      rw [El.fm_top rowEl (by omega)]
      omega
     ·repeat' (first|with_reducible refine acc_none ?_ | (conv in hold _=>simp (disch:=omega) only [go_sem,hfl,hft])|refine Stp.go ?_|(with_reducible first|refine it_pos rfl ?_|refine it_neg (by decide) ?_|refine st_nil rfl ?_|refine s_op ?_ ?_|exact trivial)|((with_reducible first|refine dw_reg0 ?_|refine dw_regB ?_);(conv=>arg 3;whnf))|(refine Spl.go (fun hq he=>?_) (fun hq he=>?_)<;>first|(exfalso;clear hq;omega)|((try first|(conv=>arg 8;simp only [hq])|(conv=>arg 4;simp only [hq]));clear hq))|((with_reducible first|refine c_split (fun hq=>?_) (fun hq=>?_)|refine q_split (fun hq=>?_) (fun hq=>?_))<;>(try first|(conv=>arg 8;simp only [hq])|(conv=>arg 4;simp only [hq])))|(with_reducible refine fin_0 ?_ (by first|rfl|(conv=>lhs;simp only [go_sem,hfl,hft])) ?_)|exact Sub.refl _|omega)
      refine ⟨hlt,trivial,Wk.listK [2000016] rfl rfl ?_⟩
      repeat' (first|(conv in hold _=>simp (disch:=omega) only [go_sem,hren,hfl,hft])|exact trivial|exact Sub.refl _|omega)
      rw [hrn,hkx]
    ·repeat' (first|with_reducible refine acc_none ?_ | (conv in hold _=>simp (disch:=omega) only [go_sem,hft])|refine Stp.go ?_|(with_reducible first|refine it_pos rfl ?_|refine it_neg (by decide) ?_|refine st_nil rfl ?_|refine s_op ?_ ?_|exact trivial)|((with_reducible first|refine dw_reg0 ?_|refine dw_regB ?_);(conv=>arg 3;whnf))|(refine Spl.go (fun hq he=>?_) (fun hq he=>?_)<;>first|(exfalso;clear hq;omega)|((try first|(conv=>arg 8;simp only [hq])|(conv=>arg 4;simp only [hq]));clear hq))|((with_reducible first|refine c_split (fun hq=>?_) (fun hq=>?_)|refine q_split (fun hq=>?_) (fun hq=>?_))<;>(try first|(conv=>arg 8;simp only [hq])|(conv=>arg 4;simp only [hq])))|exact Sub.refl _|omega)
     have hle : (rs.map rowD).length = rs.length:=List.length_map ..
     have hk:=El.keyed rowEl rs
     have htl : (rowEl.fm rs).top rs.length = cntS (rowEl.all rs):=(El.fm_top rowEl (Nat.le_refl _)).trans (by rw [List.take_length])
     have hta : rs.take rs.length = rs:=List.take_length
     refine fin_RCw (wk_fold (rs.length + 1) 2 1000000 1 (rs.map rowD) (rowEl.row 0 rs) (keyOf (D.flat (rs.map rowD))) [] (by ((conv=>lhs; simp (disch:=omega) only [go_sem]); try rfl)) (by decide) (by rw [hle]; exact (by ((conv=>lhs; simp (disch:=omega) only [go_sem]); try rfl))) (by decide) (by ((conv=>lhs; simp (disch:=omega) only [go_sem,hta]); try rfl)) hm0 (by rw [El.row_len,hle]) hk.cells hk.flat (fun j d hj=>hk.at' j d hj) ?_ ?_ (fun it hit hne=>(by cases hit)) ?_ ?_ (Nat.zero_le _)) ?_
     ·have:=El.fm_end rowEl rs
      rw [this,List.append_nil]
      exact List.Perm.refl _
     ·rw [El.fm_itsE rowEl,htl]
      exact List.Perm.refl _
     ·rw [El.fm_topE rowEl,htl]
     ·rw [El.fm_topE rowEl]; omega
     ·rw [htl,hle]
      refine fin_RC (by ((conv=>lhs; simp (disch:=omega) only [go_sem]); try rfl)) ?_ (by ((conv=>lhs; simp (disch:=omega) only [go_sem]); try rfl))
      repeat' (first|(conv in hold _=>simp (disch:=omega) only [go_sem])|exact trivial|exact Sub.refl _|omega)
section
variable {P : Program} {G : Ctx} {σ : Env} {B : List Nat} {l : List GI} {acc : Option (List Ent)} {N : Env → Prop} {rd wr : List Nat}
end
end Go.Proofs.Ytedmegmhjmabcaa
