/-
  Tables copied by the laws: trees of one's own. No condition.
-/
import Derived.Test.YtedmegmhjmabcaaKSDca
import Derived.Test.YtedmegmhjmabcaaKSVMix
import Derived.Test.YtedmegmhjmabcaaKSVSzT
set_option maxHeartbeats 4000000
set_option maxRecDepth 100000
set_option linter.unusedVariables false
set_option linter.unusedSimpArgs false
namespace Go.Proofs.Ytedmegmhjmabcaa
open Go.RowKit
theorem flatD_vals (l : List V) : flatD (l.map vD):=flatD_map vD l (fun a c hc=>by
 have hc' : c ∈ [Bo a.b,I a.n]:=hc
 simp only [List.mem_cons,List.not_mem_nil,or_false] at hc'
 rcases hc' with rfl | rfl <;> exact ⟨_,rfl⟩)
theorem rowsD_pur (l : List (List V)) : (rowsD l).pur = true:=rfl
theorem toValueS_own (l : List V) (hlen : l.length ≤ 1048576) : Does Try.prog 93 [] [rowD l] (.own 1000000 2 l.length) [.row 2 (l.map vD)]:=by
 have hz:=fil_zero vD (.agg [Bo false,I 0]) l
 have hren:=fil_ren vD (.agg [Bo false,I 0]) (fun _=>rfl) rfl l
 refine does c_Z34 mixed (Nat.le_of_ble_eq_true rfl) 0 rfl ?_
 conv=>arg 3; whnf
 repeat' (first|with_reducible refine acc_none ?_ | (conv in hold _=>simp (disch:=omega) only [go_sem])|refine Stp.go ?_|(with_reducible first|refine it_pos rfl ?_|refine it_neg (by decide) ?_|refine st_nil rfl ?_|refine s_op ?_ ?_|exact trivial)|((with_reducible first|refine dw_reg0 ?_|refine dw_regB ?_);(conv=>arg 3;whnf))|(refine Spl.go (fun hq he=>?_) (fun hq he=>?_)<;>first|(exfalso;clear hq;omega)|((try first|(conv=>arg 8;simp only [hq])|(conv=>arg 4;simp only [hq]));clear hq))|((with_reducible first|refine c_split (fun hq=>?_) (fun hq=>?_)|refine q_split (fun hq=>?_) (fun hq=>?_))<;>(try first|(conv=>arg 8;simp only [hq])|(conv=>arg 4;simp only [hq])))|(with_reducible refine fin_0 ?_ (by first|rfl|(conv=>lhs;simp only [go_sem])) ?_)|exact Sub.refl _|omega)
 refine dw_for (c:=1) (l:=fun i=>[(0,rowD l),(3,.own 1000000 2 l.length),(4,I i),(1000000,.row 2 (fil vD (.agg [Bo false,I 0]) l i))]) l.length (fun _=>True) 0 trivial (Wk.list [2000007] rfl rfl ?_) (fun i hi _=>?_) (Nat.zero_le _)
 ·repeat' (first|(conv in hold _=>simp (disch:=omega) only [go_sem,hren])|exact trivial|exact Sub.refl _|omega)
  rw [hz]
  exact ⟨rfl,rfl⟩
 ·have hfl:=fil_len vD (.agg [Bo false,I 0]) l hi
  have hft:=fil_take vD (.agg [Bo false,I 0]) l hi
  rcases at_or_end hi with ⟨x,hx,hlt⟩ | rfl
  ·have hst:=fil_set vD (.agg [Bo false,I 0]) hx
   rw [vD] at hst
   have hgi : (fil vD (.agg [Bo false,I 0]) l i)[i]? = some (.agg [Bo false,I 0]):=fil_get vD (.agg [Bo false,I 0]) hlt
   have hv:=toValue_ok x
   repeat' (first|with_reducible refine acc_none ?_ | (conv in hold _=>simp (disch:=omega) only [go_sem,List.getElem?_map,hx,Option.map_some,hfl,hft,hgi])|refine Stp.go ?_|(with_reducible first|refine it_pos rfl ?_|refine it_neg (by decide) ?_|refine st_nil rfl ?_|refine s_op ?_ ?_|exact trivial)|((with_reducible first|refine dw_reg0 ?_|refine dw_regB ?_);(conv=>arg 3;whnf))|(refine Spl.go (fun hq he=>?_) (fun hq he=>?_)<;>first|(exfalso;clear hq;omega)|((try first|(conv=>arg 8;simp only [hq])|(conv=>arg 4;simp only [hq]));clear hq))|((with_reducible first|refine c_split (fun hq=>?_) (fun hq=>?_)|refine q_split (fun hq=>?_) (fun hq=>?_))<;>(try first|(conv=>arg 8;simp only [hq])|(conv=>arg 4;simp only [hq])))|(with_reducible refine fin_0 ?_ (by first|rfl|(conv=>lhs;simp only [go_sem,List.getElem?_map,hx,Option.map_some,hfl,hft,hgi])) ?_)|exact Sub.refl _|omega)
   refine c_doesE (hv) ?_ ?_ ?_
   ·((try (conv=>rhs;simp (disch:=omega) only [go_sem,hfl,hft,hgi])); try rfl)
   ·first|rfl|(conv=>lhs;simp only [go_sem,hfl,hft,hgi])
   repeat' (first|with_reducible refine acc_none ?_ | (conv in hold _=>simp (disch:=omega) only [go_sem,hfl,hft,hgi])|refine Stp.go ?_|(with_reducible first|refine it_pos rfl ?_|refine it_neg (by decide) ?_|refine st_nil rfl ?_|refine s_op ?_ ?_|exact trivial)|((with_reducible first|refine dw_reg0 ?_|refine dw_regB ?_);(conv=>arg 3;whnf))|(refine Spl.go (fun hq he=>?_) (fun hq he=>?_)<;>first|(exfalso;clear hq;omega)|((try first|(conv=>arg 8;simp only [hq])|(conv=>arg 4;simp only [hq]));clear hq))|((with_reducible first|refine c_split (fun hq=>?_) (fun hq=>?_)|refine q_split (fun hq=>?_) (fun hq=>?_))<;>(try first|(conv=>arg 8;simp only [hq])|(conv=>arg 4;simp only [hq])))|(with_reducible refine fin_0 ?_ (by first|rfl|(conv=>lhs;simp only [go_sem,hfl,hft,hgi])) ?_)|exact Sub.refl _|omega)
   refine ⟨hlt,trivial,Wk.list [1000000] rfl rfl ?_⟩
   repeat' (first|(conv in hold _=>simp (disch:=omega) only [go_sem,hst,hren])|exact trivial|exact Sub.refl _|omega)
  ·have he:=fil_end vD (.agg [Bo false,I 0]) l
   have hrI : ∀ L : List Nat,D.renL L (l.map vD) = l.map vD:=fun L=>ren_pure.renL_pure L _ (vals_pur l)
   repeat' (first|with_reducible refine acc_none ?_ | (conv in hold _=>simp (disch:=omega) only [go_sem,he])|refine Stp.go ?_|(with_reducible first|refine it_pos rfl ?_|refine it_neg (by decide) ?_|refine st_nil rfl ?_|refine s_op ?_ ?_|exact trivial)|((with_reducible first|refine dw_reg0 ?_|refine dw_regB ?_);(conv=>arg 3;whnf))|(refine Spl.go (fun hq he=>?_) (fun hq he=>?_)<;>first|(exfalso;clear hq;omega)|((try first|(conv=>arg 8;simp only [hq])|(conv=>arg 4;simp only [hq]));clear hq))|((with_reducible first|refine c_split (fun hq=>?_) (fun hq=>?_)|refine q_split (fun hq=>?_) (fun hq=>?_))<;>(try first|(conv=>arg 8;simp only [hq])|(conv=>arg 4;simp only [hq])))|exact Sub.refl _|omega)
   refine fin_L [1000000] ?_ ?_ rfl ?_
   repeat' (first|(conv in hold _=>simp (disch:=omega) only [go_sem,hft,he,hfl,hrI])|exact trivial|exact Sub.refl _|omega)
theorem toValueS_rc (l : List V) (hlen : l.length ≤ 1048576) : RCalls Try.prog 93 [] [rowD l] [⟨0,2,l.map vD⟩] (nE l) (kD 0 2 (l.map vD)):=by
 by_cases h0 : l = []
 ·subst h0
  exact rcalls_nil (toValueS_ok [] (by decide)) rfl rfl (fun it hit=>by obtain rfl:=List.mem_singleton.1 hit; rfl)
 ·have hm0 : l.map vD ≠ []:=fun h=>h0 (List.map_eq_nil_iff.1 h)
  have hlm : (l.map vD).length = l.length:=List.length_map ..
  have ho:=toValueS_own l hlen
  rw [← hlm] at ho
  have h:=rcalls_ans ho rfl hm0 (flatD_vals _)
  unfold kD nE
  rw [if_neg hm0,if_neg h0]
  exact h
def rowEl : El (List V) where
 f:=rowD
 fc r:=[rowD r]
 mkd l:=match l with
  | d :: _=>d
  | []=>.nul
 s:=1
 f_eq _:=rfl
 cells κ r:=kD_cells κ 2 (r.map vD)
 cells0 _:=rfl
 len _:=rfl
 tre r d hd:=by obtain rfl:=List.mem_singleton.1 hd; rfl
theorem cnt_row (r : List V) : cntS (rowEl.fc r) = nE r:=by
 show cntS [D.sl 2 (r.map vD)] = _
 rw [cntS_cons,isT_map,cntS_nil,Nat.add_zero]
theorem cnt_rows : ∀ l : List (List V),2 * cntS (rowEl.all l) ≤ rsz l
 | []=>Nat.zero_le _
 | r :: l=>by
  have ih:=cnt_rows l
  have h:=nE_le r
  have e : rowEl.all (r :: l) = rowEl.fc r ++ rowEl.all l:=rfl
  rw [e,cntS_append,cnt_row,rsz]
  omega
def rK (κ : Nat) (r : List V) : D:=kD κ 2 (r.map vD)
theorem rK_eq (κ : Nat) (r : List V) : rowEl.mkd (kcs κ (rowEl.fc r)) = rK κ r:=rfl
theorem its_row (κ : Nat) (r : List V) : itK κ (rowEl.fc r) = [⟨κ,2,r.map vD⟩]:=rfl
theorem cnt_rows_i (l : List (List V)) (i : Nat) : 2 * cntS (rowEl.all (l.take i)) ≤ rsz l:=by
 have h1:=cnt_rows (l.take i)
 have h2:=rsz_append (l.take i) (l.drop i)
 rw [List.take_append_drop] at h2
 omega
theorem rowR_low : ∀ (l : List (List V)) (κ : Nat),D.lowL (rowEl.row κ l) = true
 | [],_=>rfl
 | r :: l,κ=>by
  rw [El.row,D.lowL,rK_eq,rowR_low l]
  show ((kD κ 2 (r.map vD)).low && true) = true
  rw [kD_low]; rfl
def keyR' (l : List (List V)) (j : Nat) : D:=match l[j]? with
 | some r=>rK (cntS (rowEl.all (l.take j))) r
 | none=>.nul
theorem keyR'_at {l : List (List V)} {j : Nat} {r : List V} (h : l[j]? = some r) : keyR' l j = rK (cntS (rowEl.all (l.take j))) r:=by unfold keyR'; rw [h]
theorem keyR'_low (l : List (List V)) (j : Nat) : (keyR' l j).low = true:=by
 unfold keyR'
 split
 ·exact kD_low _ _ _
 ·rfl
theorem filR_all (l : List (List V)) : filK (keyR' l) .nul l.length l.length = rowEl.row 0 l:=by
 apply List.ext_getElem?
 intro j
 by_cases h : j < l.length
 ·obtain ⟨x,hx⟩ : ∃ x,l[j]? = some x:=⟨_,List.getElem?_eq_getElem h⟩
  rw [filK_at _ _ h,if_pos h,El.row_at rowEl hx,keyR'_at hx,Nat.zero_add,rK_eq]
 ·rw [List.getElem?_eq_none (by rw [filK_len]; omega),List.getElem?_eq_none (by rw [El.row_len]; omega)]
theorem toValueSS_rcS (l : List (List V)) (hl : rsz l ≤ 1048576) (h0 : l ≠ []) : RCalls Try.prog 51 [] [rowsD l] [⟨0,1,l.map rowD⟩] 1 (kD 0 1 (l.map rowD)):=by
 have hlen:=rsz_len l
 have hn1 : nb = 1000000:=rfl
 have hm0 : l.map rowD ≠ []:=fun h=>h0 (List.map_eq_nil_iff.1 h)
 have hcl:=cnt_rows_i l
 have hca:=cnt_rows l
 have hz:=filK_zero (keyR' l) .nul l.length
 have hren : ∀ (L : List Nat) (i : Nat),D.rnkL L (filK (keyR' l) .nul l.length i) = filK (keyR' l) .nul l.length i:=fun L i=>rnk_low.rnkL_low L _ (filK_low _ _ (keyR'_low l) rfl _ _)
 have hkD : kD 0 1 (l.map rowD) = .kow 0 1 l.length:=by unfold kD; rw [if_neg hm0,List.length_map]
 refine rcalls_of c_Z28 mixed (rowEl.fm l) 0 (l.length + 1) (fun κ=>if κ = 0 then cntS (rowEl.all l) else 2000000) (Nat.le_of_ble_eq_true rfl) (kD_low _ _ _) ?_ ?_ ?_ ?_ (fun κ h=>absurd h (Nat.not_lt_zero κ)) (fun κ hκ=>?_) (Nat.zero_le _) (by omega) (fun m0=>?_)
 ·rw [El.fm_top rowEl (Nat.zero_le _),List.take_zero]; rfl
 ·rw [El.fm_its rowEl (Nat.zero_le _),List.take_zero]; exact List.Perm.refl _
 ·rw [El.fm_itsE rowEl]; exact List.Perm.refl _
 ·intro it hit _
  obtain rfl:=List.mem_singleton.1 hit
  exact Nat.zero_lt_one
 ·show nb ≤ if κ = 0 then _ else 2000000
  rw [if_neg (by omega)]; decide
 ·rw [hkD]
  conv=>arg 3; whnf
  repeat' (first|with_reducible refine acc_none ?_ | (conv in hold _=>simp (disch:=omega) only [go_sem])|refine Stp.go ?_|(with_reducible first|refine it_pos rfl ?_|refine it_neg (by decide) ?_|refine st_nil rfl ?_|refine s_op ?_ ?_|exact trivial)|((with_reducible first|refine dw_reg0 ?_|refine dw_regB ?_);(conv=>arg 3;whnf))|(refine Spl.go (fun hq he=>?_) (fun hq he=>?_)<;>first|(exfalso;clear hq;omega)|((try first|(conv=>arg 8;simp only [hq])|(conv=>arg 4;simp only [hq]));clear hq))|((with_reducible first|refine c_split (fun hq=>?_) (fun hq=>?_)|refine q_split (fun hq=>?_) (fun hq=>?_))<;>(try first|(conv=>arg 8;simp only [hq])|(conv=>arg 4;simp only [hq])))|(with_reducible refine fin_0 ?_ (by first|rfl|(conv=>lhs;simp only [go_sem])) ?_)|exact Sub.refl _|omega)
  refine dw_for (c:=1) (l:=fun i=>[(gh,.gho 0 [.fam (famOf (rowEl.fm l) 0 m0)] 0 i),(0,rowsD l),(3,.own 1000000 1 l.length),(4,I i),(1000000,.row 1 (filK (keyR' l) .nul l.length i))]) l.length (fun _=>True) 0 trivial (Wk.listK [2000007] rfl rfl ?_) (fun i hi _=>?_) (Nat.zero_le _)
  ·repeat' (first|(conv in hold _=>simp (disch:=omega) only [go_sem,hren])|exact trivial|exact Sub.refl _|omega)
   exact ⟨rfl,congrArg (D.row 1) hz⟩
  ·have hci:=hcl i
   have hfl:=filK_len (keyR' l) .nul l.length i
   have hft : List.take l.length (filK (keyR' l) .nul l.length i) = filK (keyR' l) .nul l.length i:=List.take_of_length_le (Nat.le_of_eq hfl)
   rcases at_or_end hi with ⟨x,hx,hlt⟩ | rfl
   ·have hix:=toValueS_rc x (by have:=rsz_mem (List.mem_of_getElem? hx); omega)
    have hst:=filK_set (keyR' l) .nul hlt
    rw [keyR'_at hx] at hst
    obtain ⟨t,ht⟩ : ∃ t,t = cntS (rowEl.all (l.take i)):=⟨_,rfl⟩
    rw [← ht,rK] at hst
    have hgi : (filK (keyR' l) .nul l.length i)[i]? = some .nul:=by rw [filK_at _ _ hlt,if_neg (Nat.lt_irrefl i)]
    have htop : (rowEl.fm l).top i = t:=(El.fm_top rowEl hi).trans ht.symm
    have hnx:=El.fm_next rowEl hx
    have hki : ∀ κ,keyR [] ((rowEl.fm l).top i) κ = t + κ:=fun κ=>by rw [htop]; rfl
    rcases kD_two t 2 (x.map vD) with k1 | k1
    all_goals (
     (try rw [List.length_map] at k1)
     rw [k1] at hst
     repeat' ((fail_if_success (with_reducible first | refine s_call ?_ | refine s_cal ?_ | refine s_inv ?_)); first | with_reducible refine acc_none ?_ | (conv in hold _=>simp (disch:=omega) only [go_sem,List.getElem?_map,hx,Option.map_some,hfl,hft,hgi])|refine Stp.go ?_|(with_reducible first|refine it_pos rfl ?_|refine it_neg (by decide) ?_|refine st_nil rfl ?_|refine s_op ?_ ?_|exact trivial)|((with_reducible first|refine dw_reg0 ?_|refine dw_regB ?_);(conv=>arg 3;whnf))|(refine Spl.go (fun hq he=>?_) (fun hq he=>?_)<;>first|(exfalso;clear hq;omega)|((try first|(conv=>arg 8;simp only [hq])|(conv=>arg 4;simp only [hq]));clear hq))|((with_reducible first|refine c_split (fun hq=>?_) (fun hq=>?_)|refine q_split (fun hq=>?_) (fun hq=>?_))<;>(try first|(conv=>arg 8;simp only [hq])|(conv=>arg 4;simp only [hq])))|(with_reducible refine fin_0 ?_ (by first|rfl|(conv=>lhs;simp only [go_sem,List.getElem?_map,hx,Option.map_some,hfl,hft,hgi])) ?_)|exact Sub.refl _|omega)
     refine s_rcall (fm:=rowEl.fm l) (p:=0) (m0:=m0) (k:=i) (i + 1) [] ((rowEl.fm l).its i) hix (by ((conv=>lhs; simp (disch:=omega) only [go_sem,List.getElem?_map,hx,Option.map_some]); try rfl)) (by ((conv=>lhs; simp (disch:=omega) only [go_sem,List.getElem?_map,hx,Option.map_some]); try rfl)) (congrArg (fun d=>[d]) (rk_pur _ _ (rowD_pur x)).symm) ((kD_rk _ _ _ _).trans ((congrArg (fun κ=>kD κ 2 (x.map vD)) (hki 0)).trans k1))
      rfl (kD_low _ _ _) rfl (fun κ h=>(by cases h)) (Nat.zero_le _) (List.Perm.refl _) ?_ (fun it hit hne=>(by cases hit)) (fun it hit hne=>?_) (El.fm_lt rowEl hi) (Nat.zero_le _) ?_ ?_ (Nat.zero_le _) ?_
     ·rw [hnx,← ht,its_row]
      refine List.perm_append_comm.trans ?_
      show List.Perm _ ([(⟨keyR [] ((rowEl.fm l).top i) 0,2,x.map vD⟩ : It)] ++ _)
      rw [hki,Nat.add_zero]
     ·obtain rfl:=List.mem_singleton.1 hit
      rw [nE_ne hne]; exact Nat.zero_lt_one
     ·rw [El.fm_top rowEl (by omega),htop,El.all_next rowEl hx,cntS_append,cnt_row,← ht]
      rfl
     ·have h1:=hcl (i + 1)
      rw [El.fm_top rowEl (by omega)]
      omega
     ·repeat' (first|with_reducible refine acc_none ?_ | (conv in hold _=>simp (disch:=omega) only [go_sem,hfl,hft,hgi])|refine Stp.go ?_|(with_reducible first|refine it_pos rfl ?_|refine it_neg (by decide) ?_|refine st_nil rfl ?_|refine s_op ?_ ?_|exact trivial)|((with_reducible first|refine dw_reg0 ?_|refine dw_regB ?_);(conv=>arg 3;whnf))|(refine Spl.go (fun hq he=>?_) (fun hq he=>?_)<;>first|(exfalso;clear hq;omega)|((try first|(conv=>arg 8;simp only [hq])|(conv=>arg 4;simp only [hq]));clear hq))|((with_reducible first|refine c_split (fun hq=>?_) (fun hq=>?_)|refine q_split (fun hq=>?_) (fun hq=>?_))<;>(try first|(conv=>arg 8;simp only [hq])|(conv=>arg 4;simp only [hq])))|(with_reducible refine fin_0 ?_ (by first|rfl|(conv=>lhs;simp only [go_sem,hfl,hft,hgi])) ?_)|exact Sub.refl _|omega)
      refine ⟨hlt,trivial,Wk.listK [1000000] rfl rfl ?_⟩
      repeat' (first|(conv in hold _=>simp (disch:=omega) only [go_sem,hst,hren])|exact trivial|exact Sub.refl _|omega)
      (try rfl))
   ·repeat' (first|with_reducible refine acc_none ?_ | (conv in hold _=>simp (disch:=omega) only [go_sem,hft])|refine Stp.go ?_|(with_reducible first|refine it_pos rfl ?_|refine it_neg (by decide) ?_|refine st_nil rfl ?_|refine s_op ?_ ?_|exact trivial)|((with_reducible first|refine dw_reg0 ?_|refine dw_regB ?_);(conv=>arg 3;whnf))|(refine Spl.go (fun hq he=>?_) (fun hq he=>?_)<;>first|(exfalso;clear hq;omega)|((try first|(conv=>arg 8;simp only [hq])|(conv=>arg 4;simp only [hq]));clear hq))|((with_reducible first|refine c_split (fun hq=>?_) (fun hq=>?_)|refine q_split (fun hq=>?_) (fun hq=>?_))<;>(try first|(conv=>arg 8;simp only [hq])|(conv=>arg 4;simp only [hq])))|exact Sub.refl _|omega)
    have hle : (l.map rowD).length = l.length:=List.length_map ..
    have hfa:=filR_all l
    have hk:=El.keyed rowEl l
    have htl : (rowEl.fm l).top l.length = cntS (rowEl.all l):=(El.fm_top rowEl (Nat.le_refl _)).trans (by rw [List.take_length])
    refine fin_RCw (wk_fold (l.length + 1) 2 1000000 1 (l.map rowD) (filK (keyR' l) .nul l.length l.length) (keyOf (D.flat (l.map rowD))) [] (by ((conv=>lhs; simp (disch:=omega) only [go_sem]); try rfl)) (by decide) (by rw [hle]; exact (by ((conv=>lhs; simp (disch:=omega) only [go_sem]); try rfl))) (by decide) (by ((conv=>lhs; simp (disch:=omega) only [go_sem]); try rfl)) hm0 (hfl.trans hle.symm) hk.cells (by rw [hfa]; exact hk.flat) (fun j d hj=>by rw [hfa]; exact hk.at' j d hj) ?_ ?_ (fun it hit hne=>(by cases hit)) ?_ ?_ (Nat.zero_le _)) ?_
    ·have:=El.fm_end rowEl l
     rw [this,List.append_nil]
     exact List.Perm.refl _
    ·rw [El.fm_itsE rowEl,htl]
     exact List.Perm.refl _
    ·rw [El.fm_topE rowEl,htl]
    ·rw [El.fm_topE rowEl]; omega
    ·rw [htl,hle]
     refine fin_RC (by ((conv=>lhs; simp (disch:=omega) only [go_sem]); try rfl)) ?_ (by ((conv=>lhs; simp (disch:=omega) only [go_sem]); try rfl))
     repeat' (first|(conv in hold _=>simp (disch:=omega) only [go_sem])|exact trivial|exact Sub.refl _|omega)
theorem toValueSS_rc (l : List (List V)) (hl : rsz l ≤ 1048576) : RCalls Try.prog 51 [] [rowsD l] [⟨0,1,l.map rowD⟩] (nE l) (kD 0 1 (l.map rowD)):=by
 by_cases h0 : l = []
 ·subst h0
  exact rcalls_nil (toValueSS_ok [] (by decide)) rfl rfl (fun it hit=>by obtain rfl:=List.mem_singleton.1 hit; rfl)
 ·have h:=toValueSS_rcS l hl h0
  unfold nE
  rw [if_neg h0]
  exact h
def tK (κ : Nat) (t : Ta) : D:=.agg [I t.w,kD κ 1 (t.rows.map rowD)]
theorem tK_low (κ : Nat) (t : Ta) : (tK κ t).low = true:=by unfold tK; simp only [go_sem]
theorem tK_rk (ρ : Nat → Nat) (κ : Nat) (t : Ta) : (tK κ t).rk ρ = tK (ρ κ) t:=by unfold tK; simp only [go_sem]
theorem tK_scal (κ : Nat) (t : Ta) : (tK κ t).scalK = true:=by unfold tK; rw [D.scalK,D.scalKL,D.scalKL,D.scalKL,kD_scalK]; rfl
theorem tK_lent {its : List It} {κ : Nat} {t : Ta} (h : ⟨κ,1,t.rows.map rowD⟩ ∈ its) : LentK its (tK κ t) (taD t):=LentK.aggL ⟨.same _ rfl,LentK.kD h,trivial⟩
theorem taD_pur (t : Ta) : (taD t).pur = true:=rfl
theorem toTable_rc (t : Ta) (hl : rsz t.rows ≤ 1048576) : RCalls Try.prog 17 [] [taD t] [⟨0,1,t.rows.map rowD⟩] 1 (tK 0 t):=by
 have h:=toValueSS_rc t.rows hl
 have hlt:=nE_le t.rows
 let fm : Fm:=⟨fun i=>if i = 0 then 0 else nE t.rows,fun i=>if i = 0 then [] else [⟨0,1,t.rows.map rowD⟩]⟩
 refine rcalls_of c_Z41 mixed fm 0 1 (fun κ=>if κ = 0 then 0 else 2000000) (Nat.le_of_ble_eq_true rfl) (tK_low _ _) rfl (List.Perm.refl _) (List.Perm.refl _) (fun it hit _=>?_) (fun κ h=>absurd h (Nat.not_lt_zero κ)) (fun κ hκ=>?_) (Nat.zero_le _) (by omega) (fun m0=>?_)
 ·obtain rfl:=List.mem_singleton.1 hit
  exact Nat.zero_lt_one
 ·show nb ≤ if κ = 0 then _ else 2000000
  rw [if_neg (by omega)]; decide
 ·rw [tK_rk,if_pos rfl,tK]
  rcases kD_two 0 1 (t.rows.map rowD) with k1 | k1
  all_goals (
   rw [k1]
   conv=>arg 3; whnf
   repeat' ((fail_if_success (with_reducible first | refine s_call ?_ | refine s_cal ?_ | refine s_inv ?_)); first | with_reducible refine acc_none ?_ | (conv in hold _=>simp (disch:=omega) only [go_sem])|refine Stp.go ?_|(with_reducible first|refine it_pos rfl ?_|refine it_neg (by decide) ?_|refine st_nil rfl ?_|refine s_op ?_ ?_|exact trivial)|((with_reducible first|refine dw_reg0 ?_|refine dw_regB ?_);(conv=>arg 3;whnf))|(refine Spl.go (fun hq he=>?_) (fun hq he=>?_)<;>first|(exfalso;clear hq;omega)|((try first|(conv=>arg 8;simp only [hq])|(conv=>arg 4;simp only [hq]));clear hq))|((with_reducible first|refine c_split (fun hq=>?_) (fun hq=>?_)|refine q_split (fun hq=>?_) (fun hq=>?_))<;>(try first|(conv=>arg 8;simp only [hq])|(conv=>arg 4;simp only [hq])))|(with_reducible refine fin_0 ?_ (by first|rfl|(conv=>lhs;simp only [go_sem])) ?_)|exact Sub.refl _|omega)
   refine s_rcall (fm:=fm) (p:=0) (m0:=m0) (k:=0) 1 [] [] h (by ((conv=>lhs; simp (disch:=omega) only [go_sem]); try rfl)) (by ((conv=>lhs; simp (disch:=omega) only [go_sem]); try rfl)) (congrArg (fun d=>[d]) (rk_pur _ _ (rowsD_pur t.rows)).symm) ((kD_rk _ _ _ _).trans k1) rfl (kD_low _ _ _) rfl (fun κ h=>(by cases h)) (Nat.zero_le _) (List.Perm.refl _) (List.Perm.refl _) (fun it hit hne=>(by cases hit)) (fun it hit hne=>?_) (fun it hit hne=>(by cases hit)) (Nat.zero_le _) ?_ (show nE t.rows ≤ 900000 by omega) (Nat.zero_le _) ?_
   ·obtain rfl:=List.mem_singleton.1 hit
    rw [nE_ne hne]; exact Nat.zero_lt_one
   ·show nE t.rows = 0 + (nE t.rows - 0)
    omega
   repeat' (first|with_reducible refine acc_none ?_ | (conv in hold _=>simp (disch:=omega) only [go_sem])|refine Stp.go ?_|(with_reducible first|refine it_pos rfl ?_|refine it_neg (by decide) ?_|refine st_nil rfl ?_|refine s_op ?_ ?_|exact trivial)|((with_reducible first|refine dw_reg0 ?_|refine dw_regB ?_);(conv=>arg 3;whnf))|(refine Spl.go (fun hq he=>?_) (fun hq he=>?_)<;>first|(exfalso;clear hq;omega)|((try first|(conv=>arg 8;simp only [hq])|(conv=>arg 4;simp only [hq]));clear hq))|((with_reducible first|refine c_split (fun hq=>?_) (fun hq=>?_)|refine q_split (fun hq=>?_) (fun hq=>?_))<;>(try first|(conv=>arg 8;simp only [hq])|(conv=>arg 4;simp only [hq])))|(with_reducible refine fin_0 ?_ (by first|rfl|(conv=>lhs;simp only [go_sem])) ?_)|exact Sub.refl _|omega)
   refine fin_RC (by ((conv=>lhs; simp (disch:=omega) only [go_sem]); try rfl)) ?_ ?_
   ·repeat' (first|(conv in hold _=>simp (disch:=omega) only [go_sem])|exact trivial|exact Sub.refl _|omega)
   ·(try simp only [List.length_map])
    exact (by ((conv=>lhs; simp (disch:=omega) only [go_sem]); try rfl)))
end Go.Proofs.Ytedmegmhjmabcaa
