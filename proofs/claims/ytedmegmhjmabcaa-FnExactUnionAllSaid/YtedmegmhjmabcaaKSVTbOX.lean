/-
  TableOf at any arguments, its answer a tree of one's own. No condition.
-/
import Derived.Test.YtedmegmhjmabcaaKSDca
import Derived.Test.YtedmegmhjmabcaaKSDcb
import Derived.Test.YtedmegmhjmabcaaKSDcc
import Derived.Test.YtedmegmhjmabcaaKSVDrawTb
import Derived.Test.YtedmegmhjmabcaaKSVClone
import Derived.Test.YtedmegmhjmabcaaKSVClT
import Derived.Test.YtedmegmhjmabcaaKSVMkT
import Derived.Test.YtedmegmhjmabcaaKSVSortX
set_option maxHeartbeats 4000000
set_option maxRecDepth 100000
set_option linter.unusedVariables false
set_option linter.unusedSimpArgs false
namespace Go.Proofs.Ytedmegmhjmabcaa
open Go.RowKit
theorem sortRows_rc (w : Nat) (hw : w < 1000) (rs : List (List V)) (h : RsW w rs) (hl : rs.length ≤ 100000) : RCalls Try.prog 128 [⟨0,1,rs.map rowD⟩] [kD 0 1 (rs.map rowD),.fn 90 []] [⟨0,1,(srt rs).map rowD⟩] 1 (.tup []):=by
 have:=sort_rc rowsSort (g:=90) (by kernel_rfl) (caps:=[]) rfl rowD (fun _=>rfl) (fun _=>rfl) (ord_rows w) (fun a b ha hb=>compareRows_impl a b (by have:=ha.1; have:=hb.1; omega) (by have:=ha.1; omega) ha.2 hb.2) rs h (by omega)
 rw [sortL_srt h] at this
 exact this
theorem kD_srt (κ : Nat) (rs : List (List V)) : kD κ 1 ((srt rs).map rowD) = kD κ 1 (rs.map rowD):=kD_lenE (by rw [List.length_map,List.length_map,srt_len]) _ _
theorem sortedTable_rc (w : Nat) (hw : w < 1000) (rs : List (List V)) (h : RsW w rs) (hl : rs.length ≤ 1000) : RCalls Try.prog 95 [⟨0,1,rs.map rowD⟩] [I w,kD 0 1 (rs.map rowD)] [⟨0,1,(srt rs).map rowD⟩] 1 (tK 0 ⟨w,srt rs⟩):=by
 have hms:=sortRows_rc w hw rs h (by omega)
 let fm : Fm:=⟨fun _=>1,fun i=>if i = 0 then [⟨0,1,rs.map rowD⟩] else [⟨0,1,(srt rs).map rowD⟩]⟩
 refine rcalls_of c_Z9 mixed fm 0 1 (fun κ=>if κ = 0 then 0 else 2000000) (Nat.le_of_ble_eq_true rfl) (tK_low _ _) rfl (List.Perm.refl _) (List.Perm.refl _) (fun it hit _=>?_) (fun κ h=>?_) (fun κ hκ=>?_) (Nat.le_refl _) (by omega) (fun m0=>?_)
 ·obtain rfl:=List.mem_singleton.1 hit
  exact Nat.zero_lt_one
 ·have h : κ < 1:=h
  obtain rfl : κ = 0:=by omega
  rfl
 ·show nb ≤ if κ = 0 then _ else 2000000
  rw [if_neg (by omega)]; decide
 ·rw [tK_rk,if_pos rfl]
  unfold tK
  rw [kD_srt]
  rcases kD_two 0 1 (rs.map rowD) with k1 | k1
  all_goals (
   (try rw [List.length_map] at k1)
   rw [k1]
   conv=>arg 3; whnf
   repeat' ((fail_if_success (with_reducible first | refine s_call ?_ | refine s_cal ?_ | refine s_inv ?_)); first | with_reducible refine acc_none ?_ | (conv in hold _=>simp (disch:=omega) only [go_sem])|refine Stp.go ?_|(with_reducible first|refine it_pos rfl ?_|refine it_neg (by decide) ?_|refine st_nil rfl ?_|refine s_op ?_ ?_|exact trivial)|((with_reducible first|refine dw_reg0 ?_|refine dw_regB ?_);(conv=>arg 3;whnf))|(refine Spl.go (fun hq he=>?_) (fun hq he=>?_)<;>first|(exfalso;clear hq;omega)|((try first|(conv=>arg 8;simp only [hq])|(conv=>arg 4;simp only [hq]));clear hq))|((with_reducible first|refine c_split (fun hq=>?_) (fun hq=>?_)|refine q_split (fun hq=>?_) (fun hq=>?_))<;>(try first|(conv=>arg 8;simp only [hq])|(conv=>arg 4;simp only [hq])))|(with_reducible refine fin_0 ?_ (by first|rfl|(conv=>lhs;simp only [go_sem])) ?_)|exact Sub.refl _|omega)
   refine s_rcall (fm:=fm) (p:=1) (m0:=m0) (k:=0) 1 [0] [] hms (by ((conv=>lhs; simp (disch:=omega) only [go_sem]); try rfl)) (by ((conv=>lhs; simp (disch:=omega) only [go_sem]); try rfl)) (show _ = [(kD 0 1 (rs.map rowD)).rk _,_] by rw [kD_rk]; exact congrArg (fun d=>[d,D.fn 90 []]) k1.symm) (rr:=.tup []) rfl (by rw [D.lowL,kD_low]; rfl) rfl rfl (fun κ h=>?_) (Nat.le_refl _) (List.Perm.refl _) (List.Perm.refl _) (fun it hit _=>?_) (fun it hit _=>?_) (fun it hit _=>(by cases hit)) (Nat.le_refl _) rfl (show 1 ≤ 900000 by omega) (show 1 ≤ 900000 by omega) ?_
   ·obtain rfl:=List.mem_singleton.1 h
    exact Nat.zero_lt_one
   ·obtain rfl:=List.mem_singleton.1 hit
    exact Nat.zero_lt_one
   ·obtain rfl:=List.mem_singleton.1 hit
    exact Nat.zero_lt_one
   ·repeat' (first|with_reducible refine acc_none ?_ | (conv in hold _=>simp (disch:=omega) only [go_sem])|refine Stp.go ?_|(with_reducible first|refine it_pos rfl ?_|refine it_neg (by decide) ?_|refine st_nil rfl ?_|refine s_op ?_ ?_|exact trivial)|((with_reducible first|refine dw_reg0 ?_|refine dw_regB ?_);(conv=>arg 3;whnf))|(refine Spl.go (fun hq he=>?_) (fun hq he=>?_)<;>first|(exfalso;clear hq;omega)|((try first|(conv=>arg 8;simp only [hq])|(conv=>arg 4;simp only [hq]));clear hq))|((with_reducible first|refine c_split (fun hq=>?_) (fun hq=>?_)|refine q_split (fun hq=>?_) (fun hq=>?_))<;>(try first|(conv=>arg 8;simp only [hq])|(conv=>arg 4;simp only [hq])))|(with_reducible refine fin_0 ?_ (by first|rfl|(conv=>lhs;simp only [go_sem])) ?_)|exact Sub.refl _|omega)
    refine fin_RC (by ((conv=>lhs; simp (disch:=omega) only [go_sem]); try rfl)) ?_ ?_
    ·repeat' (first|(conv in hold _=>simp (disch:=omega) only [go_sem])|exact trivial|exact Sub.refl _|omega)
    ·(try simp only [List.length_map])
     exact (by ((conv=>lhs; simp (disch:=omega) only [go_sem]); try rfl)))
theorem rsz_perm : ∀ {a b : List (List V)},a.Perm b → rsz a = rsz b:=by
 intro a b h
 induction h with
 | nil=>rfl
 | cons x _ ih=>rw [rsz,rsz,ih]
 | swap x y l=>rw [rsz,rsz,rsz,rsz]; omega
 | trans _ _ h1 h2=>rw [h1,h2]
end Go.Proofs.Ytedmegmhjmabcaa
