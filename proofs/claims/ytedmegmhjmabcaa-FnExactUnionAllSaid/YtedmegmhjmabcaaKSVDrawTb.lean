/-
  Tables of the model: rows put in order; drawn tables. No condition.
-/
import Derived.Test.YtedmegmhjmabcaaKSDca
import Derived.Test.YtedmegmhjmabcaaKSDcc
import Derived.Test.YtedmegmhjmabcaaKSVDrawT
import Derived.Test.YtedmegmhjmabcaaJSVSortR
import Derived.Test.YtedmegmhjmabcaaSVBox
import Derived.Test.YtedmegmhjmabcaaSVGo
set_option maxHeartbeats 4000000
set_option maxRecDepth 100000
set_option linter.unusedVariables false
set_option linter.unusedSimpArgs false
namespace Go.Proofs.Ytedmegmhjmabcaa
open Go.RowKit
theorem tableOf_own (w : Int) (k : Nat) (hk : k < 1000) (rs : List (List V)) (hl : rs.length ≤ 400) (hs : RsW k rs) : Does Try.prog 63 [] [I w,rowsD rs] (.agg [I w,.own 1000000 1 rs.length]) [.row 1 ((srt rs).map rowD)]:=by
 refine Bk c_Z45 mixed 0 (go1 trivial ?_)
 refine dw_for (c:=3) (l:=fun i=>[(0,I w),(1,rowsD rs),(4,.ref 1000000 0),(5,.ref 1000001 0),(6,I i),(1000000,.obj [I 0,.nul]),(1000001,.obj [I w,.own 1000002 1 i]),(1000002,.row 1 ((srt (rs.take i)).map rowD))]) rs.length (fun _=>True) 0 trivial ((wk_rowO 2000005 2000090 1 1 (by decide) (by decide) (by decide) rfl rfl rfl).trans (Wk.list [2000004,2000005,2000090] rfl rfl ?_)) (fun i hi _=>?_) (Nat.zero_le _)
 ·repeat' (first|(conv in hold _=>simp (disch:=omega) only [go_sem])|exact trivial|exact Sub.refl _|omega)
  exact ⟨rfl,rfl⟩
 ·have htl : (srt (rs.take i)).length = i:=by rw [srt_len]; exact take_len hi
  have htk : ((srt (rs.take i)).map rowD).take i = (srt (rs.take i)).map rowD:=List.take_of_length_le (by rw [List.length_map,htl]; exact Nat.le_refl _)
  rcases at_or_end hi with ⟨x,hx,hlt⟩ | rfl
  ·have hnx:=srt_next hx
   have hts : RsW k (srt (rs.take i)):=srt_rsw (hs.take i)
   have hin:=insertRow_own (srt (rs.take i)) x k hk (by omega) (fun r hr=>by
    rcases List.mem_cons.1 hr with rfl | hr
    ·exact hs r (List.mem_of_getElem? hx)
    ·exact hts r hr) (srt_asc (hs.take i))
   rw [← hnx] at hin
   have hnl : (srt (rs.take (i + 1))).length = i + 1:=by rw [srt_len]; exact take_len (by omega)
   rw [hnl] at hin
   refine go1C @hx ?_
   refine s_pre (pre_frz (t:=20) (g:=1000002) (by decide) (by decide) rfl ?_) ?_
   rotate_left
   refine go1 (cj3 @htl @htk @hx) ?_
   refine c_doesR [3000001] (hin) (callOK_of rfl (Nat.le_of_ble_eq_true rfl) rfl ?_ ?_) ?_ ?_
   ·repeat' (first|(conv in hold _=>simp (disch:=omega) only [go_sem,List.getElem?_map,hx,Option.map_some])|exact trivial|exact Sub.refl _|omega)
   ·repeat' (first|(conv in hold _=>simp (disch:=omega) only [go_sem,List.getElem?_map,hx,Option.map_some])|exact trivial|exact Sub.refl _|omega)
   ·((conv=>rhs;simp (disch:=omega) only [go_sem,List.getElem?_map,hx,Option.map_some]); try rfl)
   repeat' (first|with_reducible refine acc_none ?_ | (conv in hold _=>simp (disch:=omega) only [go_sem,List.getElem?_map,hx,Option.map_some])|refine Stp.go ?_|(with_reducible first|refine it_pos rfl ?_|refine it_neg (by decide) ?_|refine st_nil rfl ?_|refine s_op ?_ ?_|exact trivial)|((with_reducible first|refine dw_reg0 ?_|refine dw_regB ?_);(conv=>arg 3;whnf))|(refine Spl.go (fun hq he=>?_) (fun hq he=>?_)<;>first|(exfalso;clear hq;omega)|((try first|(conv=>arg 8;simp only [hq])|(conv=>arg 4;simp only [hq]));clear hq))|((with_reducible first|refine c_split (fun hq=>?_) (fun hq=>?_)|refine q_split (fun hq=>?_) (fun hq=>?_))<;>(try first|(conv=>arg 8;simp only [hq])|(conv=>arg 4;simp only [hq])))|(with_reducible refine fin_0 ?_ (by first|rfl|(conv=>lhs;simp only [go_sem,List.getElem?_map,hx,Option.map_some])) ?_)|exact Sub.refl _|omega)
   ·refine ⟨hlt,trivial,Wk.list [1000000,1000001,3000001] rfl rfl ?_⟩
    repeat' (first|(conv in hold _=>simp (disch:=omega) only [go_sem])|exact trivial|exact Sub.refl _|omega)
   ·exact rows_pur _
  ·have e1 : rs.take rs.length = rs:=List.take_length
   refine go1 @e1 ?_
   refine fin_L [1000002] ?_ ?_ rfl ?_
   repeat' (first|(conv in hold _=>simp (disch:=omega) only [go_sem,e1])|exact trivial|exact Sub.refl _|omega)
theorem tableOf_big (w : Int) (rs : List (List V)) (hl : ¬ rs.length ≤ 400) (hl2 : rs.length < 2000000) : Does Try.prog 63 [] [I w,rowsD rs] (.agg [I w,.nul]) []:=by
 exact Bg c_Z45 mixed (go0 trivial)
end Go.Proofs.Ytedmegmhjmabcaa
