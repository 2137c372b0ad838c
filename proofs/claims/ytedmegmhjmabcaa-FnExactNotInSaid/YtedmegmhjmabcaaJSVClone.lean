/-
  Tables of the model: rows put in order; drawn tables. No condition.
-/
import Derived.Test.YtedmegmhjmabcaaKSDca
import Derived.Test.YtedmegmhjmabcaaJSDcc
import Derived.Test.YtedmegmhjmabcaaJSVBag
import Derived.Test.YtedmegmhjmabcaaJSVGi
import Derived.Test.YtedmegmhjmabcaaSVGo
import Derived.Test.YtedmegmhjmabcaaKSDcb
import Derived.Test.YtedmegmhjmabcaaKSVSort
import Derived.Test.YtedmegmhjmabcaaKSVSrt
import Derived.Test.YtedmegmhjmabcaaJSVLib
import Derived.Test.YtedmegmhjmabcaaJSVCmpR
import Derived.Test.YtedmegmhjmabcaaJSVTbI
set_option maxHeartbeats 4000000
set_option maxRecDepth 100000
set_option linter.unusedVariables false
set_option linter.unusedSimpArgs false
namespace Go.Proofs.Ytedmegmhjmabcaa
open Go.RowKit
theorem tableOf_own (w : Int) (k : Nat) (hk : k < 1000) (rs : List (List V)) (hl : rs.length ≤ 400) (hs : RsW k rs) : Does Try.prog 63 [] [I w,rowsD rs] (.agg [I w,.own 1000000 1 rs.length]) [.row 1 ((srt rs).map rowD)]:=by
 refine Bk c_Z63 mixed 0 (go1 trivial ?_)
 refine dw_for (c:=3) (l:=fun i=>[(0,I w),(1,rowsD rs),(4,.ref 1000000 0),(5,.ref 1000001 0),(6,I i),(1000000,.obj [I 0,.nul]),(1000001,.obj [I w,.own 1000002 1 i]),(1000002,.row 1 ((srt (rs.take i)).map rowD))]) rs.length (fun _=>True) 0 trivial ((wk_rowO 2000005 2000090 1 1 (by decide) (by decide) (by decide) rfl rfl rfl).trans (Wk.list [2000004,2000005,2000090] rfl rfl ?_)) (fun i hi _=>?_) (Nat.zero_le _)
 ·repeat' (first|(conv in hold _=>simp (disch:=omega) only [go_sem])|exact trivial|exact Sub.refl _|omega)
  exact ⟨rfl,rfl⟩
 ·have htl : (srt (rs.take i)).length = i:=by rw [srt_len]; exact take_len hi
  have htk : ((srt (rs.take i)).map rowD).take i = (srt (rs.take i)).map rowD:=List.take_of_length_le (by rw [List.length_map,htl]; exact Nat.le_refl _)
  rcases at_or_end hi with ⟨x,hx,hlt⟩ | rfl
  ·have hnx:=srt_next hx
   have hts : RsW k (srt (rs.take i)):=srt_rsw (hs.take i)
   have hin:=insertRow_own (srt (rs.take i)) x k hk (by omega) (fun r hr=>by
    rcases List.mem_cons.1 hr with rfl | hr
    ·exact hs r (List.mem_of_getElem? hx)
    ·exact hts r hr) (srt_asc (hs.take i))
   rw [← hnx] at hin
   have hnl : (srt (rs.take (i + 1))).length = i + 1:=by rw [srt_len]; exact take_len (by omega)
   rw [hnl] at hin
   refine go1C @hx ?_
   refine s_pre (pre_frz (t:=20) (g:=1000002) (by decide) (by decide) rfl ?_) ?_
   rotate_left
   refine go1 (cj3 @htl @htk @hx) ?_
   refine c_doesR [3000001] (hin) (callOK_of rfl (Nat.le_of_ble_eq_true rfl) rfl ?_ ?_) ?_ ?_
   ·repeat' (first|(conv in hold _=>simp (disch:=omega) only [go_sem,List.getElem?_map,hx,Option.map_some])|exact trivial|exact Sub.refl _|omega)
   ·repeat' (first|(conv in hold _=>simp (disch:=omega) only [go_sem,List.getElem?_map,hx,Option.map_some])|exact trivial|exact Sub.refl _|omega)
   ·((conv=>rhs;simp (disch:=omega) only [go_sem,List.getElem?_map,hx,Option.map_some]); try rfl)
   repeat' (first|with_reducible refine acc_none ?_ | (conv in hold _=>simp (disch:=omega) only [go_sem,List.getElem?_map,hx,Option.map_some])|refine Stp.go ?_|(with_reducible first|refine it_pos rfl ?_|refine it_neg (by decide) ?_|refine st_nil rfl ?_|refine s_op ?_ ?_|exact trivial)|((with_reducible first|refine dw_reg0 ?_|refine dw_regB ?_);(conv=>arg 3;whnf))|(refine Spl.go (fun hq he=>?_) (fun hq he=>?_)<;>first|(exfalso;clear hq;omega)|((try first|(conv=>arg 8;simp only [hq])|(conv=>arg 4;simp only [hq]));clear hq))|((with_reducible first|refine c_split (fun hq=>?_) (fun hq=>?_)|refine q_split (fun hq=>?_) (fun hq=>?_))<;>(try first|(conv=>arg 8;simp only [hq])|(conv=>arg 4;simp only [hq])))|(with_reducible refine fin_0 ?_ (by first|rfl|(conv=>lhs;simp only [go_sem,List.getElem?_map,hx,Option.map_some])) ?_)|exact Sub.refl _|omega)
   ·refine ⟨hlt,trivial,Wk.list [1000000,1000001,3000001] rfl rfl ?_⟩
    repeat' (first|(conv in hold _=>simp (disch:=omega) only [go_sem])|exact trivial|exact Sub.refl _|omega)
   ·exact rows_pur _
  ·have e1 : rs.take rs.length = rs:=List.take_length
   refine go1 @e1 ?_
   refine fin_L [1000002] ?_ ?_ rfl ?_
   repeat' (first|(conv in hold _=>simp (disch:=omega) only [go_sem,e1])|exact trivial|exact Sub.refl _|omega)
end Go.Proofs.Ytedmegmhjmabcaa
set_option maxHeartbeats 4000000
set_option maxRecDepth 100000
set_option linter.unusedVariables false
set_option linter.unusedSimpArgs false
namespace Go.Proofs.Ytedmegmhjmabcaa
open Go.RowKit
theorem rows_len (rs : List (List V)) (i : Nat) (h : i ≤ rs.length) : ((rs.take i).map rowD).take i = (rs.take i).map rowD:=take_map rowD h
theorem cloneRow_ok (vs : List V) (h0 : 0 < vs.length) (hl : vs.length < 2000000) : Does Try.prog 105 [] [rowD vs] (rowD vs) []:=by
 refine Bg c_Z2 mixed (go1F trivial ?_)
 refine fin_wk (wk_frz 2 2000007 (by decide) (by decide) rfl ?_) ?_
 rotate_left
 (conv in hold _=>simp (disch:=omega) only [go_sem,take_all])
 ·refine fin_L [] ?_ ?_ rfl ?_
  repeat' (first|(conv in hold _=>simp (disch:=omega) only [go_sem])|exact trivial|exact Sub.refl _|omega)
 ·exact vals_pur _
theorem cloneRows_own (rs : List (List V)) (h : ∀ r,r ∈ rs → 0 < r.length ∧ r.length < 2000000) (hl : rs.length ≤ 1000) : Does Try.prog 67 [] [rowsD rs] (.own 1000000 1 rs.length) [.row 1 (rs.map rowD)]:=by
 refine Bk c_Z32 mixed 0 (go1 trivial ?_)
 refine dw_for (c:=1) (l:=fun i=>[(3,.own 1000000 1 i),(6,rowsD rs),(7,I rs.length),(8,I i),(1000000,.row 1 ((rs.take i).map rowD))]) rs.length (fun _=>True) 0 trivial ((wk_row 3 2000016 1 (by decide) (by decide) rfl rfl).trans (Wk.list [2000016] rfl rfl ?_)) (fun i hi _=>?_) (Nat.zero_le _)
 ·repeat' (first|(conv in hold _=>simp (disch:=omega) only [go_sem])|exact trivial|exact Sub.refl _|omega)
  exact rfl
 ·have htl:=take_len (vs:=rs) (i:=i) hi
  have hmk:=rows_len rs i hi
  rcases at_or_end hi with ⟨x,hx,hlt⟩ | rfl
  ·have hxl:=h x (List.mem_of_getElem? hx)
   have hc:=cloneRow_ok x hxl.1 hxl.2
   have hnx:=take_next hx
   refine go1 @hx ?_
   refine Uc trivial (hc) (go1 trivial ?_)
   refine ⟨hlt,trivial,Wk.list [2000016] rfl rfl ?_⟩
   repeat' (first|(conv in hold _=>simp (disch:=omega) only [go_sem,List.length_map,htl])|exact trivial|exact Sub.refl _|omega)
   rw [hmk,hnx,List.map_append]
   rfl
  ·have e1 : rs.take rs.length = rs:=List.take_length
   refine go1 @e1 ?_
   refine fin_L [1000000] ?_ ?_ rfl ?_
   repeat' (first|(conv in hold _=>simp (disch:=omega) only [go_sem,e1])|exact trivial|exact Sub.refl _|omega)
theorem sub_zero : Sub (.tup [.agg [I 0,.nul],Bo false]) (.tup [taD ⟨0,[]⟩,Bo false]):=Sub.tup ⟨Sub.agg ⟨Sub.refl _,Sub.nul 1,trivial⟩,Sub.refl _,trivial⟩
end Go.Proofs.Ytedmegmhjmabcaa
