/-
  Rows copied, sorted, and made a table, as the program does. No condition.
-/
import Derived.Test.YtedmegmhjmabcaaKSDca
import Derived.Test.YtedmegmhjmabcaaKSDcb
import Derived.Test.YtedmegmhjmabcaaJSVSortR
import Derived.Test.YtedmegmhjmabcaaJSVTb
import Derived.Test.YtedmegmhjmabcaaJSVTbI
import Derived.Test.YtedmegmhjmabcaaSVGo
set_option maxHeartbeats 4000000
set_option maxRecDepth 100000
set_option linter.unusedVariables false
set_option linter.unusedSimpArgs false
namespace Go.Proofs.Ytedmegmhjmabcaa
open Go.RowKit
theorem rows_len (rs : List (List V)) (i : Nat) (h : i ≤ rs.length) : ((rs.take i).map rowD).take i = (rs.take i).map rowD:=take_map rowD h
theorem cloneRow_ok (vs : List V) (h0 : 0 < vs.length) (hl : vs.length < 2000000) : Does Try.prog 105 [] [rowD vs] (rowD vs) []:=by
 refine Bg c_Z1 mixed (go1F trivial ?_)
 refine fin_wk (wk_frz 2 2000007 (by decide) (by decide) rfl ?_) ?_
 rotate_left
 (conv in hold _=>simp (disch:=omega) only [go_sem,take_all])
 ·refine fin_L [] ?_ ?_ rfl ?_
  repeat' (first|(conv in hold _=>simp (disch:=omega) only [go_sem])|exact trivial|exact Sub.refl _|omega)
 ·exact vals_pur _
theorem cloneRows_own (rs : List (List V)) (h : ∀ r,r ∈ rs → 0 < r.length ∧ r.length < 2000000) (hl : rs.length ≤ 1000) : Does Try.prog 67 [] [rowsD rs] (.own 1000000 1 rs.length) [.row 1 (rs.map rowD)]:=by
 refine Bk c_Z22 mixed 0 (go1 trivial ?_)
 refine dw_for (c:=1) (l:=fun i=>[(3,.own 1000000 1 i),(6,rowsD rs),(7,I rs.length),(8,I i),(1000000,.row 1 ((rs.take i).map rowD))]) rs.length (fun _=>True) 0 trivial ((wk_row 3 2000016 1 (by decide) (by decide) rfl rfl).trans (Wk.list [2000016] rfl rfl ?_)) (fun i hi _=>?_) (Nat.zero_le _)
 ·repeat' (first|(conv in hold _=>simp (disch:=omega) only [go_sem])|exact trivial|exact Sub.refl _|omega)
  exact rfl
 ·have htl:=take_len (vs:=rs) (i:=i) hi
  have hmk:=rows_len rs i hi
  rcases at_or_end hi with ⟨x,hx,hlt⟩ | rfl
  ·have hxl:=h x (List.mem_of_getElem? hx)
   have hc:=cloneRow_ok x hxl.1 hxl.2
   have hnx:=take_next hx
   refine go1 @hx ?_
   refine Uc trivial (hc) (go1 trivial ?_)
   refine ⟨hlt,trivial,Wk.list [2000016] rfl rfl ?_⟩
   repeat' (first|(conv in hold _=>simp (disch:=omega) only [go_sem,List.length_map,htl])|exact trivial|exact Sub.refl _|omega)
   rw [hmk,hnx,List.map_append]
   rfl
  ·have e1 : rs.take rs.length = rs:=List.take_length
   refine go1 @e1 ?_
   refine fin_L [1000000] ?_ ?_ rfl ?_
   repeat' (first|(conv in hold _=>simp (disch:=omega) only [go_sem,e1])|exact trivial|exact Sub.refl _|omega)
theorem sortedTable_ok (w : Nat) (hw : w < 1000) (rs : List (List V)) (h : RsW w rs) (hl : rs.length ≤ 1000) : Does Try.prog 95 [.row 1 (rs.map rowD)] [I w,.own 1000000 1 rs.length] (taD ⟨w,srt rs⟩) [.any]:=by
 have hs:=sortRows_ok w hw rs h (by omega)
 have hsl:=srt_len rs
 have htk : ((srt rs).map rowD).take rs.length = (srt rs).map rowD:=by rw [← hsl]; exact take_all rowD (srt rs)
 refine Bk c_Z9 mixed 1 (go1F trivial ?_)
 refine UcR [1000000] trivial (hs) (go1F trivial ?_)
 refine fin_wk (wk_frzO 2000004 1000000 (by decide) (by decide) rfl (by decide) rfl ?_) ?_
 rotate_left
 (conv in hold _=>simp (disch:=omega) only [go_sem,htk,hsl,List.length_map])
 ·refine fin_L [1000000] ?_ ?_ rfl ?_
  repeat' (first|(conv in hold _=>simp (disch:=omega) only [go_sem])|exact trivial|exact Sub.refl _|omega)
 ·exact rows_pur _
theorem sub_zero : Sub (.tup [.agg [I 0,.nul],Bo false]) (.tup [taD ⟨0,[]⟩,Bo false]):=Sub.tup ⟨Sub.agg ⟨Sub.refl _,Sub.nul 1,trivial⟩,Sub.refl _,trivial⟩
end Go.Proofs.Ytedmegmhjmabcaa
