/-
  The rows for which a condition is true, as the program hands them out. No condition.
-/
import Derived.Test.YtjngffbghkafaaaGreatKSDca
import Derived.Test.YtjngffbghkafaaaGreatKSDcd
import Derived.Test.YtjngffbghkafaaaGreatJSVPiA
import Derived.Test.YtjngffbghkafaaaGreatJSVDrawTc
import Derived.Test.YtjngffbghkafaaaGreatKSVTerm
import Derived.Test.YtjngffbghkafaaaGreatJSVGo
import Derived.Test.YtjngffbghkafaaaGreatKSDcc
set_option maxHeartbeats 4000000
set_option maxRecDepth 100000
set_option linter.unusedVariables false
set_option linter.unusedSimpArgs false
namespace Go.Proofs.YtjngffbghkafaaaGreat
open Go.RowKit
theorem holds_itr (ex : E) (r : List V) : (itr (ev ex r) == 2) = holdsB ex r:=by
 unfold holdsB itr tr
 split
 ·rfl
 ·split <;> rfl
theorem fil_at {p : List V → Bool} {rs : List (List V)} {j : Nat} {x : List V} (hx : rs[j]? = some x) (hp : p x = true) : (rs.filter p)[((rs.take j).filter p).length]? = some x:=by
 have h1 : rs.filter p = ((rs.take j).filter p ++ [x]) ++ (rs.drop (j + 1)).filter p:=by
  rw [← fil_t hx hp,← List.filter_append,List.take_append_drop]
 rw [h1,List.append_assoc,List.getElem?_append_right (Nat.le_refl _),Nat.sub_self]
 rfl
theorem filteredRows_yields {w : Nat} (rs : List (List V)) (hl : rs.length ≤ 100000) (hs : RsW w rs) (ex : E) (hex : eOk ex w 8) :
  Yields Tryz.prog 180 [.ptr [rowsD rs],.ptr [tD ex]] ((rs.filter (holdsB ex)).map tupR):=by
 refine yields c_Z41 mixed (Nat.le_of_ble_eq_true rfl) (fun i e=>?_)
 conv=>arg 3; whnf
 refine go1 trivial ?_
 refine dw_for (c:=0) (l:=fun j=>[(0,.v (.func (.yield i) #[] #[])),(1,.ptr [rowsD rs]),(2,.ptr [tD ex]),(6,rowsD rs),(7,I rs.length),(8,I j),(gh,.gho i ((rs.filter (holdsB ex)).map tupR) e ((rs.take j).filter (holdsB ex)).length)]) rs.length (fun j=>((rs.take j).filter (holdsB ex)).length ≤ e) 0 (Nat.zero_le _) (Wk.list [] rfl rfl ?_) (fun j hj hJ=>?_) (Nat.zero_le _)
 ·repeat' (first|(conv in hold _=>simp (disch:=omega) only [go_sem])|exact trivial|exact Sub.refl _|omega)
  first | exact rfl | exact ⟨rfl,rfl⟩
 ·rcases at_or_end hj with ⟨x,hx,hlt⟩ | rfl
  ·have hxr:=hs x (List.mem_of_getElem? hx)
   obtain ⟨_,t,e0,f,hd,hp0,hm,hv⟩:=termOf_ok hxr.2 ex 8 (by rw [hxr.1]; exact hex)
   have ht:=truth_of_ok (ev ex x)
   have hh:=holds_itr ex x
   generalize ev ex x = v at hv ht hh
   cases hq : holdsB ex x with
   | true=>
    rw [hq] at hh
    have hh2 : itr v = 2:=beq_iff_eq.1 hh
    rw [hh2] at ht
    have hat:=fil_at hx hq
    have hnx:=fil_t hx hq
    have hcl:=(List.getElem?_eq_some_iff.1 hat).1
    have hnl : ((rs.take (j + 1)).filter (holdsB ex)).length = ((rs.take j).filter (holdsB ex)).length + 1:=by rw [hnx,List.length_append]; rfl
    generalize ((rs.take j).filter (holdsB ex)).length = c at hJ hat hcl hnl
    refine go1 (cj2 @hx @hd) ?_
    refine i_meth (hm) ?_
    refine Uc (cj2 @hd @hp0) (hv) (go1 (cj2 @hd @hp0) ?_)
    refine Uc trivial (ht) (go1 trivial ?_)
    refine v_yld (by ((conv=>lhs; simp (disch:=omega) only [go_sem]); try rfl)) (hJ) ((by rw [List.getElem?_map,hat]; rfl)) (by first | rfl | (simp only [go_sem])) ?_
    repeat' (first|with_reducible refine acc_none ?_ | (conv in hold _=>simp (disch:=omega) only [go_sem])|refine Stp.go ?_|(with_reducible first|refine it_pos rfl ?_|refine it_neg (by decide) ?_|refine st_nil rfl ?_|refine s_op ?_ ?_|exact trivial)|((with_reducible first|refine dw_reg0 ?_|refine dw_regB ?_);(conv=>arg 3;whnf))|(refine Spl.go (fun hq he=>?_) (fun hq he=>?_)<;>first|(exfalso;clear hq;omega)|((try first|(conv=>arg 8;simp only [hq])|(conv=>arg 4;simp only [hq]));clear hq))|((with_reducible first|refine c_split (fun hq=>?_) (fun hq=>?_)|refine q_split (fun hq=>?_) (fun hq=>?_))<;>(try first|(conv=>arg 8;simp only [hq])|(conv=>arg 4;simp only [hq])))|(with_reducible refine fin_0 ?_ (by first|rfl|(conv=>lhs;simp only [go_sem])) ?_)|exact Sub.refl _|omega)
    ·refine ⟨(c + 1),?_,?_⟩
     ·((conv=>lhs; simp (disch:=omega) only [go_sem]); try rfl)
     simp only [List.length_map]
     omega
    ·refine ⟨hlt,by omega,Wk.list [] rfl rfl ?_⟩
     repeat' (first|(conv in hold _=>simp (disch:=omega) only [go_sem,hnl,hd])|exact trivial|exact Sub.refl _|omega)
   | false=>
    rw [hq] at hh
    have hnx:=fil_f hx hq
    refine go1 (cj2 @hx @hd) ?_
    refine i_meth (hm) ?_
    refine Uc (cj2 @hd @hp0) (hv) (go1 (cj2 @hd @hp0) ?_)
    refine Uc @hh (ht) (go1 @hh ?_)
    refine ⟨hlt,by rw [hnx]; exact hJ,Wk.list [] rfl rfl ?_⟩
    repeat' (first|(conv in hold _=>simp (disch:=omega) only [go_sem,hnx,hd])|exact trivial|exact Sub.refl _|omega)
  ·rw [List.take_length] at hJ ⊢
   refine go1 trivial ?_
   refine ⟨(rs.filter (holdsB ex)).length,?_,?_⟩
   ·((conv=>lhs; simp (disch:=omega) only [go_sem]); try rfl)
   rw [List.length_map]
   omega
end Go.Proofs.YtjngffbghkafaaaGreat
set_option maxHeartbeats 4000000
set_option maxRecDepth 100000
set_option linter.unusedVariables false
set_option linter.unusedSimpArgs false
namespace Go.Proofs.YtjngffbghkafaaaGreat
open Go.RowKit
def prjR (es : List E) (r : List V) : List V:=es.map (fun e=>ev e r)
theorem copyRow_own (vs : List V) (hl : vs.length < 2000000) : Does Tryz.prog 141 [] [rowD vs] (.own 1000000 2 vs.length) [.row 2 (vs.map vD)]:=by
 refine Bk c_Z148 mixed 0 (go1 trivial ?_)
 refine fin_L [2000005] ?_ ?_ rfl ?_
 repeat' (first|(conv in hold _=>simp (disch:=omega) only [go_sem,take_all])|exact trivial|exact Sub.refl _|omega)
theorem concat_ok (a b : List V) (ha : a.length < 1000000) (hb : b.length < 1000000) : Does Tryz.prog 163 [] [rowD a,rowD b] (rowD (a ++ b)) []:=by
 have h:=copyRow_own a (by omega)
 have e1:=take_all vD a
 have e2:=take_all vD b
 have e3 : (a.map vD ++ b.map vD).take (a.length + b.length) = (a ++ b).map vD:=by rw [List.map_append]; exact List.take_of_length_le (by rw [List.length_append,List.length_map,List.length_map]; exact Nat.le_refl _)
 refine Bg c_Z163 mixed (go1F trivial ?_)
 refine UcR [3000001] (cj3 @e1 @e2 @e3) (h) (go1F (cj3 @e1 @e2 @e3) ?_)
 refine fin_wk (wk_frz 4 2000008 (by decide) (by decide) rfl ?_) ?_
 rotate_left
 (conv in hold _=>simp (disch:=omega) only [go_sem,e1,e2,e3,List.length_append,List.length_map,Nat.le_refl])
 ·refine fin_L [] ?_ ?_ rfl ?_
  repeat' (first|(conv in hold _=>simp (disch:=omega) only [go_sem,e1,e2,e3])|exact trivial|exact Sub.refl _|omega)
 ·exact (by rw [← List.map_append]; exact vals_pur _)
theorem nulR_next (i : Nat) : nulR (i + 1) = nulR i ++ [⟨true,0⟩]:=List.replicate_succ'
theorem nulls_ok (n : Nat) (hn : n < 1000) : Does Tryz.prog 164 [] [I n] (rowD (nulR n)) []:=by
 refine Bg c_Z168 mixed (go1 trivial ?_)
 refine dw_for (c:=1) (l:=fun i=>[(0,I n),(3,.own 1000000 2 i),(4,I i),(1000000,.row 2 ((nulR i).map vD))]) n (fun _=>True) 0 trivial ((wk_row 3 2000090 2 (by decide) (by decide) rfl rfl).trans (Wk.list [2000090] rfl rfl ?_)) (fun i hi _=>?_) (Nat.zero_le _)
 ·repeat' (first|(conv in hold _=>simp (disch:=omega) only [go_sem])|exact trivial|exact Sub.refl _|omega)
  first | exact rfl | exact ⟨rfl,rfl⟩
 ·have hlen : (nulR i).length = i:=List.length_replicate
  have htm : ((nulR i).map vD).take i = (nulR i).map vD:=List.take_of_length_le (by rw [List.length_map,hlen]; exact Nat.le_refl _)
  by_cases hin : i < n
  ·refine go1 @htm ?_
   refine ⟨hin,trivial,Wk.list [2000014] rfl rfl ?_⟩
   repeat' (first|(conv in hold _=>simp (disch:=omega) only [go_sem,nulR_next,htm])|exact trivial|exact Sub.refl _|omega)
   rw [List.map_append]
   rfl
  ·obtain rfl : i = n:=by omega
   refine go1F trivial ?_
   refine fin_wk (wk_frz 2 1000000 (by decide) (by decide) rfl ?_) ?_
   rotate_left
   (conv in hold _=>simp (disch:=omega) only [go_sem,htm,hlen,List.length_map,Nat.le_refl])
   ·refine fin_L [] ?_ ?_ rfl ?_
    repeat' (first|(conv in hold _=>simp (disch:=omega) only [go_sem])|exact trivial|exact Sub.refl _|omega)
   ·exact vals_pur _
theorem projectTable_ok {w : Nat} (hw : w < 1000) (rs : List (List V)) (hl : rs.length < 1000000) (hs : RsW w rs) (es : List E) (d : Nat) (hel : es.length < 1000) (hes : ∀ e,e ∈ es → eOk e w d) : Does Tryz.prog 100 [] [taD ⟨w,rs⟩,.sl 5 (es.map eD)] (taD (tabT es.length (rs.map (prjR es)))) []:=by
 have hpr : ∀ r,r ∈ rs → (prjR es r).length = es.length ∧ ∀ v,v ∈ prjR es r → v.ok:=fun r hr=>⟨List.length_map _,fun v hv=>by
  obtain ⟨e,hm,rfl⟩:=List.mem_map.1 hv
  exact ev_ok (hs r hr).2 e d (by rw [(hs r hr).1]; exact hes e hm)⟩
 have h3:=tableOf_tab es.length es.length hel (rs.map (prjR es)) (by rw [List.length_map]; omega) (fun r hr=>by
  obtain ⟨x,hx,rfl⟩:=List.mem_map.1 hr
  exact hpr x hx)
 have htk : ((rs.map (prjR es)).map rowD).take rs.length = (rs.map (prjR es)).map rowD:=List.take_of_length_le (by rw [List.length_map,List.length_map]; exact Nat.le_refl _)
 refine Bg c_Z63 mixed (go1 trivial ?_)
 refine dw_for (c:=3) (l:=fun i=>[(1,.sl 5 (es.map eD)),(2,.ref 1000000 0),(4,.ref 1000001 0),(5,.own 1000002 1 i),(6,I i),(1000000,.obj [I w,rowsD rs]),(1000001,.obj [I 0,.nul]),(1000002,.row 1 (((rs.map (prjR es)).take i).map rowD))]) rs.length (fun _=>True) 0 trivial ((wk_row 5 2000090 1 (by decide) (by decide) rfl rfl).trans (Wk.list [2000002,2000004,2000090] rfl rfl ?_)) (fun i hi _=>?_) (Nat.zero_le _)
 ·repeat' (first|(conv in hold _=>simp (disch:=omega) only [go_sem])|exact trivial|exact Sub.refl _|omega)
  first | exact rfl | exact ⟨rfl,rfl⟩ | exact ⟨rfl,rfl,rfl⟩
 ·have htl : ((rs.map (prjR es)).take i).length = i:=take_len (by rw [List.length_map]; exact hi)
  have htm : (((rs.map (prjR es)).take i).map rowD).take i = ((rs.map (prjR es)).take i).map rowD:=take_map rowD (by rw [List.length_map]; exact hi)
  rcases at_or_end hi with ⟨x,hx,hlt⟩ | rfl
  ·have hxr:=hs x (List.mem_of_getElem? hx)
   have hxl:=hpr x (List.mem_of_getElem? hx)
   have hnx : (rs.map (prjR es)).take (i + 1) = (rs.map (prjR es)).take i ++ [prjR es x]:=take_next (by rw [List.getElem?_map,hx]; rfl)
   refine go1 @hx ?_
   refine dw_for (c:=4) (l:=fun j=>[(1,.sl 5 (es.map eD)),(2,.ref 1000000 0),(4,.ref 1000001 0),(5,.own 1000002 1 i),(6,I i),(7,.own 1000003 2 j),(8,I j),(1000000,.obj [I w,rowsD rs]),(1000001,.obj [I 0,.nul]),(1000002,.row 1 (((rs.map (prjR es)).take i).map rowD)),(1000003,.row 2 (((prjR es x).take j).map vD))]) es.length (fun _=>True) 0 trivial ((wk_row 7 2000091 2 (by decide) (by decide) rfl rfl).trans (Wk.list [1000000,1000001,1000002,2000091] rfl rfl ?_)) (fun j hj _=>?_) (Nat.zero_le _)
   ·repeat' (first|(conv in hold _=>simp (disch:=omega) only [go_sem])|exact trivial|exact Sub.refl _|omega)
    first | exact rfl | exact ⟨rfl,rfl⟩ | exact ⟨rfl,rfl,rfl⟩
   ·have hjl : ((prjR es x).take j).length = j:=take_len (by rw [hxl.1]; exact hj)
    have hjm : (((prjR es x).take j).map vD).take j = ((prjR es x).take j).map vD:=take_map vD (by rw [hxl.1]; exact hj)
    rcases at_or_end hj with ⟨e,hej,hjlt⟩ | rfl
    ·have h1:=evalExpr_ok hxr.2 e d (by rw [hxr.1]; exact hes e (List.mem_of_getElem? hej))
     have hnj : (prjR es x).take (j + 1) = (prjR es x).take j ++ [ev e x]:=take_next (by unfold prjR; rw [List.getElem?_map,hej]; rfl)
     refine go1 (cj2 @hx @hej) ?_
     refine Uc (cj3 @hx @hej @hjm) (h1) (go1 (cj3 @hx @hej @hjm) ?_)
     refine ⟨hjlt,trivial,Wk.list [1000000,1000001,1000002,2000036] rfl rfl ?_⟩
     repeat' (first|(conv in hold _=>simp (disch:=omega) only [go_sem,hnj,hjm])|exact trivial|exact Sub.refl _|omega)
     rw [List.map_append]
     rfl
    ·have e1 : (prjR es x).take es.length = prjR es x:=List.take_of_length_le (by rw [hxl.1]; exact Nat.le_refl _)
     rw [e1] at hjm
     rw [e1]
     refine go1R trivial ?_
     (with_reducible first | refine dw_reg0 ?_ | refine dw_regB ?_)
     conv=>arg 3; whnf
     refine go1R trivial ?_
     (with_reducible first | refine dw_reg0 ?_ | refine dw_regB ?_)
     conv=>arg 3; whnf
     refine Stp.go ?_
     refine s_pre (pre_frz (t:=7) (g:=1000003) (by decide) (by decide) rfl ?_) ?_
     rotate_left
     refine go1 (cj3 @hjm @htm @hxl) ?_
     ·refine ⟨hlt,trivial,Wk.list [1000000,1000001,2000040] rfl rfl ?_⟩
      repeat' (first|(conv in hold _=>simp (disch:=omega) only [go_sem,hnx,htm,hjm])|exact trivial|exact Sub.refl _|omega)
      rw [List.map_append]
      rfl
     ·exact vals_pur _
  ·have e1 : (rs.map (prjR es)).take rs.length = rs.map (prjR es):=List.take_of_length_le (by rw [List.length_map]; exact Nat.le_refl _)
   rw [e1]
   refine go1C trivial ?_
   refine s_pre (pre_frz (t:=43) (g:=1000002) (by decide) (by decide) rfl ?_) ?_
   rotate_left
   refine go1 @htk ?_
   refine c_doesE (h3) ?_ ?_ ?_
   ·((try (conv=>rhs;simp (disch:=omega) only [go_sem])); try rfl)
   ·first|rfl|(conv=>lhs;simp only [go_sem])
   repeat' (first|with_reducible refine acc_none ?_ | (conv in hold _=>simp (disch:=omega) only [go_sem])|refine Stp.go ?_|(with_reducible first|refine it_pos rfl ?_|refine it_neg (by decide) ?_|refine st_nil rfl ?_|refine s_op ?_ ?_|exact trivial)|((with_reducible first|refine dw_reg0 ?_|refine dw_regB ?_);(conv=>arg 3;whnf))|(refine Spl.go (fun hq he=>?_) (fun hq he=>?_)<;>first|(exfalso;clear hq;omega)|((try first|(conv=>arg 8;simp only [hq])|(conv=>arg 4;simp only [hq]));clear hq))|((with_reducible first|refine c_split (fun hq=>?_) (fun hq=>?_)|refine q_split (fun hq=>?_) (fun hq=>?_))<;>(try first|(conv=>arg 8;simp only [hq])|(conv=>arg 4;simp only [hq])))|(with_reducible refine fin_0 ?_ (by first|rfl|(conv=>lhs;simp only [go_sem])) ?_)|exact Sub.refl _|omega)
   ·exact rows_pur _
end Go.Proofs.YtjngffbghkafaaaGreat
