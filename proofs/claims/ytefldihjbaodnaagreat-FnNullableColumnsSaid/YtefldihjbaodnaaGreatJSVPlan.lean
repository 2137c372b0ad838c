/-
  Projections and joins of the model. No condition.
-/
import Derived.Test.YtefldihjbaodnaaGreatKSDca
import Derived.Test.YtefldihjbaodnaaGreatJSDcWPRowE
import Derived.Test.YtefldihjbaodnaaGreatKSDcd
import Derived.Test.YtefldihjbaodnaaGreatJSVWidE
import Derived.Test.YtefldihjbaodnaaGreatJSVGo
import Derived.Test.YtefldihjbaodnaaGreatKSDcf
import Derived.Test.YtefldihjbaodnaaGreatJSVDrawTb
import Derived.Test.YtefldihjbaodnaaGreatJSVPiB
import Derived.Test.YtefldihjbaodnaaGreatJSDcVWid
import Derived.Test.YtefldihjbaodnaaGreatKSDch
import Derived.Test.YtefldihjbaodnaaGreatJSVPlC
import Derived.Test.YtefldihjbaodnaaGreatJSVTbI
set_option maxHeartbeats 4000000
set_option maxRecDepth 100000
set_option linter.unusedVariables false
set_option linter.unusedSimpArgs false
namespace Go.Proofs.YtefldihjbaodnaaGreat
open Go.RowKit
def prjR (es : List E) (r : List V) : List V:=es.map (fun e=>ev e r)
theorem copyRow_own (vs : List V) (hl : vs.length < 2000000) : Does Tryz.prog 102 [] [rowD vs] (.own 1000000 2 vs.length) [.row 2 (vs.map vD)]:=by
 refine Bk c_Z186 mixed 0 (go1 trivial ?_)
 refine fin_L [2000005] ?_ ?_ rfl ?_
 repeat' (first|(conv in hold _=>simp (disch:=omega) only [go_sem,take_all])|exact trivial|exact Sub.refl _|omega)
theorem concat_ok (a b : List V) (ha : a.length < 1000000) (hb : b.length < 1000000) : Does Tryz.prog 136 [] [rowD a,rowD b] (rowD (a ++ b)) []:=by
 have h:=copyRow_own a (by omega)
 have e1:=take_all vD a
 have e2:=take_all vD b
 have e3 : (a.map vD ++ b.map vD).take (a.length + b.length) = (a ++ b).map vD:=by rw [List.map_append]; exact List.take_of_length_le (by rw [List.length_append,List.length_map,List.length_map]; exact Nat.le_refl _)
 refine Bg c_Z193 mixed (go1F trivial ?_)
 refine UcR [3000001] (cj3 @e1 @e2 @e3) (h) (go1F (cj3 @e1 @e2 @e3) ?_)
 refine fin_wk (wk_frz 4 2000008 (by decide) (by decide) rfl ?_) ?_
 rotate_left
 (conv in hold _=>simp (disch:=omega) only [go_sem,e1,e2,e3,List.length_append,List.length_map,Nat.le_refl])
 ·refine fin_L [] ?_ ?_ rfl ?_
  repeat' (first|(conv in hold _=>simp (disch:=omega) only [go_sem,e1,e2,e3])|exact trivial|exact Sub.refl _|omega)
 ·exact (by rw [← List.map_append]; exact vals_pur _)
theorem nulR_next (i : Nat) : nulR (i + 1) = nulR i ++ [⟨true,0⟩]:=List.replicate_succ'
theorem nulls_ok (n : Nat) (hn : n < 1000) : Does Tryz.prog 137 [] [I n] (rowD (nulR n)) []:=by
 refine Bg c_Z198 mixed (go1 trivial ?_)
 refine dw_for (c:=1) (l:=fun i=>[(0,I n),(3,.own 1000000 2 i),(4,I i),(1000000,.row 2 ((nulR i).map vD))]) n (fun _=>True) 0 trivial ((wk_row 3 2000090 2 (by decide) (by decide) rfl rfl).trans (Wk.list [2000090] rfl rfl ?_)) (fun i hi _=>?_) (Nat.zero_le _)
 ·repeat' (first|(conv in hold _=>simp (disch:=omega) only [go_sem])|exact trivial|exact Sub.refl _|omega)
  first | exact rfl | exact ⟨rfl,rfl⟩
 ·have hlen : (nulR i).length = i:=List.length_replicate
  have htm : ((nulR i).map vD).take i = (nulR i).map vD:=List.take_of_length_le (by rw [List.length_map,hlen]; exact Nat.le_refl _)
  by_cases hin : i < n
  ·refine go1 @htm ?_
   refine ⟨hin,trivial,Wk.list [2000014] rfl rfl ?_⟩
   repeat' (first|(conv in hold _=>simp (disch:=omega) only [go_sem,nulR_next,htm])|exact trivial|exact Sub.refl _|omega)
   rw [List.map_append]
   rfl
  ·obtain rfl : i = n:=by omega
   refine go1F trivial ?_
   refine fin_wk (wk_frz 2 1000000 (by decide) (by decide) rfl ?_) ?_
   rotate_left
   (conv in hold _=>simp (disch:=omega) only [go_sem,htm,hlen,List.length_map,Nat.le_refl])
   ·refine fin_L [] ?_ ?_ rfl ?_
    repeat' (first|(conv in hold _=>simp (disch:=omega) only [go_sem])|exact trivial|exact Sub.refl _|omega)
   ·exact vals_pur _
theorem projectTable_ok {w : Nat} (hw : w < 1000) (rs : List (List V)) (hl : rs.length < 1000000) (hs : RsW w rs) (es : List E) (d : Nat) (hel : es.length < 1000) (hes : ∀ e,e ∈ es → eOk e w d) : Does Tryz.prog 76 [] [taD ⟨w,rs⟩,.sl 5 (es.map eD)] (taD (tabT es.length (rs.map (prjR es)))) []:=by
 have hpr : ∀ r,r ∈ rs → (prjR es r).length = es.length ∧ ∀ v,v ∈ prjR es r → v.ok:=fun r hr=>⟨List.length_map _,fun v hv=>by
  obtain ⟨e,hm,rfl⟩:=List.mem_map.1 hv
  exact ev_ok (hs r hr).2 e d (by rw [(hs r hr).1]; exact hes e hm)⟩
 have h3:=tableOf_tab es.length es.length hel (rs.map (prjR es)) (by rw [List.length_map]; omega) (fun r hr=>by
  obtain ⟨x,hx,rfl⟩:=List.mem_map.1 hr
  exact hpr x hx)
 have htk : ((rs.map (prjR es)).map rowD).take rs.length = (rs.map (prjR es)).map rowD:=List.take_of_length_le (by rw [List.length_map,List.length_map]; exact Nat.le_refl _)
 refine Bg c_Z89 mixed (go1 trivial ?_)
 refine dw_for (c:=3) (l:=fun i=>[(1,.sl 5 (es.map eD)),(2,.ref 1000000 0),(4,.ref 1000001 0),(5,.own 1000002 1 i),(6,I i),(1000000,.obj [I w,rowsD rs]),(1000001,.obj [I 0,.nul]),(1000002,.row 1 (((rs.map (prjR es)).take i).map rowD))]) rs.length (fun _=>True) 0 trivial ((wk_row 5 2000090 1 (by decide) (by decide) rfl rfl).trans (Wk.list [2000002,2000004,2000090] rfl rfl ?_)) (fun i hi _=>?_) (Nat.zero_le _)
 ·repeat' (first|(conv in hold _=>simp (disch:=omega) only [go_sem])|exact trivial|exact Sub.refl _|omega)
  first | exact rfl | exact ⟨rfl,rfl⟩ | exact ⟨rfl,rfl,rfl⟩
 ·have htl : ((rs.map (prjR es)).take i).length = i:=take_len (by rw [List.length_map]; exact hi)
  have htm : (((rs.map (prjR es)).take i).map rowD).take i = ((rs.map (prjR es)).take i).map rowD:=take_map rowD (by rw [List.length_map]; exact hi)
  rcases at_or_end hi with ⟨x,hx,hlt⟩ | rfl
  ·have hxr:=hs x (List.mem_of_getElem? hx)
   have hxl:=hpr x (List.mem_of_getElem? hx)
   have hnx : (rs.map (prjR es)).take (i + 1) = (rs.map (prjR es)).take i ++ [prjR es x]:=take_next (by rw [List.getElem?_map,hx]; rfl)
   refine go1 @hx ?_
   refine dw_for (c:=4) (l:=fun j=>[(1,.sl 5 (es.map eD)),(2,.ref 1000000 0),(4,.ref 1000001 0),(5,.own 1000002 1 i),(6,I i),(7,.own 1000003 2 j),(8,I j),(1000000,.obj [I w,rowsD rs]),(1000001,.obj [I 0,.nul]),(1000002,.row 1 (((rs.map (prjR es)).take i).map rowD)),(1000003,.row 2 (((prjR es x).take j).map vD))]) es.length (fun _=>True) 0 trivial ((wk_row 7 2000091 2 (by decide) (by decide) rfl rfl).trans (Wk.list [1000000,1000001,1000002,2000091] rfl rfl ?_)) (fun j hj _=>?_) (Nat.zero_le _)
   ·repeat' (first|(conv in hold _=>simp (disch:=omega) only [go_sem])|exact trivial|exact Sub.refl _|omega)
    first | exact rfl | exact ⟨rfl,rfl⟩ | exact ⟨rfl,rfl,rfl⟩
   ·have hjl : ((prjR es x).take j).length = j:=take_len (by rw [hxl.1]; exact hj)
    have hjm : (((prjR es x).take j).map vD).take j = ((prjR es x).take j).map vD:=take_map vD (by rw [hxl.1]; exact hj)
    rcases at_or_end hj with ⟨e,hej,hjlt⟩ | rfl
    ·have h1:=evalExpr_ok hxr.2 e d (by rw [hxr.1]; exact hes e (List.mem_of_getElem? hej))
     have hnj : (prjR es x).take (j + 1) = (prjR es x).take j ++ [ev e x]:=take_next (by unfold prjR; rw [List.getElem?_map,hej]; rfl)
     refine go1 (cj2 @hx @hej) ?_
     refine Uc (cj3 @hx @hej @hjm) (h1) (go1 (cj3 @hx @hej @hjm) ?_)
     refine ⟨hjlt,trivial,Wk.list [1000000,1000001,1000002,2000036] rfl rfl ?_⟩
     repeat' (first|(conv in hold _=>simp (disch:=omega) only [go_sem,hnj,hjm])|exact trivial|exact Sub.refl _|omega)
     rw [List.map_append]
     rfl
    ·have e1 : (prjR es x).take es.length = prjR es x:=List.take_of_length_le (by rw [hxl.1]; exact Nat.le_refl _)
     rw [e1] at hjm
     rw [e1]
     refine go1R trivial ?_
     (with_reducible first | refine dw_reg0 ?_ | refine dw_regB ?_)
     conv=>arg 3; whnf
     refine go1R trivial ?_
     (with_reducible first | refine dw_reg0 ?_ | refine dw_regB ?_)
     conv=>arg 3; whnf
     refine Stp.go ?_
     refine s_pre (pre_frz (t:=7) (g:=1000003) (by decide) (by decide) rfl ?_) ?_
     rotate_left
     refine go1 (cj3 @hjm @htm @hxl) ?_
     ·refine ⟨hlt,trivial,Wk.list [1000000,1000001,2000040] rfl rfl ?_⟩
      repeat' (first|(conv in hold _=>simp (disch:=omega) only [go_sem,hnx,htm,hjm])|exact trivial|exact Sub.refl _|omega)
      rw [List.map_append]
      rfl
     ·exact vals_pur _
  ·have e1 : (rs.map (prjR es)).take rs.length = rs.map (prjR es):=List.take_of_length_le (by rw [List.length_map]; exact Nat.le_refl _)
   rw [e1]
   refine go1C trivial ?_
   refine s_pre (pre_frz (t:=43) (g:=1000002) (by decide) (by decide) rfl ?_) ?_
   rotate_left
   refine go1 @htk ?_
   refine c_doesE (h3) ?_ ?_ ?_
   ·((try (conv=>rhs;simp (disch:=omega) only [go_sem])); try rfl)
   ·first|rfl|(conv=>lhs;simp only [go_sem])
   repeat' (first|with_reducible refine acc_none ?_ | (conv in hold _=>simp (disch:=omega) only [go_sem])|refine Stp.go ?_|(with_reducible first|refine it_pos rfl ?_|refine it_neg (by decide) ?_|refine st_nil rfl ?_|refine s_op ?_ ?_|exact trivial)|((with_reducible first|refine dw_reg0 ?_|refine dw_regB ?_);(conv=>arg 3;whnf))|(refine Spl.go (fun hq he=>?_) (fun hq he=>?_)<;>first|(exfalso;clear hq;omega)|((try first|(conv=>arg 8;simp only [hq])|(conv=>arg 4;simp only [hq]));clear hq))|((with_reducible first|refine c_split (fun hq=>?_) (fun hq=>?_)|refine q_split (fun hq=>?_) (fun hq=>?_))<;>(try first|(conv=>arg 8;simp only [hq])|(conv=>arg 4;simp only [hq])))|(with_reducible refine fin_0 ?_ (by first|rfl|(conv=>lhs;simp only [go_sem])) ?_)|exact Sub.refl _|omega)
   ·exact rows_pur _
end Go.Proofs.YtefldihjbaodnaaGreat
set_option maxHeartbeats 4000000
set_option maxRecDepth 100000
set_option linter.unusedVariables false
set_option linter.unusedSimpArgs false
namespace Go.Proofs.YtefldihjbaodnaaGreat
open Go.RowKit
def sameT (a b : Ta) : Prop:=tOk a ∧ tOk b ∧ a.w = b.w
noncomputable instance sameTDec (a b : Ta) : Decidable (sameT a b):=Classical.propDecidable _
theorem sameT.symm {a b : Ta} (h : sameT a b) : sameT b a:=⟨h.2.1,h.1,h.2.2.symm⟩
theorem tOk_nat {t : Ta} (h : tOk t) : ∃ w : Nat,t.w = (w : Int) ∧ (1 ≤ w ∧ w ≤ 6) ∧ RsW w t.rows ∧ Asc t.rows ∧ t.rows.length ≤ 400:=by
 have h1:=h.1.1
 refine ⟨t.w.toNat,by omega,by omega,rsw_of_tOk h,asc_of_tOk h,h.1.2⟩
theorem tOk_sz {t : Ta} (ht : tOk t) : rsz t.rows ≤ 1048576:=by
 obtain ⟨w,_,_,hr,_,hl⟩:=tOk_nat ht
 have h1:=rsz_le t.rows (k:=6) (fun r hm=>by have:=(hr r hm).1; omega)
 omega
theorem NearT.mono {w w' m : Nat} {t : Ta} (h : NearT w m t) (hw : w ≤ w') : NearT w' m t:=⟨h.len,fun r hr=>by have:=h.row r hr; omega⟩
end Go.Proofs.YtefldihjbaodnaaGreat
set_option maxHeartbeats 4000000
set_option maxRecDepth 100000
set_option linter.unusedVariables false
set_option linter.unusedSimpArgs false
namespace Go.Proofs.YtefldihjbaodnaaGreat
open Go.RowKit
inductive FineE (ws : List Int) : Pl → Prop
 | mk {p : Pl} (hf : fields p) (hs : p.k = 1 → 0 ≤ p.t ∧ p.t ≤ (ws.length : Int) - 1) (he : ∀ e,e ∈ p.es → ∃ w : Int,eOk e w 8)
   (hfil : p.k = 2 → ∀ x e,p.ks[0]? = some x → p.es[0]? = some e → x.k = 1 → eOk e (scanV ws x.t) 8) (hk : ∀ x,x ∈ p.ks → FineE ws x) : FineE ws p
theorem FineE.fields {ws : List Int} {p : Pl} (h : FineE ws p) : fields p:=by cases h with | mk h _ _ _ _=>exact h
theorem FineE.scan {ws : List Int} {p : Pl} (h : FineE ws p) : p.k = 1 → 0 ≤ p.t ∧ p.t ≤ (ws.length : Int) - 1:=by cases h with | mk _ h _ _ _=>exact h
end Go.Proofs.YtefldihjbaodnaaGreat
set_option maxHeartbeats 4000000
set_option maxRecDepth 100000
set_option linter.unusedVariables false
set_option linter.unusedSimpArgs false
namespace Go.Proofs.YtefldihjbaodnaaGreat
open Go.RowKit
def gnD (ws : List Int) (j u : Nat) : D:=.obj [.ref 1000001 0,.own 1000002 1 ws.length,I j,I u]
def wrD (ws : List Int) : D:=.row 1 (ws.map I)
attribute [go_sem] gnD wrD
abbrev DPlan (bs : List Nat) (ws : List Int) (p j u : Nat) (d : Int) (x : Pl) (q j' u' : Nat) : Prop:=
 Does Tryz.prog 145 [gnD ws j u,rdD bs p,wrD ws] [.ref 1000000 0,I d] (pD x) [gnD ws j' u',rdD bs q,wrD ws]
abbrev DPick (bs : List Nat) (p : Nat) (n v : Int) : Prop:=Does Tryz.prog 60 [rdD bs p] [.ref 1000000 0,I n] (I v) [rdD bs (p + 1)]
abbrev DCond (bs : List Nat) (p : Nat) (n : Int) (e : E) (q : Nat) : Prop:=Does Tryz.prog 147 [rdD bs p] [.ref 1000000 0,I n] (eD e) [rdD bs q]
abbrev DWid (ws : List Int) (x : Pl) (n : Int) : Prop:=Does Tryz.prog 72 [wrD ws] [pD x,.own 1000000 1 ws.length,I 8] (I n) [wrD ws]
theorem plan_zero {bs : List Nat} {ws : List Int} {p j u : Nat} (hl : ws.length ≤ 10) {t : Int} (h1 : DPick bs p ws.length t) : DPlan bs ws p j u 0 (.mk 1 t [] [] []) (p + 1) j u:=by
 refine Bk c_Z76 mixed 3 (go1 trivial ?_)
 refine UcR [1000001] trivial (h1) (go1 trivial ?_)
 refine fin_L [1000000,1000001,1000002] ?_ ?_ rfl ?_
 repeat' (first|(conv in hold _=>simp (disch:=omega) only [go_sem])|exact trivial|exact Sub.refl _|omega)
 exact Sub.agg ⟨Sub.refl _,Sub.refl _,Sub.nul 5,Sub.nul 1,Sub.nul 5,trivial⟩
theorem plan_scan {bs : List Nat} {ws : List Int} {p j u : Nat} (hl : ws.length ≤ 10) {t : Int} (d : Nat) (h1 : DPick bs p ws.length t) (h2 : DPick bs (p + 1) 6 0) : DPlan bs ws p j u ((d + 1 : Nat) : Int) (.mk 1 t [] [] []) (p + 2) j u:=by
 refine Bk c_Z76 mixed 3 (go1 trivial ?_)
 refine UcR [1000001] trivial (h1) (go1 trivial ?_)
 refine UcR [1000001] trivial (h2) (go1 trivial ?_)
 refine fin_L [1000000,1000001,1000002] ?_ ?_ rfl ?_
 repeat' (first|(conv in hold _=>simp (disch:=omega) only [go_sem])|exact trivial|exact Sub.refl _|omega)
 exact Sub.agg ⟨Sub.refl _,Sub.refl _,Sub.nul 5,Sub.nul 1,Sub.nul 5,trivial⟩
structure Pre (bs : List Nat) (ws : List Int) (p j u d : Nat) (x : Pl) (t k6 c n : Int) (q j1 u1 : Nat) : Prop where
 hl : ws.length ≤ 10
 hd : d ≤ 100
 h1 : DPick bs p ws.length t
 h2 : DPick bs (p + 1) 6 k6
 h6 : k6 ≠ 0
 hk : DPlan bs ws (p + 2) j u d x q j1 u1
 hw : DWid ws x n
 hn : 0 ≤ n ∧ n ≤ 6
 h3 : DPick bs q 10 c
 hj : j1 ≤ 1
 hu : u1 ≤ 1
variable {bs : List Nat} {ws : List Int} {p j u d : Nat} {x : Pl} {t k6 c n : Int} {q j1 u1 : Nat}
theorem plan_fil (h : Pre bs ws p j u d x t k6 c n q j1 u1) (hc : c = 0 ∨ c = 1 ∨ c = 2) {e : E} {q2 : Nat} (hce : DCond bs (q + 1) n e q2) : DPlan bs ws p j u ((d + 1 : Nat) : Int) (.mk 2 0 [e] [] [x]) q2 j1 u1:=by
 obtain ⟨hl,hd,h1,h2,h6,hk,hw,hn,h3,hj,hu⟩:=h
 have hf:=filterOf_ok e x
 rcases hc with rfl | rfl | rfl
 all_goals
  refine Bk c_Z76 mixed 3 (go1 trivial ?_)
  refine UcR [1000001] trivial (h1) (go1 trivial ?_)
  refine UcR [1000001] trivial (h2) (go1 trivial ?_)
  refine UcR [1000000,1000001,1000002] trivial (hk) (go1 trivial ?_)
  refine UcR [1000002] trivial (hw) (go1 trivial ?_)
  refine UcR [1000001] trivial (h3) (go1 trivial ?_)
  refine UcR [1000001] trivial (hce) (go1 trivial ?_)
  refine Uc trivial (hf) (go1 trivial ?_)
  refine fin_L [1000000,1000001,1000002] ?_ ?_ rfl ?_
  repeat' (first|(conv in hold _=>simp (disch:=omega) only [go_sem])|exact trivial|exact Sub.refl _|omega)
theorem plan_def (h : Pre bs ws p j u d x t k6 c n q j1 u1) (hc : ((c = 5 ∨ c = 6) ∧ ¬ (0 < j1 ∧ n ≤ 4)) ∨ (c = 7 ∧ u1 = 0)) {e : E} {q2 : Nat} (hce : DCond bs (q + 1) n e q2) : DPlan bs ws p j u ((d + 1 : Nat) : Int) (.mk 2 0 [e] [] [x]) q2 j1 u1:=by
 obtain ⟨hl,hd,h1,h2,h6,hk,hw,hn,h3,hj,hu⟩:=h
 have hf:=filterOf_ok e x
 rcases hc with ⟨rfl | rfl,hc⟩ | ⟨rfl,hc⟩
 ·by_cases hj0 : 0 < j1
  ·have hn4 : ¬ n ≤ 4:=fun h=>hc ⟨hj0,h⟩
   refine Bk c_Z76 mixed 3 (go1 trivial ?_)
   refine UcR [1000001] trivial (h1) (go1 trivial ?_)
   refine UcR [1000001] trivial (h2) (go1 trivial ?_)
   refine UcR [1000000,1000001,1000002] trivial (hk) (go1 trivial ?_)
   refine UcR [1000002] trivial (hw) (go1 trivial ?_)
   refine UcR [1000001] trivial (h3) (go1 trivial ?_)
   refine UcR [1000001] trivial (hce) (go1 trivial ?_)
   refine Uc trivial (hf) (go1 trivial ?_)
   refine fin_L [1000000,1000001,1000002] ?_ ?_ rfl ?_
   repeat' (first|(conv in hold _=>simp (disch:=omega) only [go_sem])|exact trivial|exact Sub.refl _|omega)
  ·refine Bk c_Z76 mixed 3 (go1 trivial ?_)
   refine UcR [1000001] trivial (h1) (go1 trivial ?_)
   refine UcR [1000001] trivial (h2) (go1 trivial ?_)
   refine UcR [1000000,1000001,1000002] trivial (hk) (go1 trivial ?_)
   refine UcR [1000002] trivial (hw) (go1 trivial ?_)
   refine UcR [1000001] trivial (h3) (go1 trivial ?_)
   refine UcR [1000001] trivial (hce) (go1 trivial ?_)
   refine Uc trivial (hf) (go1 trivial ?_)
   refine fin_L [1000000,1000001,1000002] ?_ ?_ rfl ?_
   repeat' (first|(conv in hold _=>simp (disch:=omega) only [go_sem])|exact trivial|exact Sub.refl _|omega)
 ·by_cases hj0 : 0 < j1
  ·have hn4 : ¬ n ≤ 4:=fun h=>hc ⟨hj0,h⟩
   refine Bk c_Z76 mixed 3 (go1 trivial ?_)
   refine UcR [1000001] trivial (h1) (go1 trivial ?_)
   refine UcR [1000001] trivial (h2) (go1 trivial ?_)
   refine UcR [1000000,1000001,1000002] trivial (hk) (go1 trivial ?_)
   refine UcR [1000002] trivial (hw) (go1 trivial ?_)
   refine UcR [1000001] trivial (h3) (go1 trivial ?_)
   refine UcR [1000001] trivial (hce) (go1 trivial ?_)
   refine Uc trivial (hf) (go1 trivial ?_)
   refine fin_L [1000000,1000001,1000002] ?_ ?_ rfl ?_
   repeat' (first|(conv in hold _=>simp (disch:=omega) only [go_sem])|exact trivial|exact Sub.refl _|omega)
  ·refine Bk c_Z76 mixed 3 (go1 trivial ?_)
   refine UcR [1000001] trivial (h1) (go1 trivial ?_)
   refine UcR [1000001] trivial (h2) (go1 trivial ?_)
   refine UcR [1000000,1000001,1000002] trivial (hk) (go1 trivial ?_)
   refine UcR [1000002] trivial (hw) (go1 trivial ?_)
   refine UcR [1000001] trivial (h3) (go1 trivial ?_)
   refine UcR [1000001] trivial (hce) (go1 trivial ?_)
   refine Uc trivial (hf) (go1 trivial ?_)
   refine fin_L [1000000,1000001,1000002] ?_ ?_ rfl ?_
   repeat' (first|(conv in hold _=>simp (disch:=omega) only [go_sem])|exact trivial|exact Sub.refl _|omega)
 ·subst hc
  refine Bk c_Z76 mixed 3 (go1 trivial ?_)
  refine UcR [1000001] trivial (h1) (go1 trivial ?_)
  refine UcR [1000001] trivial (h2) (go1 trivial ?_)
  refine UcR [1000000,1000001,1000002] trivial (hk) (go1 trivial ?_)
  refine UcR [1000002] trivial (hw) (go1 trivial ?_)
  refine UcR [1000001] trivial (h3) (go1 trivial ?_)
  refine UcR [1000001] trivial (hce) (go1 trivial ?_)
  refine Uc trivial (hf) (go1 trivial ?_)
  refine fin_L [1000000,1000001,1000002] ?_ ?_ rfl ?_
  repeat' (first|(conv in hold _=>simp (disch:=omega) only [go_sem])|exact trivial|exact Sub.refl _|omega)
end Go.Proofs.YtefldihjbaodnaaGreat
