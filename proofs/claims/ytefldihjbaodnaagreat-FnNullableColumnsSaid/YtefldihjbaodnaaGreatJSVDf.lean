/-
  Distinct rows and unions of the model. No condition.
-/
import Derived.Test.YtefldihjbaodnaaGreatKSDca
import Derived.Test.YtefldihjbaodnaaGreatKSDcf
import Derived.Test.YtefldihjbaodnaaGreatJSVWidF
import Derived.Test.YtefldihjbaodnaaGreatJSVGo
import Derived.Test.YtefldihjbaodnaaGreatKSDch
import Derived.Test.YtefldihjbaodnaaGreatJSVOcM
set_option maxHeartbeats 4000000
set_option maxRecDepth 100000
set_option linter.unusedVariables false
set_option linter.unusedSimpArgs false
namespace Go.Proofs.YtefldihjbaodnaaGreat
open Go.RowKit
theorem union_ok {w : Nat} (hw : w < 1000) (ra rb : List (List V)) (hla : ra.length ≤ 400) (hlb : rb.length ≤ 400) (ha : RsW w ra) (hb : RsW w rb) (wb : Int) :
  Does Tryz.prog 78 [] [taD ⟨w,ra⟩,taD ⟨wb,rb⟩] (taD (tabT w (ra ++ rb))) []:=by
 have h4:=tableOf_tab w w hw (ra ++ rb) (by rw [List.length_append]; omega) (fun r hr=>(List.mem_append.1 hr).elim (ha r) (hb r))
 have e1:=take_all rowD ra
 have e2:=take_all rowD rb
 have e3 : (ra.map rowD ++ rb.map rowD).take (ra.length + rb.length) = (ra ++ rb).map rowD:=by rw [List.map_append]; exact List.take_of_length_le (by rw [List.length_append,List.length_map,List.length_map]; exact Nat.le_refl _)
 refine Bg c_Z176 mixed (go1C trivial ?_)
 refine s_pre (pre_frz (t:=13) (g:=2000013) (by decide) (by decide) rfl ?_) ?_
 rotate_left
 refine go1 (cj3 @e1 @e2 @e3) ?_
 refine c_doesE (h4) ?_ ?_ ?_
 ·((try (conv=>rhs;simp (disch:=omega) only [go_sem])); try rfl)
 ·first|rfl|(conv=>lhs;simp only [go_sem])
 repeat' (first|with_reducible refine acc_none ?_ | (conv in hold _=>simp (disch:=omega) only [go_sem])|refine Stp.go ?_|(with_reducible first|refine it_pos rfl ?_|refine it_neg (by decide) ?_|refine st_nil rfl ?_|refine s_op ?_ ?_|exact trivial)|((with_reducible first|refine dw_reg0 ?_|refine dw_regB ?_);(conv=>arg 3;whnf))|(refine Spl.go (fun hq he=>?_) (fun hq he=>?_)<;>first|(exfalso;clear hq;omega)|((try first|(conv=>arg 8;simp only [hq])|(conv=>arg 4;simp only [hq]));clear hq))|((with_reducible first|refine c_split (fun hq=>?_) (fun hq=>?_)|refine q_split (fun hq=>?_) (fun hq=>?_))<;>(try first|(conv=>arg 8;simp only [hq])|(conv=>arg 4;simp only [hq])))|(with_reducible refine fin_0 ?_ (by first|rfl|(conv=>lhs;simp only [go_sem])) ?_)|exact Sub.refl _|omega)
 ·exact (by rw [← List.map_append]; exact rows_pur _)
def dstP (rs : List (List V)) (i : Nat) : Bool:=match i with
 | 0=>true
 | j + 1=>!(cmpR (rs.getD j []) (rs.getD (j + 1) []) == 0)
def dstL (rs : List (List V)) : Nat → List (List V)
 | 0=>[]
 | i + 1=>dstL rs i ++ (if dstP rs i = true then [rs.getD i []] else [])
theorem dstL_sub (rs : List (List V)) : ∀ i,i ≤ rs.length → (dstL rs i).Sublist (rs.take i)
 | 0,_=>List.Sublist.refl _
 | i + 1,hi=>by
  obtain ⟨x,hx⟩ : ∃ x,rs[i]? = some x:=⟨_,List.getElem?_eq_getElem (by omega)⟩
  rw [take_next hx,dstL]
  refine (dstL_sub rs i (by omega)).append ?_
  split
  ·rw [List.getD_eq_getElem?_getD,hx]
   exact List.Sublist.refl _
  ·exact List.nil_sublist _
theorem distinctRows_ok {w : Nat} (hw : w < 1000) (rs : List (List V)) (hl : rs.length ≤ 400) (hs : RsW w rs) : Does Tryz.prog 79 [] [taD ⟨w,rs⟩] (taD ⟨w,dstL rs rs.length⟩) []:=by
 have hcap : ∀ i,i ≤ rs.length → (dstL rs i).length ≤ i:=fun i hi=>by
  have:=(dstL_sub rs i hi).length_le
  rw [List.length_take] at this
  omega
 have htk : ((dstL rs rs.length).map rowD).take (dstL rs rs.length).length = (dstL rs rs.length).map rowD:=take_all rowD _
 have hres : taD ⟨w,dstL rs rs.length⟩ = .agg [I w,rowsD (dstL rs rs.length)]:=rfl
 rw [hres]
 refine Bg c_Z87 mixed (go1 trivial ?_)
 refine dw_for (c:=4) (l:=fun i=>[(1,.ref 1000000 0),(2,.ref 1000001 0),(3,.ref 1000002 0),(4,I i),(1000000,.obj [I w,rowsD rs]),(1000001,.obj [I 0,.nul]),(1000002,.obj [I w,.own 1000003 1 (dstL rs i).length]),(1000003,.row 1 ((dstL rs i).map rowD))]) rs.length (fun _=>True) 0 trivial ((wk_rowO 2000003 2000090 1 1 (by decide) (by decide) (by decide) rfl rfl rfl).trans (Wk.list [2000001,2000002,2000003,2000090] rfl rfl ?_)) (fun i hi _=>?_) (Nat.zero_le _)
 ·repeat' (first|(conv in hold _=>simp (disch:=omega) only [go_sem])|exact trivial|exact Sub.refl _|omega)
  first | exact rfl | exact ⟨rfl,rfl⟩ | exact ⟨rfl,rfl,rfl⟩
 ·have hcp:=hcap i hi
  have htm : ((dstL rs i).map rowD).take (dstL rs i).length = (dstL rs i).map rowD:=take_all rowD _
  rcases at_or_end hi with ⟨x,hx,hlt⟩ | rfl
  ·have hxr:=hs x (List.mem_of_getElem? hx)
   have hcp2:=copyRow_ok x (by omega)
   have hgx : rs.getD i [] = x:=by rw [List.getD_eq_getElem?_getD,hx]; rfl
   have hnx : dstL rs (i + 1) = dstL rs i ++ (if dstP rs i = true then [x] else []):=by rw [dstL,hgx]
   generalize dstL rs i = Q at hcp htm hnx
   by_cases hi0 : i = 0
   ·subst hi0
    have hnx : dstL rs (0 + 1) = Q ++ [x]:=hnx
    refine go1 @hx ?_
    refine Uc (cj2 @hx @htm) (hcp2) (go1 (cj2 @hx @htm) ?_)
    refine ⟨hlt,trivial,Wk.list [1000000,1000001,1000002,2000041] rfl rfl ?_⟩
    repeat' (first|(conv in hold _=>simp (disch:=omega) only [go_sem,hnx,htm])|exact trivial|exact Sub.refl _|omega)
    rw [List.map_append]
    rfl
   ·obtain ⟨j,hj⟩ : ∃ j,i = j + 1:=⟨i - 1,by omega⟩
    obtain ⟨y,hy⟩ : ∃ y,rs[j]? = some y:=⟨_,List.getElem?_eq_getElem (by omega)⟩
    have hyr:=hs y (List.mem_of_getElem? hy)
    have hcr:=compareRows_spec y x (by omega) (by omega)
    have hgy : rs.getD j [] = y:=by rw [List.getD_eq_getElem?_getD,hy]; rfl
    have hp : dstP rs i = !(cmpR y x == 0):=by
     rw [hj] at hgx ⊢
     rw [dstP,hgy,hgx]
    have hj0 : ((i : Int) == 0) = false:=beq_eq_false_iff_ne.2 (by omega)
    have hj1 : ((i : Int) - 1) = (j : Int):=by omega
    rw [hp] at hnx
    by_cases hc : cmpR y x = 0
    ·rw [hc] at hcr hnx
     have hnx : dstL rs (i + 1) = Q:=by rw [hnx]; exact List.append_nil Q
     refine go1 (cj4 @hx @hy @hj0 @hj1) ?_
     refine Uc (cj2 @hx @hy) (hcr) (go1 (cj2 @hx @hy) ?_)
     refine ⟨hlt,trivial,Wk.list [1000000,1000001,1000002,1000003] rfl rfl ?_⟩
     repeat' (first|(conv in hold _=>simp (disch:=omega) only [go_sem,hnx])|exact trivial|exact Sub.refl _|omega)
    ·have hc2 : (cmpR y x == 0) = false:=beq_eq_false_iff_ne.2 hc
     have hc3 : (cmpR y x != 0) = true:=by rw [bne_iff_ne]; exact hc
     rw [hc2] at hnx
     have hnx : dstL rs (i + 1) = Q ++ [x]:=hnx
     refine go1 (cj4 @hx @hy @hj0 @hj1) ?_
     refine Uc (cj3 @hx @hy @hc3) (hcr) (go1 (cj3 @hx @hy @hc3) ?_)
     refine Uc (cj3 @hx @hy @htm) (hcp2) (go1 (cj3 @hx @hy @htm) ?_)
     refine ⟨hlt,trivial,Wk.list [1000000,1000001,1000002,2000041] rfl rfl ?_⟩
     repeat' (first|(conv in hold _=>simp (disch:=omega) only [go_sem,hnx,htm])|exact trivial|exact Sub.refl _|omega)
     rw [List.map_append]
     rfl
  ·refine go1F trivial ?_
   refine fin_wk (wk_frzO 1000001 1000003 (by decide) (by decide) rfl (by decide) rfl ?_) ?_
   rotate_left
   (conv in hold _=>simp (disch:=omega) only [go_sem,htk,List.length_map,Nat.le_refl])
   ·refine fin_L [] ?_ ?_ rfl ?_
    repeat' (first|(conv in hold _=>simp (disch:=omega) only [go_sem])|exact trivial|exact Sub.refl _|omega)
   ·exact rows_pur _
end Go.Proofs.YtefldihjbaodnaaGreat
set_option maxHeartbeats 4000000
set_option maxRecDepth 100000
set_option linter.unusedVariables false
set_option linter.unusedSimpArgs false
namespace Go.Proofs.YtefldihjbaodnaaGreat
open Go.RowKit
def rootD (a b : Nat) (x : Pl) : D:=.agg [I x.k,I x.t,.own a 5 x.es.length,.own b 1 x.cs.length,.sl 5 (x.ks.map pD)]
def esR (x : Pl) : D:=.row 5 (x.es.map eD)
def csR (x : Pl) : D:=.row 1 (x.cs.map I)
attribute [go_sem] rootD esR csR
abbrev OPlan (bs : List Nat) (ws : List Int) (p j u : Nat) (d : Int) (x : Pl) (q j' u' : Nat) : Prop:=
 Does Tryz.prog 145 [gnD ws j u,rdD bs p,wrD ws] [.ref 1000000 0,I d] (rootD 1000003 1000004 x) [gnD ws j' u',rdD bs q,wrD ws,esR x,csR x]
theorem filterOf_own (e : E) (x : Pl) : Does Tryz.prog 146 [] [eD e,pD x] (rootD 1000000 1000001 (.mk 2 0 [e] [] [x])) [esR (.mk 2 0 [e] [] [x]),csR (.mk 2 0 [e] [] [x])]:=by
 refine Bk c_Z145 mixed 0 (go1F trivial ?_)
 refine fin_wk (wk_rowO 2000004 2000099 1 3 (by decide) (by decide) (by decide) rfl rfl rfl) ?_
 (conv in hold _=>simp (disch:=omega) only [go_sem])
 refine fin_L [2000006,2000099] ?_ ?_ rfl ?_
 repeat' (first|(conv in hold _=>simp (disch:=omega) only [go_sem])|exact trivial|exact Sub.refl _|omega)
theorem oplan_zero {bs : List Nat} {ws : List Int} {p j u : Nat} (hl : ws.length ≤ 10) {t : Int} (h1 : DPick bs p ws.length t) : OPlan bs ws p j u 0 (.mk 1 t [] [] []) (p + 1) j u:=by
 refine Bk c_Z64 mixed 3 (go1 trivial ?_)
 refine UcR [1000001] trivial (h1) (go1F trivial ?_)
 refine fin_wk (wk_rowO 2000004 2000098 5 2 (by decide) (by decide) (by decide) rfl rfl rfl) ?_
 (conv in hold _=>simp (disch:=omega) only [go_sem])
 refine fin_wk (wk_rowO 2000004 2000099 1 3 (by decide) (by decide) (by decide) rfl rfl rfl) ?_
 (conv in hold _=>simp (disch:=omega) only [go_sem])
 refine fin_L [1000000,1000001,1000002,2000098,2000099] ?_ ?_ rfl ?_
 repeat' (first|(conv in hold _=>simp (disch:=omega) only [go_sem])|exact trivial|exact Sub.refl _|omega)
 exact Sub.agg ⟨Sub.refl _,Sub.refl _,Sub.refl _,Sub.refl _,Sub.nul 5,trivial⟩
theorem oplan_scan {bs : List Nat} {ws : List Int} {p j u : Nat} (hl : ws.length ≤ 10) {t : Int} (d : Nat) (h1 : DPick bs p ws.length t) (h2 : DPick bs (p + 1) 6 0) : OPlan bs ws p j u ((d + 1 : Nat) : Int) (.mk 1 t [] [] []) (p + 2) j u:=by
 refine Bk c_Z64 mixed 3 (go1 trivial ?_)
 refine UcR [1000001] trivial (h1) (go1 trivial ?_)
 refine UcR [1000001] trivial (h2) (go1F trivial ?_)
 refine fin_wk (wk_rowO 2000004 2000098 5 2 (by decide) (by decide) (by decide) rfl rfl rfl) ?_
 (conv in hold _=>simp (disch:=omega) only [go_sem])
 refine fin_wk (wk_rowO 2000004 2000099 1 3 (by decide) (by decide) (by decide) rfl rfl rfl) ?_
 (conv in hold _=>simp (disch:=omega) only [go_sem])
 refine fin_L [1000000,1000001,1000002,2000098,2000099] ?_ ?_ rfl ?_
 repeat' (first|(conv in hold _=>simp (disch:=omega) only [go_sem])|exact trivial|exact Sub.refl _|omega)
 exact Sub.agg ⟨Sub.refl _,Sub.refl _,Sub.refl _,Sub.refl _,Sub.nul 5,trivial⟩
variable {bs : List Nat} {ws : List Int} {p j u d : Nat} {x : Pl} {t k6 c n : Int} {q j1 u1 : Nat}
theorem oplan_fil (h : Pre bs ws p j u d x t k6 c n q j1 u1) (hc : c = 0 ∨ c = 1 ∨ c = 2) {e : E} {q2 : Nat} (hce : DCond bs (q + 1) n e q2) : OPlan bs ws p j u ((d + 1 : Nat) : Int) (.mk 2 0 [e] [] [x]) q2 j1 u1:=by
 obtain ⟨hl,hd,h1,h2,h6,hk,hw,hn,h3,hj,hu⟩:=h
 have hf:=filterOf_own e x
 rcases hc with rfl | rfl | rfl
 all_goals
  refine Bk c_Z64 mixed 3 (go1 trivial ?_)
  refine UcR [1000001] trivial (h1) (go1 trivial ?_)
  refine UcR [1000001] trivial (h2) (go1 trivial ?_)
  refine UcR [1000000,1000001,1000002] trivial (hk) (go1 trivial ?_)
  refine UcR [1000002] trivial (hw) (go1 trivial ?_)
  refine UcR [1000001] trivial (h3) (go1 trivial ?_)
  refine UcR [1000001] trivial (hce) (go1 trivial ?_)
  refine UcR [3000001,3000002] trivial (hf) (go1 trivial ?_)
  refine fin_L [1000000,1000001,1000002,3000001,3000002] ?_ ?_ rfl ?_
  repeat' (first|(conv in hold _=>simp (disch:=omega) only [go_sem])|exact trivial|exact Sub.refl _|omega)
theorem oplan_def (h : Pre bs ws p j u d x t k6 c n q j1 u1) (hc : ((c = 5 ∨ c = 6) ∧ ¬ (0 < j1 ∧ n ≤ 4)) ∨ (c = 7 ∧ u1 = 0)) {e : E} {q2 : Nat} (hce : DCond bs (q + 1) n e q2) : OPlan bs ws p j u ((d + 1 : Nat) : Int) (.mk 2 0 [e] [] [x]) q2 j1 u1:=by
 obtain ⟨hl,hd,h1,h2,h6,hk,hw,hn,h3,hj,hu⟩:=h
 have hf:=filterOf_own e x
 have hcc : (c = 5 ∧ 0 < j1 ∧ ¬ n ≤ 4) ∨ (c = 5 ∧ ¬ 0 < j1) ∨ (c = 6 ∧ 0 < j1 ∧ ¬ n ≤ 4) ∨ (c = 6 ∧ ¬ 0 < j1) ∨ (c = 7 ∧ u1 = 0):=by omega
 rcases hcc with ⟨rfl,hc1,hc2⟩ | ⟨rfl,hc1⟩ | ⟨rfl,hc1,hc2⟩ | ⟨rfl,hc1⟩ | ⟨rfl,rfl⟩
 all_goals
  refine Bk c_Z64 mixed 3 (go1 trivial ?_)
  refine UcR [1000001] trivial (h1) (go1 trivial ?_)
  refine UcR [1000001] trivial (h2) (go1 trivial ?_)
  refine UcR [1000000,1000001,1000002] trivial (hk) (go1 trivial ?_)
  refine UcR [1000002] trivial (hw) (go1 trivial ?_)
  refine UcR [1000001] trivial (h3) (go1 trivial ?_)
  refine UcR [1000001] trivial (hce) (go1 trivial ?_)
  refine UcR [3000001,3000002] trivial (hf) (go1 trivial ?_)
  refine fin_L [1000000,1000001,1000002,3000001,3000002] ?_ ?_ rfl ?_
  repeat' (first|(conv in hold _=>simp (disch:=omega) only [go_sem])|exact trivial|exact Sub.refl _|omega)
theorem oplan_dist (h : Pre bs ws p j u d x t k6 c n q j1 u1) (hc : c = 8) : OPlan bs ws p j u ((d + 1 : Nat) : Int) (.mk 7 0 [] [] [x]) (q + 1) j1 u1:=by
 obtain ⟨hl,hd,h1,h2,h6,hk,hw,hn,h3,hj,hu⟩:=h
 subst hc
 refine Bk c_Z64 mixed 3 (go1 trivial ?_)
 refine UcR [1000001] trivial (h1) (go1 trivial ?_)
 refine UcR [1000001] trivial (h2) (go1 trivial ?_)
 refine UcR [1000000,1000001,1000002] trivial (hk) (go1 trivial ?_)
 refine UcR [1000002] trivial (hw) (go1 trivial ?_)
 refine UcR [1000001] trivial (h3) (go1F trivial ?_)
 refine fin_wk (wk_rowO 2000004 2000098 5 2 (by decide) (by decide) (by decide) rfl rfl rfl) ?_
 (conv in hold _=>simp (disch:=omega) only [go_sem])
 refine fin_wk (wk_rowO 2000004 2000099 1 3 (by decide) (by decide) (by decide) rfl rfl rfl) ?_
 (conv in hold _=>simp (disch:=omega) only [go_sem])
 refine fin_L [1000000,1000001,1000002,2000098,2000099] ?_ ?_ rfl ?_
 repeat' (first|(conv in hold _=>simp (disch:=omega) only [go_sem])|exact trivial|exact Sub.refl _|omega)
theorem oplan_grp (h : Pre bs ws p j u d x t k6 c n q j1 u1) (hc : c = 9) (hn1 : ¬ 1 < n) : OPlan bs ws p j u ((d + 1 : Nat) : Int) (.mk 8 0 [] [] [x]) (q + 1) j1 u1:=by
 obtain ⟨hl,hd,h1,h2,h6,hk,hw,hn,h3,hj,hu⟩:=h
 subst hc
 refine Bk c_Z64 mixed 3 (go1 trivial ?_)
 refine UcR [1000001] trivial (h1) (go1 trivial ?_)
 refine UcR [1000001] trivial (h2) (go1 trivial ?_)
 refine UcR [1000000,1000001,1000002] trivial (hk) (go1 trivial ?_)
 refine UcR [1000002] trivial (hw) (go1 trivial ?_)
 refine UcR [1000001] trivial (h3) (go1F trivial ?_)
 refine fin_wk (wk_rowO 2000004 2000098 5 2 (by decide) (by decide) (by decide) rfl rfl rfl) ?_
 (conv in hold _=>simp (disch:=omega) only [go_sem])
 refine fin_wk (wk_rowO 2000004 2000099 1 3 (by decide) (by decide) (by decide) rfl rfl rfl) ?_
 (conv in hold _=>simp (disch:=omega) only [go_sem])
 refine fin_L [1000000,1000001,1000002,2000098,2000099] ?_ ?_ rfl ?_
 repeat' (first|(conv in hold _=>simp (disch:=omega) only [go_sem])|exact trivial|exact Sub.refl _|omega)
theorem oplan_grpc (h : Pre bs ws p j u d x t k6 c n q j1 u1) (hc : c = 9) (hn1 : 1 < n) {g : Int} (hg : DPick bs (q + 1) n g) : OPlan bs ws p j u ((d + 1 : Nat) : Int) (.mk 8 0 [] [g] [x]) (q + 2) j1 u1:=by
 obtain ⟨hl,hd,h1,h2,h6,hk,hw,hn,h3,hj,hu⟩:=h
 subst hc
 refine Bk c_Z64 mixed 3 (go1 trivial ?_)
 refine UcR [1000001] trivial (h1) (go1 trivial ?_)
 refine UcR [1000001] trivial (h2) (go1 trivial ?_)
 refine UcR [1000000,1000001,1000002] trivial (hk) (go1 trivial ?_)
 refine UcR [1000002] trivial (hw) (go1 trivial ?_)
 refine UcR [1000001] trivial (h3) (go1 trivial ?_)
 refine UcR [1000001] trivial (hg) (go1F trivial ?_)
 refine fin_wk (wk_rowO 2000004 2000098 5 2 (by decide) (by decide) (by decide) rfl rfl rfl) ?_
 (conv in hold _=>simp (disch:=omega) only [go_sem])
 refine fin_L [1000000,1000001,1000002,2000098,2000158] ?_ ?_ rfl ?_
 repeat' (first|(conv in hold _=>simp (disch:=omega) only [go_sem])|exact trivial|exact Sub.refl _|omega)
theorem oplan_uni (h : Pre bs ws p j u d x t k6 c n q j1 u1) (hc : c = 7) (hu1 : 0 < u1) (hsz : psz x ≤ 900000) {e : E} {q2 : Nat} (hce : DCond bs (q + 1) n e q2) : OPlan bs ws p j u ((d + 1 : Nat) : Int) (.mk 6 0 [] [] [x,.mk 2 0 [e] [] [x]]) q2 j1 (u1 - 1):=by
 obtain ⟨hl,hd,h1,h2,h6,hk,hw,hn,h3,hj,hu⟩:=h
 subst hc
 have hf:=filterOf_ok e x
 have hcp:=copyPlan_ok x hsz
 have hu2 : ((u1 - 1 : Nat) : Int) = (u1 : Int) - 1:=by omega
 refine Bk c_Z64 mixed 3 (go1 trivial ?_)
 refine UcR [1000001] trivial (h1) (go1 trivial ?_)
 refine UcR [1000001] trivial (h2) (go1 trivial ?_)
 refine UcR [1000000,1000001,1000002] trivial (hk) (go1 trivial ?_)
 refine UcR [1000002] trivial (hw) (go1 trivial ?_)
 refine UcR [1000001] trivial (h3) (go1 trivial ?_)
 refine UcR [1000001] trivial (hce) (go1 trivial ?_)
 refine Uc trivial (hcp) (go1 trivial ?_)
 refine Uc trivial (hf) (go1F trivial ?_)
 refine fin_wk (wk_rowO 2000004 2000098 5 2 (by decide) (by decide) (by decide) rfl rfl rfl) ?_
 (conv in hold _=>simp (disch:=omega) only [go_sem])
 refine fin_wk (wk_rowO 2000004 2000099 1 3 (by decide) (by decide) (by decide) rfl rfl rfl) ?_
 (conv in hold _=>simp (disch:=omega) only [go_sem])
 refine fin_L [1000000,1000001,1000002,2000098,2000099] ?_ ?_ rfl ?_
 repeat' (first|(conv in hold _=>simp (disch:=omega) only [go_sem,hu2])|exact trivial|exact Sub.refl _|omega)
theorem oplan_join (h : Pre bs ws p j u d x t k6 c n q j1 u1) (hc : c = 5 ∨ c = 6) (hj0 : 0 < j1) (hn4 : n ≤ 4) {d2 : Int} (hd2 : DPick bs (q + 1) 2 d2) {y : Pl} {q2 j2 u2 : Nat} (hy : DPlan bs ws (q + 2) (j1 - 1) u1 d2 y q2 j2 u2) {m : Int} (hm : DWid ws y m) (hm0 : 0 ≤ m ∧ m ≤ 6) (hnm : n + m ≤ 6)
  {k : Int} (hkk : Does Tryz.prog 99 [rdD bs q2] [.ref 1000000 0,.sl 1 ([4,5].map I)] (I k) [rdD bs (q2 + 1)]) {e : E} {q3 : Nat} (hce : DCond bs (q2 + 1) (n + m) e q3) : OPlan bs ws p j u ((d + 1 : Nat) : Int) (.mk k 0 [e] [] [x,y]) q3 j2 u2:=by
 obtain ⟨hl,hd,h1,h2,h6,hk,hw,hn,h3,hj,hu⟩:=h
 have hj2 : ((j1 - 1 : Nat) : Int) = (j1 : Int) - 1:=by omega
 unfold DPlan gnD at hy
 rw [hj2] at hy
 rcases hc with rfl | rfl
 all_goals
  refine Bk c_Z64 mixed 3 (go1 trivial ?_)
  refine UcR [1000001] trivial (h1) (go1 trivial ?_)
  refine UcR [1000001] trivial (h2) (go1 trivial ?_)
  refine UcR [1000000,1000001,1000002] trivial (hk) (go1 trivial ?_)
  refine UcR [1000002] trivial (hw) (go1 trivial ?_)
  refine UcR [1000001] trivial (h3) (go1 trivial ?_)
  refine UcR [1000001] trivial (hd2) (go1 trivial ?_)
  refine UcR [1000000,1000001,1000002] trivial (hy) (go1 trivial ?_)
  refine UcR [1000002] trivial (hm) (go1 trivial ?_)
  refine UcR [1000001] trivial (hkk) (go1 trivial ?_)
  refine UcR [1000001] trivial (hce) (go1F trivial ?_)
  refine fin_wk (wk_rowO 2000004 2000099 1 3 (by decide) (by decide) (by decide) rfl rfl rfl) ?_
  (conv in hold _=>simp (disch:=omega) only [go_sem])
  refine fin_L [1000000,1000001,1000002,2000117,2000099] ?_ ?_ rfl ?_
  repeat' (first|(conv in hold _=>simp (disch:=omega) only [go_sem])|exact trivial|exact Sub.refl _|omega)
theorem oplan_wide (h : Pre bs ws p j u d x t k6 c n q j1 u1) (hc : c = 5 ∨ c = 6) (hj0 : 0 < j1) (hn4 : n ≤ 4) {d2 : Int} (hd2 : DPick bs (q + 1) 2 d2) {y : Pl} {q2 j2 u2 : Nat} (hy : DPlan bs ws (q + 2) (j1 - 1) u1 d2 y q2 j2 u2) {m : Int} (hm : DWid ws y m) (hm0 : 0 ≤ m ∧ m ≤ 6) (hnm : ¬ n + m ≤ 6)
  {e : E} {q3 : Nat} (hce : DCond bs q2 n e q3) : OPlan bs ws p j u ((d + 1 : Nat) : Int) (.mk 2 0 [e] [] [x]) q3 j2 u2:=by
 obtain ⟨hl,hd,h1,h2,h6,hk,hw,hn,h3,hj,hu⟩:=h
 have hf:=filterOf_own e x
 have hj2 : ((j1 - 1 : Nat) : Int) = (j1 : Int) - 1:=by omega
 unfold DPlan gnD at hy
 rw [hj2] at hy
 rcases hc with rfl | rfl
 all_goals
  refine Bk c_Z64 mixed 3 (go1 trivial ?_)
  refine UcR [1000001] trivial (h1) (go1 trivial ?_)
  refine UcR [1000001] trivial (h2) (go1 trivial ?_)
  refine UcR [1000000,1000001,1000002] trivial (hk) (go1 trivial ?_)
  refine UcR [1000002] trivial (hw) (go1 trivial ?_)
  refine UcR [1000001] trivial (h3) (go1 trivial ?_)
  refine UcR [1000001] trivial (hd2) (go1 trivial ?_)
  refine UcR [1000000,1000001,1000002] trivial (hy) (go1 trivial ?_)
  refine UcR [1000002] trivial (hm) (go1 trivial ?_)
  refine UcR [1000001] trivial (hce) (go1 trivial ?_)
  refine UcR [3000001,3000002] trivial (hf) (go1 trivial ?_)
  refine fin_L [1000000,1000001,1000002,3000001,3000002] ?_ ?_ rfl ?_
  repeat' (first|(conv in hold _=>simp (disch:=omega) only [go_sem])|exact trivial|exact Sub.refl _|omega)
end Go.Proofs.YtefldihjbaodnaaGreat
set_option maxHeartbeats 4000000
set_option maxRecDepth 100000
set_option linter.unusedVariables false
set_option linter.unusedSimpArgs false
namespace Go.Proofs.YtefldihjbaodnaaGreat
open Go.RowKit
def boolsD (l : List Bool) : D:=.sl 1 (l.map Bo)
theorem bools_pur : ∀ l : List Bool,D.purL (l.map Bo) = true
 | []=>rfl
 | p :: l=>by rw [List.map_cons,D.purL,bools_pur l]; rfl
theorem bools_ren (L : List Nat) (l : List Bool) : D.renL L (l.map Bo) = l.map Bo:=ren_pure.renL_pure L _ (bools_pur l)
attribute [go_sem] bools_pur bools_ren boolsD
end Go.Proofs.YtefldihjbaodnaaGreat
