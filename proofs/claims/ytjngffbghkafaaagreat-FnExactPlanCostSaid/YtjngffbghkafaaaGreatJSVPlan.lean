/-
  Distinct rows and unions of the model. No condition.
-/
import Derived.Test.YtjngffbghkafaaaGreatKSDca
import Derived.Test.YtjngffbghkafaaaGreatKSDcf
import Derived.Test.YtjngffbghkafaaaGreatJSVPiD
import Derived.Test.YtjngffbghkafaaaGreatJSVGo
import Derived.Test.YtjngffbghkafaaaGreatJSDcVWidA
import Derived.Test.YtjngffbghkafaaaGreatRows
import Derived.Test.YtjngffbghkafaaaGreatJSDce
import Derived.Test.YtjngffbghkafaaaGreatJSVEqT
import Derived.Test.YtjngffbghkafaaaGreatJSVPl
import Derived.Test.YtjngffbghkafaaaGreatJSDcVWidD
import Derived.Test.YtjngffbghkafaaaGreatJSVSzW
set_option maxHeartbeats 4000000
set_option maxRecDepth 100000
set_option linter.unusedVariables false
set_option linter.unusedSimpArgs false
namespace Go.Proofs.YtjngffbghkafaaaGreat
open Go.RowKit
theorem union_ok {w : Nat} (hw : w < 1000) (ra rb : List (List V)) (hla : ra.length ≤ 400) (hlb : rb.length ≤ 400) (ha : RsW w ra) (hb : RsW w rb) (wb : Int) :
  Does Tryz.prog 102 [] [taD ⟨w,ra⟩,taD ⟨wb,rb⟩] (taD (tabT w (ra ++ rb))) []:=by
 have h4:=tableOf_tab w w hw (ra ++ rb) (by rw [List.length_append]; omega) (fun r hr=>(List.mem_append.1 hr).elim (ha r) (hb r))
 have e1:=take_all rowD ra
 have e2:=take_all rowD rb
 have e3 : (ra.map rowD ++ rb.map rowD).take (ra.length + rb.length) = (ra ++ rb).map rowD:=by rw [List.map_append]; exact List.take_of_length_le (by rw [List.length_append,List.length_map,List.length_map]; exact Nat.le_refl _)
 refine Bg c_Z130 mixed (go1C trivial ?_)
 refine s_pre (pre_frz (t:=13) (g:=2000013) (by decide) (by decide) rfl ?_) ?_
 rotate_left
 refine go1 (cj3 @e1 @e2 @e3) ?_
 refine c_doesE (h4) ?_ ?_ ?_
 ·((try (conv=>rhs;simp (disch:=omega) only [go_sem])); try rfl)
 ·first|rfl|(conv=>lhs;simp only [go_sem])
 repeat' (first|with_reducible refine acc_none ?_ | (conv in hold _=>simp (disch:=omega) only [go_sem])|refine Stp.go ?_|(with_reducible first|refine it_pos rfl ?_|refine it_neg (by decide) ?_|refine st_nil rfl ?_|refine s_op ?_ ?_|exact trivial)|((with_reducible first|refine dw_reg0 ?_|refine dw_regB ?_);(conv=>arg 3;whnf))|(refine Spl.go (fun hq he=>?_) (fun hq he=>?_)<;>first|(exfalso;clear hq;omega)|((try first|(conv=>arg 8;simp only [hq])|(conv=>arg 4;simp only [hq]));clear hq))|((with_reducible first|refine c_split (fun hq=>?_) (fun hq=>?_)|refine q_split (fun hq=>?_) (fun hq=>?_))<;>(try first|(conv=>arg 8;simp only [hq])|(conv=>arg 4;simp only [hq])))|(with_reducible refine fin_0 ?_ (by first|rfl|(conv=>lhs;simp only [go_sem])) ?_)|exact Sub.refl _|omega)
 ·exact (by rw [← List.map_append]; exact rows_pur _)
def dstP (rs : List (List V)) (i : Nat) : Bool:=match i with
 | 0=>true
 | j + 1=>!(cmpR (rs.getD j []) (rs.getD (j + 1) []) == 0)
def dstL (rs : List (List V)) : Nat → List (List V)
 | 0=>[]
 | i + 1=>dstL rs i ++ (if dstP rs i = true then [rs.getD i []] else [])
theorem dstL_sub (rs : List (List V)) : ∀ i,i ≤ rs.length → (dstL rs i).Sublist (rs.take i)
 | 0,_=>List.Sublist.refl _
 | i + 1,hi=>by
  obtain ⟨x,hx⟩ : ∃ x,rs[i]? = some x:=⟨_,List.getElem?_eq_getElem (by omega)⟩
  rw [take_next hx,dstL]
  refine (dstL_sub rs i (by omega)).append ?_
  split
  ·rw [List.getD_eq_getElem?_getD,hx]
   exact List.Sublist.refl _
  ·exact List.nil_sublist _
theorem distinctRows_ok {w : Nat} (hw : w < 1000) (rs : List (List V)) (hl : rs.length ≤ 400) (hs : RsW w rs) : Does Tryz.prog 103 [] [taD ⟨w,rs⟩] (taD ⟨w,dstL rs rs.length⟩) []:=by
 have hcap : ∀ i,i ≤ rs.length → (dstL rs i).length ≤ i:=fun i hi=>by
  have:=(dstL_sub rs i hi).length_le
  rw [List.length_take] at this
  omega
 have htk : ((dstL rs rs.length).map rowD).take (dstL rs rs.length).length = (dstL rs rs.length).map rowD:=take_all rowD _
 have hres : taD ⟨w,dstL rs rs.length⟩ = .agg [I w,rowsD (dstL rs rs.length)]:=rfl
 rw [hres]
 refine Bg c_Z62 mixed (go1 trivial ?_)
 refine dw_for (c:=4) (l:=fun i=>[(1,.ref 1000000 0),(2,.ref 1000001 0),(3,.ref 1000002 0),(4,I i),(1000000,.obj [I w,rowsD rs]),(1000001,.obj [I 0,.nul]),(1000002,.obj [I w,.own 1000003 1 (dstL rs i).length]),(1000003,.row 1 ((dstL rs i).map rowD))]) rs.length (fun _=>True) 0 trivial ((wk_rowO 2000003 2000090 1 1 (by decide) (by decide) (by decide) rfl rfl rfl).trans (Wk.list [2000001,2000002,2000003,2000090] rfl rfl ?_)) (fun i hi _=>?_) (Nat.zero_le _)
 ·repeat' (first|(conv in hold _=>simp (disch:=omega) only [go_sem])|exact trivial|exact Sub.refl _|omega)
  first | exact rfl | exact ⟨rfl,rfl⟩ | exact ⟨rfl,rfl,rfl⟩
 ·have hcp:=hcap i hi
  have htm : ((dstL rs i).map rowD).take (dstL rs i).length = (dstL rs i).map rowD:=take_all rowD _
  rcases at_or_end hi with ⟨x,hx,hlt⟩ | rfl
  ·have hxr:=hs x (List.mem_of_getElem? hx)
   have hcp2:=copyRow_ok x (by omega)
   have hgx : rs.getD i [] = x:=by rw [List.getD_eq_getElem?_getD,hx]; rfl
   have hnx : dstL rs (i + 1) = dstL rs i ++ (if dstP rs i = true then [x] else []):=by rw [dstL,hgx]
   generalize dstL rs i = Q at hcp htm hnx
   by_cases hi0 : i = 0
   ·subst hi0
    have hnx : dstL rs (0 + 1) = Q ++ [x]:=hnx
    refine go1 @hx ?_
    refine Uc (cj2 @hx @htm) (hcp2) (go1 (cj2 @hx @htm) ?_)
    refine ⟨hlt,trivial,Wk.list [1000000,1000001,1000002,2000041] rfl rfl ?_⟩
    repeat' (first|(conv in hold _=>simp (disch:=omega) only [go_sem,hnx,htm])|exact trivial|exact Sub.refl _|omega)
    rw [List.map_append]
    rfl
   ·obtain ⟨j,hj⟩ : ∃ j,i = j + 1:=⟨i - 1,by omega⟩
    obtain ⟨y,hy⟩ : ∃ y,rs[j]? = some y:=⟨_,List.getElem?_eq_getElem (by omega)⟩
    have hyr:=hs y (List.mem_of_getElem? hy)
    have hcr:=compareRows_spec y x (by omega) (by omega)
    have hgy : rs.getD j [] = y:=by rw [List.getD_eq_getElem?_getD,hy]; rfl
    have hp : dstP rs i = !(cmpR y x == 0):=by
     rw [hj] at hgx ⊢
     rw [dstP,hgy,hgx]
    have hj0 : ((i : Int) == 0) = false:=beq_eq_false_iff_ne.2 (by omega)
    have hj1 : ((i : Int) - 1) = (j : Int):=by omega
    rw [hp] at hnx
    by_cases hc : cmpR y x = 0
    ·rw [hc] at hcr hnx
     have hnx : dstL rs (i + 1) = Q:=by rw [hnx]; exact List.append_nil Q
     refine go1 (cj4 @hx @hy @hj0 @hj1) ?_
     refine Uc (cj2 @hx @hy) (hcr) (go1 (cj2 @hx @hy) ?_)
     refine ⟨hlt,trivial,Wk.list [1000000,1000001,1000002,1000003] rfl rfl ?_⟩
     repeat' (first|(conv in hold _=>simp (disch:=omega) only [go_sem,hnx])|exact trivial|exact Sub.refl _|omega)
    ·have hc2 : (cmpR y x == 0) = false:=beq_eq_false_iff_ne.2 hc
     have hc3 : (cmpR y x != 0) = true:=by rw [bne_iff_ne]; exact hc
     rw [hc2] at hnx
     have hnx : dstL rs (i + 1) = Q ++ [x]:=hnx
     refine go1 (cj4 @hx @hy @hj0 @hj1) ?_
     refine Uc (cj3 @hx @hy @hc3) (hcr) (go1 (cj3 @hx @hy @hc3) ?_)
     refine Uc (cj3 @hx @hy @htm) (hcp2) (go1 (cj3 @hx @hy @htm) ?_)
     refine ⟨hlt,trivial,Wk.list [1000000,1000001,1000002,2000041] rfl rfl ?_⟩
     repeat' (first|(conv in hold _=>simp (disch:=omega) only [go_sem,hnx,htm])|exact trivial|exact Sub.refl _|omega)
     rw [List.map_append]
     rfl
  ·refine go1F trivial ?_
   refine fin_wk (wk_frzO 1000001 1000003 (by decide) (by decide) rfl (by decide) rfl ?_) ?_
   rotate_left
   (conv in hold _=>simp (disch:=omega) only [go_sem,htk,List.length_map,Nat.le_refl])
   ·refine fin_L [] ?_ ?_ rfl ?_
    repeat' (first|(conv in hold _=>simp (disch:=omega) only [go_sem])|exact trivial|exact Sub.refl _|omega)
   ·exact rows_pur _
end Go.Proofs.YtjngffbghkafaaaGreat
set_option maxHeartbeats 4000000
set_option maxRecDepth 100000
set_option linter.unusedVariables false
set_option linter.unusedSimpArgs false
namespace Go.Proofs.YtjngffbghkafaaaGreat
open Go.RowKit
inductive FineE (ws : List Int) : Pl → Prop
 | mk {p : Pl} (hf : fields p) (hs : p.k = 1 → 0 ≤ p.t ∧ p.t ≤ (ws.length : Int) - 1) (he : ∀ e,e ∈ p.es → ∃ w : Int,eOk e w 8)
   (hfil : p.k = 2 → ∀ x e,p.ks[0]? = some x → p.es[0]? = some e → x.k = 1 → eOk e (scanV ws x.t) 8) (hk : ∀ x,x ∈ p.ks → FineE ws x) : FineE ws p
theorem FineE.fields {ws : List Int} {p : Pl} (h : FineE ws p) : fields p:=by cases h with | mk h _ _ _ _=>exact h
theorem FineE.scan {ws : List Int} {p : Pl} (h : FineE ws p) : p.k = 1 → 0 ≤ p.t ∧ p.t ≤ (ws.length : Int) - 1:=by cases h with | mk _ h _ _ _=>exact h
theorem FineE.expr {ws : List Int} {p : Pl} (h : FineE ws p) : ∀ e,e ∈ p.es → ∃ w : Int,eOk e w 8:=by cases h with | mk _ _ h _ _=>exact h
theorem FineE.fil {ws : List Int} {p : Pl} (h : FineE ws p) : p.k = 2 → ∀ x e,p.ks[0]? = some x → p.es[0]? = some e → x.k = 1 → eOk e (scanV ws x.t) 8:=by cases h with | mk _ _ _ h _=>exact h
theorem FineE.kid {ws : List Int} {p x : Pl} (h : FineE ws p) (hx : x ∈ p.ks) : FineE ws x:=by cases h with | mk _ _ _ _ h=>exact h x hx
end Go.Proofs.YtjngffbghkafaaaGreat
set_option maxHeartbeats 4000000
set_option maxRecDepth 100000
set_option linter.unusedVariables false
set_option linter.unusedSimpArgs false
namespace Go.Proofs.YtjngffbghkafaaaGreat
open Go.RowKit
def gnD (ws : List Int) (j u : Nat) : D:=.obj [.ref 1000001 0,.own 1000002 1 ws.length,I j,I u]
def wrD (ws : List Int) : D:=.row 1 (ws.map I)
attribute [go_sem] gnD wrD
abbrev DPlan (bs : List Nat) (ws : List Int) (p j u : Nat) (d : Int) (x : Pl) (q j' u' : Nat) : Prop:=
 Does Tryz.prog 174 [gnD ws j u,rdD bs p,wrD ws] [.ref 1000000 0,I d] (pD x) [gnD ws j' u',rdD bs q,wrD ws]
abbrev DPick (bs : List Nat) (p : Nat) (n v : Int) : Prop:=Does Tryz.prog 90 [rdD bs p] [.ref 1000000 0,I n] (I v) [rdD bs (p + 1)]
abbrev DWid (ws : List Int) (x : Pl) (n : Int) : Prop:=Does Tryz.prog 77 [wrD ws] [pD x,.own 1000000 1 ws.length,I 8] (I n) [wrD ws]
structure Pre (bs : List Nat) (ws : List Int) (p j u d : Nat) (x : Pl) (t k6 c n : Int) (q j1 u1 : Nat) : Prop where
 hl : ws.length ≤ 10
 hd : d ≤ 100
 h1 : DPick bs p ws.length t
 h2 : DPick bs (p + 1) 6 k6
 h6 : k6 ≠ 0
 hk : DPlan bs ws (p + 2) j u d x q j1 u1
 hw : DWid ws x n
 hn : 0 ≤ n ∧ n ≤ 6
 h3 : DPick bs q 10 c
 hj : j1 ≤ 1
 hu : u1 ≤ 1
variable {bs : List Nat} {ws : List Int} {p j u d : Nat} {x : Pl} {t k6 c n : Int} {q j1 u1 : Nat}
end Go.Proofs.YtjngffbghkafaaaGreat
