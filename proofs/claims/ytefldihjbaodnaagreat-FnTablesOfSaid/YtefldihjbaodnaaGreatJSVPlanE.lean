/-
  The operators of plans, as the program evaluates them. No condition.
-/
import Derived.Test.YtefldihjbaodnaaGreatKSDca
import Derived.Test.YtefldihjbaodnaaGreatKSDcf
import Derived.Test.YtefldihjbaodnaaGreatKSVPiK
import Derived.Test.YtefldihjbaodnaaGreatKSVPiG
import Derived.Test.YtefldihjbaodnaaGreatJSVPlanQ
import Derived.Test.YtefldihjbaodnaaGreatJSVGo
import Derived.Test.YtefldihjbaodnaaGreatKSDch
import Derived.Test.YtefldihjbaodnaaGreatJSVPlanD
set_option maxHeartbeats 4000000
set_option maxRecDepth 100000
set_option linter.unusedVariables false
set_option linter.unusedSimpArgs false
namespace Go.Proofs.YtefldihjbaodnaaGreat
open Go.RowKit
theorem filteredRows_p (rs : List (List V)) (t : TypeId) (d : D) (hp : d.pur = true) : Does Tryz.prog 112 [] [rowsD rs,.ifc t d] (.fn 155 [.ptr [rowsD rs],.ptr [.ifc t d]]) []:=by
 have hr:=fun L=>ren_pure L _ hp
 refine Bg c_Z57 mixed (go1F (cj2 @hp @hr) ?_)
 refine fin_wk (wk_fro 4 2000002 (by decide) (by decide) rfl ?_) ?_
 rotate_left
 (conv in hold _=>simp (disch:=omega) only [go_sem,hp,hr])
 ·refine fin_wk (wk_fro 4 2000003 (by decide) (by decide) rfl ?_) ?_
  rotate_left
  (conv in hold _=>simp (disch:=omega) only [go_sem,hp,hr])
  ·refine fin_L [] ?_ ?_ rfl ?_
   repeat' (first|(conv in hold _=>simp (disch:=omega) only [go_sem,hp,hr])|exact trivial|exact Sub.refl _|omega)
  ·simp only [go_sem,hp]
 ·rfl
def OpI (p : Pl) (kids : List Ta) (L : List (List V)) : Prop:=∃ f caps,enters Tryz.prog f = true ∧ D.purL caps = true ∧ Does Tryz.prog 67 [] [pD p,tasD kids] (.fn f caps) [] ∧ Yields Tryz.prog f caps (L.map tupR)
structure TabQ (w : Nat) (t : Ta) : Prop where
 wid : t.w = (w : Int)
 row : RsW w t.rows
 few : t.rows.length ≤ 400
theorem op_filter {p : Pl} {a : Ta} {w : Nat} {ex : E} (hk : p.k = 2) (hes : p.es = [ex]) (ha : TabQ w a) (he : eOk ex w 8) : OpI p [a] (a.rows.filter (holdsB ex)):=by
 obtain ⟨t,e0,hd,hp,h1⟩:=termOf_w he
 have h2:=filteredRows_p a.rows t e0 hp
 have hr:=fun L=>ren_pure L _ hp
 have hY:=filteredRows_yields a.rows (by have:=ha.few; omega) ha.row ex he
 rw [hd] at hY
 refine ⟨_,_,by kernel_rfl,rfl,?_,hY⟩
 refine Bg c_Z95 mixed (go1 (cj2 @hk @hes) ?_)
 refine Uc (cj4 @hk @hes @hp @hr) (h1) (go1 (cj4 @hk @hes @hp @hr) ?_)
 exact Uc (cj2 @hp @hr) (h2) (go0 (cj2 @hp @hr))
theorem op_project {p : Pl} {a : Ta} {w : Nat} (hk : p.k = 3) (ha : TabQ w a) (hl : p.es.length ≤ 1000) (hes : ∀ e,e ∈ p.es → eOk e w 8) : OpI p [a] (a.rows.map (prjR p.es)):=by
 have h2:=projectedRows_ok a.rows p.es hl hes
 have hY:=projectedRows_yields a.rows (by have:=ha.few; omega) ha.row p.es hl hes
 refine ⟨_,_,by kernel_rfl,rfl,?_,hY⟩
 refine Bg c_Z95 mixed (go1 @hk ?_)
 exact Uc trivial (h2) (go0 trivial)
theorem op_join {p : Pl} {a b : Ta} {wa wb : Nat} {ex : E} (hk : p.k = 4) (hes : p.es = [ex]) (ha : TabQ wa a) (hb : TabQ wb b) (hw0 : 0 < wb) (hw : wa + wb ≤ 6) (he : eOk ex ((wa : Int) + (wb : Int)) 8) : OpI p [a,b] (joiL false wb ex a.rows b.rows):=by
 obtain ⟨t,e0,hd,hp,h1⟩:=termOf_w (w:=wa + wb) (e:=ex) (by rw [Int.natCast_add]; exact he)
 have hr:=fun L=>ren_pure L _ hp
 have hpx:=tD_pur he
 have h1x : (tD ex).one = true:=by rw [hd]; rfl
 have hM : MatchI 116 (.agg (maD wb b.rows ex)) 160 (fun r=>[.ptr [rowD r],.ptr (maD wb b.rows ex)]) (fun r=>outL false wb ex r b.rows) a.rows:=
  ⟨by kernel_rfl,by unfold maD; rw [hd]; simp only [go_sem,hp],by kernel_rfl,fun _=>rfl,fun r hr=>matches_ok r wb b.rows ex hpx h1x,fun r hr=>by
   have:=matches_yields r (ha.row r hr) b.rows hb.row (by have:=hb.few; omega) hw0 (by omega) ex he
   exact this⟩
 have h2:=joinedRows_ok a.rows 116 (.agg (maD wb b.rows ex)) hM.pur
 have hY:=joinedRows_yields hM (by have:=ha.few; omega)
 refine ⟨_,_,by kernel_rfl,rfl,?_,hY⟩
 have hbw:=hb.wid
 refine Bg c_Z95 mixed (go1 (cj3 @hk @hes @hbw) ?_)
 refine Uc (cj5 @hk @hes @hp @hr @hbw) (h1) (go1 (cj5 @hk @hes @hp @hr @hbw) ?_)
 exact Uc (cj3 @hp @hr @hd) (h2) (go0 (cj3 @hp @hr @hd))
theorem op_left {p : Pl} {a b : Ta} {wa wb : Nat} {ex : E} (hk : p.k = 5) (hes : p.es = [ex]) (ha : TabQ wa a) (hb : TabQ wb b) (hw0 : 0 < wb) (hw : wa + wb ≤ 6) (he : eOk ex ((wa : Int) + (wb : Int)) 8) : OpI p [a,b] (joiL true wb ex a.rows b.rows):=by
 obtain ⟨t,e0,hd,hp,h1⟩:=termOf_w (w:=wa + wb) (e:=ex) (by rw [Int.natCast_add]; exact he)
 have hr:=fun L=>ren_pure L _ hp
 have hpx:=tD_pur he
 have h1x : (tD ex).one = true:=by rw [hd]; rfl
 have hM : MatchI 117 (.agg (maD wb b.rows ex)) 163 (fun r=>[.ptr (maD wb b.rows ex),.ptr [rowD r]]) (fun r=>outL true wb ex r b.rows) a.rows:=
  ⟨by kernel_rfl,by unfold maD; rw [hd]; simp only [go_sem,hp],by kernel_rfl,fun _=>rfl,fun r hr=>matchesOrNulls_ok r wb b.rows ex hpx h1x,fun r hr=>by
   have:=matchesOrNulls_yields r (ha.row r hr) b.rows hb.row (by have:=hb.few; omega) hw0 (by omega) ex he
   exact this⟩
 have h2:=joinedRows_ok a.rows 117 (.agg (maD wb b.rows ex)) hM.pur
 have hY:=joinedRows_yields hM (by have:=ha.few; omega)
 refine ⟨_,_,by kernel_rfl,rfl,?_,hY⟩
 have hbw:=hb.wid
 refine Bg c_Z95 mixed (go1 (cj3 @hk @hes @hbw) ?_)
 refine Uc (cj5 @hk @hes @hp @hr @hbw) (h1) (go1 (cj5 @hk @hes @hp @hr @hbw) ?_)
 exact Uc (cj3 @hp @hr @hd) (h2) (go0 (cj3 @hp @hr @hd))
theorem op_union {p : Pl} {a b : Ta} (hk : p.k = 6) (ha : a.rows.length ≤ 400) (hb : b.rows.length ≤ 400) : OpI p [a,b] (a.rows ++ b.rows):=by
 have h1:=concatR_own a.rows b.rows (by omega)
 have h2:=Values_rows (a.rows ++ b.rows)
 have hY:=values_rows (a.rows ++ b.rows) (by rw [List.length_append]; omega)
 have htk : ((a.rows ++ b.rows).map rowD).take (a.rows.length + b.rows.length) = (a.rows ++ b.rows).map rowD:=by rw [← List.length_append]; exact take_all rowD _
 have hll : (a.rows ++ b.rows).length = a.rows.length + b.rows.length:=List.length_append
 refine ⟨_,_,by kernel_rfl,rfl,?_,hY⟩
 refine Bg c_Z95 mixed (go1C @hk ?_)
 refine go1 @hk ?_
 refine UcR [3000001] trivial (h1) (go1C trivial ?_)
 refine s_pre (pre_frz (t:=73) (g:=3000001) (by decide) (by decide) rfl ?_) ?_
 rotate_left
 refine go1 (cj2 @htk @hll) ?_
 ·exact Uc trivial (h2) (go0 trivial)
 ·exact rows_pur _
theorem op_distinct {p : Pl} {a : Ta} {w : Nat} (hk : p.k = 7) (ha : TabQ w a) (hw : w < 1000) : OpI p [a] (dstQ a.rows):=by
 have h2:=distinctRows_p a.rows
 have hY:=distinctRows_yields hw a.rows ha.row ha.few
 refine ⟨_,_,by kernel_rfl,rfl,?_,hY⟩
 refine Bg c_Z95 mixed (go1 @hk ?_)
 exact Uc trivial (h2) (go0 trivial)
theorem op_group {p : Pl} {a : Ta} {w : Nat} (hk : p.k = 8) (ha : TabQ w a) (hw : w < 1000) (hl : p.cs.length ≤ 900) (hc : ∀ c,c ∈ p.cs → 0 ≤ c ∧ c < w) : OpI p [a] (grpQ p.cs a.rows):=by
 have h2:=groupedRows_ok a.rows p.cs
 have hY:=groupedRows_yields hw a.rows ha.row ha.few p.cs hl hc
 refine ⟨_,_,by kernel_rfl,rfl,?_,hY⟩
 refine Bg c_Z95 mixed (go1 @hk ?_)
 exact Uc trivial (h2) (go0 trivial)
end Go.Proofs.YtefldihjbaodnaaGreat
set_option maxHeartbeats 4000000
set_option maxRecDepth 100000
set_option linter.unusedVariables false
set_option linter.unusedSimpArgs false
namespace Go.Proofs.YtefldihjbaodnaaGreat
open Go.RowKit
theorem es_pur (es : List E) : D.purL (es.map eD) = true:=exprs_pur es
theorem take_allL {α : Type} (f : α → D) (l : List α) {n : Nat} (h : n = l.length) : (l.map f).take n = l.map f:=List.take_of_length_le (by rw [List.length_map]; omega)
theorem rb_kind {x : Pl} {v : Int} (hv : v ∈ [(0 : Int),9,1,4]) (h : rb x ≤ 60) (h6 : x.k = 6 → x.es = []) (hf : fields (.mk v x.t x.es x.cs x.ks)) : rb (.mk v x.t x.es x.cs x.ks) ≤ 60:=by
 rw [rb_eq] at h ⊢
 show rbF v (rbL x.ks) ≤ 60
 obtain ⟨f1,f2,_,_,f5,_⟩:=hf
 change 1 ≤ v ∧ v ≤ 8 at f1
 change v = 1 → x.ks.length = 0 at f2
 change v = 2 ∨ v = 4 ∨ v = 5 → x.es.length = 1 at f5
 simp only [List.mem_cons,List.not_mem_nil,or_false] at hv
 rcases hv with rfl | rfl | rfl | rfl
 ·omega
 ·omega
 ·rw [List.length_eq_zero_iff.1 (f2 rfl)]
  decide
 ·have hk : x.k ≠ 6:=fun hk=>by
   have:=f5 (Or.inr (Or.inl rfl))
   rw [h6 hk] at this
   cases this
  generalize rbL x.ks = l at h ⊢
  match l with
  | []=>decide
  | [a]=>exact h
  | a :: b :: _=>
   have h' : (if x.k = 6 then a + b else a * (b + 1)) ≤ 60:=h
   rw [if_neg hk] at h'
   show (if (4 : Int) = 6 then a + b else a * (b + 1)) ≤ 60
   rw [if_neg (by decide)]
   exact h'
theorem anyPlan_ok {bs : List Nat} (hs : Src bs) {ws : List Int} (hw : wsOk ws) (p : Nat) (hp : p < 90000000) : ∃ (x : Pl) (q : Nat),Does Tryz.prog 58 [rdD bs p,wrD ws] [.ref 1000000 0,.own 1000001 1 ws.length] (pD x) [rdD bs q,wrD ws] ∧ p ≤ q ∧ q ≤ p + 23000 ∧ psz x ≤ 11100 ∧ (fields x → rb x ≤ 60):=by
 obtain ⟨x,q,hx,hq0,hq1,hz,hrb,h66⟩:=randomPlan_own hs hw p (by omega)
 obtain ⟨k,hk,k0,k1,_⟩:=pick_ok hs q (by omega) 18 (by omega)
 have t1:=take_allL eD x.es rfl
 have t2:=take_allL I x.cs rfl
 rw [psz_eq] at hz
 by_cases hk0 : k = 0
 ·obtain ⟨v,hv,hvm⟩:=one_ok hs (q + 1) (by omega) [0,9,1,4] (by decide) (by decide)
  refine ⟨.mk v x.t x.es x.cs x.ks,q + 2,?_,by omega,by omega,by rw [psz_eq]; exact Nat.le_trans hz (by omega),fun hf=>rb_kind hvm hrb h66 hf⟩
  refine Bk c_Z161 mixed 2 (go1F trivial ?_)
  refine UcR [1000000,1000001,3000001,3000002] trivial (hx) (go1F trivial ?_)
  refine UcR [1000000] trivial (hk) (go1F trivial ?_)
  refine UcR [1000000] trivial (hv) (go1F trivial ?_)
  refine fin_wk (wk_frzO 2000004 3000001 (by decide) (by decide) rfl (by decide) rfl ?_) ?_
  rotate_left
  (conv in hold _=>simp (disch:=omega) only [go_sem,t1,Nat.le_refl])
  refine fin_wk (wk_frzO 2000004 3000002 (by decide) (by decide) rfl (by decide) rfl ?_) ?_
  rotate_left
  (conv in hold _=>simp (disch:=omega) only [go_sem,t2,Nat.le_refl])
  all_goals first
   | exact es_pur _
   | exact ints_pur _
   | skip
  refine fin_L [1000000,1000001] ?_ ?_ rfl ?_
  repeat' (first|(conv in hold _=>simp (disch:=omega) only [go_sem])|exact trivial|exact Sub.refl _|omega)
 by_cases hk1 : k = 1
 ·obtain ⟨v,hv,_⟩:=one_ok hs (q + 1) (by omega) [-1,4,1] (by decide) (by decide)
  refine ⟨.mk x.k v x.es x.cs x.ks,q + 2,?_,by omega,by omega,by rw [psz_eq]; exact Nat.le_trans hz (by omega),fun _=>by rw [rb_eq] at hrb ⊢; exact hrb⟩
  refine Bk c_Z161 mixed 2 (go1F trivial ?_)
  refine UcR [1000000,1000001,3000001,3000002] trivial (hx) (go1F trivial ?_)
  refine UcR [1000000] trivial (hk) (go1F trivial ?_)
  refine UcR [1000000] trivial (hv) (go1F trivial ?_)
  refine fin_wk (wk_frzO 2000004 3000001 (by decide) (by decide) rfl (by decide) rfl ?_) ?_
  rotate_left
  (conv in hold _=>simp (disch:=omega) only [go_sem,t1,Nat.le_refl])
  refine fin_wk (wk_frzO 2000004 3000002 (by decide) (by decide) rfl (by decide) rfl ?_) ?_
  rotate_left
  (conv in hold _=>simp (disch:=omega) only [go_sem,t2,Nat.le_refl])
  all_goals first
   | exact es_pur _
   | exact ints_pur _
   | skip
  refine fin_L [1000000,1000001] ?_ ?_ rfl ?_
  repeat' (first|(conv in hold _=>simp (disch:=omega) only [go_sem])|exact trivial|exact Sub.refl _|omega)
 by_cases hk2 : k = 2
 ·obtain ⟨v,hv,_⟩:=one_ok hs (q + 1) (by omega) [0,9] (by decide) (by decide)
  have t4 : (x.cs.map I ++ [I v]) = (x.cs ++ [v]).map I:=by rw [List.map_append]; rfl
  have t5 : ((x.cs ++ [v]).map I).take (x.cs.length + 1) = (x.cs ++ [v]).map I:=take_allL I _ (by rw [List.length_append]; rfl)
  refine ⟨.mk x.k x.t x.es (x.cs ++ [v]) x.ks,q + 2,?_,by omega,by omega,?_,fun _=>by rw [rb_eq] at hrb ⊢; exact hrb⟩
  ·refine Bk c_Z161 mixed 2 (go1F trivial ?_)
   refine UcR [1000000,1000001,3000001,3000002] trivial (hx) (go1F trivial ?_)
   refine UcR [1000000] trivial (hk) (go1F trivial ?_)
   refine UcR [1000000] @t2 (hv) (go1F @t2 ?_)
   refine fin_wk (wk_frzO 2000004 3000001 (by decide) (by decide) rfl (by decide) rfl ?_) ?_
   rotate_left
   (conv in hold _=>simp (disch:=omega) only [go_sem,t1,Nat.le_refl])
   refine fin_wk (wk_frzO 2000004 2000031 (by decide) (by decide) rfl (by decide) rfl ?_) ?_
   rotate_left
   (conv in hold _=>simp (disch:=omega) only [go_sem,t2,t4,t5,Nat.le_refl])
   all_goals first
    | exact es_pur _
    | exact ints_pur _
    | (show D.purL (x.cs.map I ++ [I v]) = true; rw [t4]; exact ints_pur _)
    | skip
   refine fin_L [1000000,1000001] ?_ ?_ rfl ?_
   repeat' (first|(conv in hold _=>simp (disch:=omega) only [go_sem])|exact trivial|exact Sub.refl _|omega)
  ·rw [psz_eq]
   show eszL x.es + (x.cs ++ [v]).length + pszL x.ks ≤ _
   rw [List.length_append,List.length_singleton]
   omega
 by_cases hk3 : k = 3
 ·have hel:=eszL_len x.es
  obtain ⟨e,q2,hae,he0,he1,hez⟩:=anyExpr_ok hs 2 (by omega) (q + 1) (by omega)
  have t4 : (x.es.map eD ++ [.agg [I e.k,I e.c,Bo e.v.b,I e.v.n,.sl 5 (e.ks.map eD)]]) = (x.es ++ [e]).map eD:=by rw [← eD_eq,List.map_append]; rfl
  have t5 : ((x.es ++ [e]).map eD).take (x.es.length + 1) = (x.es ++ [e]).map eD:=take_allL eD _ (by rw [List.length_append]; rfl)
  refine ⟨.mk x.k x.t (x.es ++ [e]) x.cs x.ks,q2,?_,by omega,by omega,?_,fun _=>by rw [rb_eq] at hrb ⊢; exact hrb⟩
  ·refine Bk c_Z161 mixed 2 (go1F trivial ?_)
   refine UcR [1000000,1000001,3000001,3000002] trivial (hx) (go1F trivial ?_)
   refine UcR [1000000] trivial (hk) (go1F trivial ?_)
   refine UcR [1000000] @t1 (hae) (go1F @t1 ?_)
   refine fin_wk (wk_frzO 2000004 2000040 (by decide) (by decide) rfl (by decide) rfl ?_) ?_
   rotate_left
   (conv in hold _=>simp (disch:=omega) only [go_sem,t1,t4,t5,Nat.le_refl])
   refine fin_wk (wk_frzO 2000004 3000002 (by decide) (by decide) rfl (by decide) rfl ?_) ?_
   rotate_left
   (conv in hold _=>simp (disch:=omega) only [go_sem,t2,Nat.le_refl])
   all_goals first
    | exact es_pur _
    | exact ints_pur _
    | (rw [t4]; exact es_pur _)
    | skip
   refine fin_L [1000000,1000001] ?_ ?_ rfl ?_
   repeat' (first|(conv in hold _=>simp (disch:=omega) only [go_sem])|exact trivial|exact Sub.refl _|omega)
  ·rw [psz_eq]
   show eszL (x.es ++ [e]) + x.cs.length + pszL x.ks ≤ _
   rw [eszL_append,eszL_1]
   omega
 ·refine ⟨x,q + 1,?_,by omega,by omega,by rw [psz_eq]; omega,fun _=>hrb⟩
  refine Bk c_Z161 mixed 2 (go1F trivial ?_)
  refine UcR [1000000,1000001,3000001,3000002] trivial (hx) (go1F trivial ?_)
  refine UcR [1000000] trivial (hk) (go1F trivial ?_)
  refine fin_wk (wk_frzO 2000004 3000001 (by decide) (by decide) rfl (by decide) rfl ?_) ?_
  rotate_left
  (conv in hold _=>simp (disch:=omega) only [go_sem,t1,Nat.le_refl])
  refine fin_wk (wk_frzO 2000004 3000002 (by decide) (by decide) rfl (by decide) rfl ?_) ?_
  rotate_left
  (conv in hold _=>simp (disch:=omega) only [go_sem,t2,Nat.le_refl])
  all_goals first
   | exact es_pur _
   | exact ints_pur _
   | skip
  refine fin_L [1000000,1000001] ?_ ?_ rfl ?_
  repeat' (first|(conv in hold _=>simp (disch:=omega) only [go_sem])|exact trivial|exact Sub.refl _|omega)
end Go.Proofs.YtefldihjbaodnaaGreat
