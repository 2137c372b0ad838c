/-
  EvalPlan of the model. No condition.
-/
import Derived.Test.YtjngffbghkafaaaGreatJSDcVWidA
import Derived.Test.YtjngffbghkafaaaGreatKSDca
import Derived.Test.YtjngffbghkafaaaGreatJSDce
import Derived.Test.YtjngffbghkafaaaGreatJSVPlanC
import Derived.Test.YtjngffbghkafaaaGreatJSVPiC
import Derived.Test.YtjngffbghkafaaaGreatJSVGo
import Derived.Test.YtjngffbghkafaaaGreatRows
import Derived.Test.YtjngffbghkafaaaGreatKSDci
import Derived.Test.YtjngffbghkafaaaGreatJSVDrawTc
import Derived.Test.YtjngffbghkafaaaGreatJSVPlanO
import Derived.Test.YtjngffbghkafaaaGreatKSDcf
import Derived.Test.YtjngffbghkafaaaGreatKSVPiK
import Derived.Test.YtjngffbghkafaaaGreatKSVPiG
set_option maxHeartbeats 4000000
set_option maxRecDepth 100000
set_option linter.unusedVariables false
set_option linter.unusedSimpArgs false
namespace Go.Proofs.YtjngffbghkafaaaGreat
open Go.RowKit
def dbOk (db : List Ta) : Prop:=∀ t,t ∈ db → tOk t
def dbWs (db : List Ta) : List Nat:=db.map (fun t=>t.w.toNat)
theorem widthsOf_t {db : List Ta} (hl : db.length ≤ 1048576) (h : dbOk db) : Does Tryz.prog 38 [] [tasD db] (intsD (natI (dbWs db))) []:=by
 have hnl : (natI (dbWs db)).length = db.length:=by unfold natI dbWs; rw [List.length_map,List.length_map]
 have htk : ((natI (dbWs db)).map I).take db.length = (natI (dbWs db)).map I:=by rw [← hnl]; exact take_all I _
 refine Bg c_Z132 mixed (go1 trivial ?_)
 refine dw_for (c:=1) (l:=fun i=>[(0,tasD db),(3,.own 1000000 1 i),(4,I i),(1000000,.row 1 (((natI (dbWs db)).take i).map I))]) db.length (fun _=>True) 0 trivial ((wk_row 3 2000090 1 (by decide) (by decide) rfl rfl).trans (Wk.list [2000090] rfl rfl ?_)) (fun i hi _=>?_) (Nat.zero_le _)
 ·repeat' (first|(conv in hold _=>simp (disch:=omega) only [go_sem])|exact trivial|exact Sub.refl _|omega)
  first | exact rfl | exact ⟨rfl,rfl⟩
 ·have htm : (((natI (dbWs db)).take i).map I).take i = ((natI (dbWs db)).take i).map I:=take_map I (by rw [hnl]; exact hi)
  have htl : ((natI (dbWs db)).take i).length = i:=take_len (by rw [hnl]; exact hi)
  rcases at_or_end hi with ⟨t,ht,hlt⟩ | rfl
  ·have hok:=h t (List.mem_of_getElem? ht)
   have hv:=validTable_ok t (tOk_sz hok)
   rw [decide_eq_true hok] at hv
   obtain ⟨w,hw,hw6,_⟩:=tOk_nat hok
   have hnx : (natI (dbWs db)).take (i + 1) = (natI (dbWs db)).take i ++ [t.w]:=take_next (by
    unfold natI dbWs
    rw [List.getElem?_map,List.getElem?_map,ht]
    show some ((t.w.toNat : Nat) : Int) = some t.w
    rw [hw]
    rfl)
   refine go1 @ht ?_
   refine Uc (cj2 @ht @htm) (hv) (go1 (cj2 @ht @htm) ?_)
   refine ⟨hlt,trivial,Wk.list [2000026] rfl rfl ?_⟩
   repeat' (first|(conv in hold _=>simp (disch:=omega) only [go_sem,hnx,htm])|exact trivial|exact Sub.refl _|omega)
   rw [List.map_append]
   rfl
  ·have e1 : (natI (dbWs db)).take db.length = natI (dbWs db):=List.take_of_length_le (by rw [hnl]; exact Nat.le_refl _)
   rw [e1]
   refine go1F trivial ?_
   refine fin_wk (wk_frz 2 1000000 (by decide) (by decide) rfl ?_) ?_
   rotate_left
   (conv in hold _=>simp (disch:=omega) only [go_sem,htk,hnl,List.length_map,Nat.le_refl])
   ·refine fin_L [] ?_ ?_ rfl ?_
    repeat' (first|(conv in hold _=>simp (disch:=omega) only [go_sem])|exact trivial|exact Sub.refl _|omega)
   ·exact ints_pur _
theorem widthsOf_f {db : List Ta} (hl : db.length ≤ 1048576) (hsz : ∀ t,t ∈ db → rsz t.rows ≤ 1048576) (h : ¬ dbOk db) : Does Tryz.prog 38 [] [tasD db] (intsD (natI [])) []:=by
 refine Bg c_Z132 mixed (go1 trivial ?_)
 refine dw_for (c:=1) (l:=fun i=>[(0,tasD db),(3,.own 1000000 1 i),(4,I i),(1000000,.row 1 (((natI (dbWs db)).take i).map I))]) db.length (fun i=>∀ (j : Nat) (t : Ta),j < i → db[j]? = some t → tOk t) 0 (fun j t hj=>by omega) ((wk_row 3 2000090 1 (by decide) (by decide) rfl rfl).trans (Wk.list [2000090] rfl rfl ?_)) (fun i hi hJ=>?_) (Nat.zero_le _)
 ·repeat' (first|(conv in hold _=>simp (disch:=omega) only [go_sem])|exact trivial|exact Sub.refl _|omega)
  first | exact rfl | exact ⟨rfl,rfl⟩
 ·have hnl : (natI (dbWs db)).length = db.length:=by unfold natI dbWs; rw [List.length_map,List.length_map]
  have htm : (((natI (dbWs db)).take i).map I).take i = ((natI (dbWs db)).take i).map I:=take_map I (by rw [hnl]; exact hi)
  have htl : ((natI (dbWs db)).take i).length = i:=take_len (by rw [hnl]; exact hi)
  rcases at_or_end hi with ⟨t,ht,hlt⟩ | rfl
  ·have hv:=validTable_ok t (hsz t (List.mem_of_getElem? ht))
   by_cases hok : tOk t
   ·rw [decide_eq_true hok] at hv
    obtain ⟨w,hw,hw6,_⟩:=tOk_nat hok
    have hnx : (natI (dbWs db)).take (i + 1) = (natI (dbWs db)).take i ++ [t.w]:=take_next (by
     unfold natI dbWs
     rw [List.getElem?_map,List.getElem?_map,ht]
     show some ((t.w.toNat : Nat) : Int) = some t.w
     rw [hw]
     rfl)
    refine go1 @ht ?_
    refine Uc (cj2 @ht @htm) (hv) (go1 (cj2 @ht @htm) ?_)
    refine ⟨hlt,fun j u hj hu=>?_,Wk.list [2000026] rfl rfl ?_⟩
    ·by_cases hji : j = i
     ·subst hji
      rw [ht] at hu
      cases hu
      exact hok
     ·exact hJ j u (by omega) hu
    ·repeat' (first|(conv in hold _=>simp (disch:=omega) only [go_sem,hnx,htm])|exact trivial|exact Sub.refl _|omega)
     rw [List.map_append]
     rfl
   ·rw [decide_eq_false hok] at hv
    refine go1 @ht ?_
    refine Uc trivial (hv) (go1 trivial ?_)
    exact Sub.nul 1
  ·refine absurd (fun t ht=>?_) h
   obtain ⟨j,hj⟩:=List.mem_iff_getElem?.1 ht
   exact hJ j t (List.getElem?_eq_some_iff.1 hj).1 hj
theorem dbW_of {db : List Ta} (h : dbOk db) (hw : wsOk (natI (dbWs db))) : DbW (dbWs db) db:=by
 refine ⟨by unfold dbWs; rw [List.length_map],fun j t w hj hjw=>?_,?_,fun w hm=>?_⟩
 ·obtain ⟨n,hn,hn6,hr,ha,hl⟩:=tOk_nat (h t (List.mem_of_getElem? hj))
  have : w = n:=by
   unfold dbWs at hjw
   rw [List.getElem?_map,hj] at hjw
   have h1 : t.w.toNat = w:=Option.some.inj hjw
   omega
  subst this
  exact ⟨hn,hr,by omega,ha⟩
 ·have:=hw.1.2
  unfold natI at this
  rw [List.length_map] at this
  exact this
 ·obtain ⟨j,hj⟩:=List.mem_iff_getElem?.1 hm
  have:=hw.2 j w (natI_of hj)
  omega
end Go.Proofs.YtjngffbghkafaaaGreat
set_option maxHeartbeats 4000000
set_option maxRecDepth 100000
set_option linter.unusedVariables false
set_option linter.unusedSimpArgs false
namespace Go.Proofs.YtjngffbghkafaaaGreat
open Go.RowKit
def smallDb (db : List Ta) : Prop:=∀ t,t ∈ db → t.rows.length ≤ 5 ∧ (∀ r,r ∈ t.rows → r.length ≤ 9) ∧ 0 ≤ t.w ∧ t.w ≤ 100
theorem smallDb.sz {db : List Ta} (h : smallDb db) : ∀ t,t ∈ db → rsz t.rows ≤ 1048576:=fun t ht=>by
 obtain ⟨h1,h2,_⟩:=h t ht
 have h3:=rsz_le t.rows h2
 have h4 : t.rows.length * (9 + 1) ≤ 5 * 10:=Nat.mul_le_mul h1 (Nat.le_refl _)
 omega
end Go.Proofs.YtjngffbghkafaaaGreat
set_option maxHeartbeats 4000000
set_option maxRecDepth 100000
set_option linter.unusedVariables false
set_option linter.unusedSimpArgs false
namespace Go.Proofs.YtjngffbghkafaaaGreat
open Go.RowKit
theorem filteredRows_p (rs : List (List V)) (t : TypeId) (d : D) (hp : d.pur = true) : Does Tryz.prog 146 [] [rowsD rs,.ifc t d] (.fn 180 [.ptr [rowsD rs],.ptr [.ifc t d]]) []:=by
 have hr:=fun L=>ren_pure L _ hp
 refine Bg c_Z54 mixed (go1F (cj2 @hp @hr) ?_)
 refine fin_wk (wk_fro 4 2000002 (by decide) (by decide) rfl ?_) ?_
 rotate_left
 (conv in hold _=>simp (disch:=omega) only [go_sem,hp,hr])
 ·refine fin_wk (wk_fro 4 2000003 (by decide) (by decide) rfl ?_) ?_
  rotate_left
  (conv in hold _=>simp (disch:=omega) only [go_sem,hp,hr])
  ·refine fin_L [] ?_ ?_ rfl ?_
   repeat' (first|(conv in hold _=>simp (disch:=omega) only [go_sem,hp,hr])|exact trivial|exact Sub.refl _|omega)
  ·simp only [go_sem,hp]
 ·rfl
def OpI (p : Pl) (kids : List Ta) (L : List (List V)) : Prop:=∃ f caps,enters Tryz.prog f = true ∧ D.purL caps = true ∧ Does Tryz.prog 94 [] [pD p,tasD kids] (.fn f caps) [] ∧ Yields Tryz.prog f caps (L.map tupR)
structure TabQ (w : Nat) (t : Ta) : Prop where
 wid : t.w = (w : Int)
 row : RsW w t.rows
 few : t.rows.length ≤ 400
theorem op_filter {p : Pl} {a : Ta} {w : Nat} {ex : E} (hk : p.k = 2) (hes : p.es = [ex]) (ha : TabQ w a) (he : eOk ex w 8) : OpI p [a] (a.rows.filter (holdsB ex)):=by
 obtain ⟨t,e0,hd,hp,h1⟩:=termOf_w he
 have h2:=filteredRows_p a.rows t e0 hp
 have hr:=fun L=>ren_pure L _ hp
 have hY:=filteredRows_yields a.rows (by have:=ha.few; omega) ha.row ex he
 rw [hd] at hY
 refine ⟨_,_,by kernel_rfl,rfl,?_,hY⟩
 refine Bg c_Z84 mixed (go1 (cj2 @hk @hes) ?_)
 refine Uc (cj4 @hk @hes @hp @hr) (h1) (go1 (cj4 @hk @hes @hp @hr) ?_)
 exact Uc (cj2 @hp @hr) (h2) (go0 (cj2 @hp @hr))
theorem op_project {p : Pl} {a : Ta} {w : Nat} (hk : p.k = 3) (ha : TabQ w a) (hl : p.es.length ≤ 1000) (hes : ∀ e,e ∈ p.es → eOk e w 8) : OpI p [a] (a.rows.map (prjR p.es)):=by
 have h2:=projectedRows_ok a.rows p.es hl hes
 have hY:=projectedRows_yields a.rows (by have:=ha.few; omega) ha.row p.es hl hes
 refine ⟨_,_,by kernel_rfl,rfl,?_,hY⟩
 refine Bg c_Z84 mixed (go1 @hk ?_)
 exact Uc trivial (h2) (go0 trivial)
theorem op_join {p : Pl} {a b : Ta} {wa wb : Nat} {ex : E} (hk : p.k = 4) (hes : p.es = [ex]) (ha : TabQ wa a) (hb : TabQ wb b) (hw0 : 0 < wb) (hw : wa + wb ≤ 6) (he : eOk ex ((wa : Int) + (wb : Int)) 8) : OpI p [a,b] (joiL false wb ex a.rows b.rows):=by
 obtain ⟨t,e0,hd,hp,h1⟩:=termOf_w (w:=wa + wb) (e:=ex) (by rw [Int.natCast_add]; exact he)
 have hr:=fun L=>ren_pure L _ hp
 have hpx:=tD_pur he
 have h1x : (tD ex).one = true:=by rw [hd]; rfl
 have hM : MatchI 150 (.agg (maD wb b.rows ex)) 185 (fun r=>[.ptr [rowD r],.ptr (maD wb b.rows ex)]) (fun r=>outL false wb ex r b.rows) a.rows:=
  ⟨by kernel_rfl,by unfold maD; rw [hd]; simp only [go_sem,hp],by kernel_rfl,fun _=>rfl,fun r hr=>matches_ok r wb b.rows ex hpx h1x,fun r hr=>by
   have:=matches_yields r (ha.row r hr) b.rows hb.row (by have:=hb.few; omega) hw0 (by omega) ex he
   exact this⟩
 have h2:=joinedRows_ok a.rows 150 (.agg (maD wb b.rows ex)) hM.pur
 have hY:=joinedRows_yields hM (by have:=ha.few; omega)
 refine ⟨_,_,by kernel_rfl,rfl,?_,hY⟩
 have hbw:=hb.wid
 refine Bg c_Z84 mixed (go1 (cj3 @hk @hes @hbw) ?_)
 refine Uc (cj5 @hk @hes @hp @hr @hbw) (h1) (go1 (cj5 @hk @hes @hp @hr @hbw) ?_)
 exact Uc (cj3 @hp @hr @hd) (h2) (go0 (cj3 @hp @hr @hd))
theorem op_left {p : Pl} {a b : Ta} {wa wb : Nat} {ex : E} (hk : p.k = 5) (hes : p.es = [ex]) (ha : TabQ wa a) (hb : TabQ wb b) (hw0 : 0 < wb) (hw : wa + wb ≤ 6) (he : eOk ex ((wa : Int) + (wb : Int)) 8) : OpI p [a,b] (joiL true wb ex a.rows b.rows):=by
 obtain ⟨t,e0,hd,hp,h1⟩:=termOf_w (w:=wa + wb) (e:=ex) (by rw [Int.natCast_add]; exact he)
 have hr:=fun L=>ren_pure L _ hp
 have hpx:=tD_pur he
 have h1x : (tD ex).one = true:=by rw [hd]; rfl
 have hM : MatchI 151 (.agg (maD wb b.rows ex)) 188 (fun r=>[.ptr (maD wb b.rows ex),.ptr [rowD r]]) (fun r=>outL true wb ex r b.rows) a.rows:=
  ⟨by kernel_rfl,by unfold maD; rw [hd]; simp only [go_sem,hp],by kernel_rfl,fun _=>rfl,fun r hr=>matchesOrNulls_ok r wb b.rows ex hpx h1x,fun r hr=>by
   have:=matchesOrNulls_yields r (ha.row r hr) b.rows hb.row (by have:=hb.few; omega) hw0 (by omega) ex he
   exact this⟩
 have h2:=joinedRows_ok a.rows 151 (.agg (maD wb b.rows ex)) hM.pur
 have hY:=joinedRows_yields hM (by have:=ha.few; omega)
 refine ⟨_,_,by kernel_rfl,rfl,?_,hY⟩
 have hbw:=hb.wid
 refine Bg c_Z84 mixed (go1 (cj3 @hk @hes @hbw) ?_)
 refine Uc (cj5 @hk @hes @hp @hr @hbw) (h1) (go1 (cj5 @hk @hes @hp @hr @hbw) ?_)
 exact Uc (cj3 @hp @hr @hd) (h2) (go0 (cj3 @hp @hr @hd))
theorem op_union {p : Pl} {a b : Ta} (hk : p.k = 6) (ha : a.rows.length ≤ 400) (hb : b.rows.length ≤ 400) : OpI p [a,b] (a.rows ++ b.rows):=by
 have h1:=concatR_own a.rows b.rows (by omega)
 have h2:=Values_rows (a.rows ++ b.rows)
 have hY:=values_rows (a.rows ++ b.rows) (by rw [List.length_append]; omega)
 have htk : ((a.rows ++ b.rows).map rowD).take (a.rows.length + b.rows.length) = (a.rows ++ b.rows).map rowD:=by rw [← List.length_append]; exact take_all rowD _
 have hll : (a.rows ++ b.rows).length = a.rows.length + b.rows.length:=List.length_append
 refine ⟨_,_,by kernel_rfl,rfl,?_,hY⟩
 refine Bg c_Z84 mixed (go1C @hk ?_)
 refine go1 @hk ?_
 refine UcR [3000001] trivial (h1) (go1C trivial ?_)
 refine s_pre (pre_frz (t:=73) (g:=3000001) (by decide) (by decide) rfl ?_) ?_
 rotate_left
 refine go1 (cj2 @htk @hll) ?_
 ·exact Uc trivial (h2) (go0 trivial)
 ·exact rows_pur _
theorem op_distinct {p : Pl} {a : Ta} {w : Nat} (hk : p.k = 7) (ha : TabQ w a) (hw : w < 1000) : OpI p [a] (dstQ a.rows):=by
 have h2:=distinctRows_p a.rows
 have hY:=distinctRows_yields hw a.rows ha.row ha.few
 refine ⟨_,_,by kernel_rfl,rfl,?_,hY⟩
 refine Bg c_Z84 mixed (go1 @hk ?_)
 exact Uc trivial (h2) (go0 trivial)
theorem op_group {p : Pl} {a : Ta} {w : Nat} (hk : p.k = 8) (ha : TabQ w a) (hw : w < 1000) (hl : p.cs.length ≤ 900) (hc : ∀ c,c ∈ p.cs → 0 ≤ c ∧ c < w) : OpI p [a] (grpQ p.cs a.rows):=by
 have h2:=groupedRows_ok a.rows p.cs
 have hY:=groupedRows_yields hw a.rows ha.row ha.few p.cs hl hc
 refine ⟨_,_,by kernel_rfl,rfl,?_,hY⟩
 refine Bg c_Z84 mixed (go1 @hk ?_)
 exact Uc trivial (h2) (go0 trivial)
end Go.Proofs.YtjngffbghkafaaaGreat
