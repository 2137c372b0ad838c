/-
 Plans that are duplicate-free have no duplicates. No condition.
-/
import Derived.Test.YtepkimfmncedcaaGreatJSVCplE
import Derived.Test.YtepkimfmncedcaaGreatJSDcVWid
import Derived.Test.YtepkimfmncedcaaGreatKSDca
import Derived.Test.YtepkimfmncedcaaGreatKSDcj
import Derived.Test.YtepkimfmncedcaaGreatJSVDfF
import Derived.Test.YtepkimfmncedcaaGreatJSVWidF
import Derived.Test.YtepkimfmncedcaaGreatJSVGo
import Derived.Test.YtepkimfmncedcaaGreatJSDcWDfP
import Derived.Test.YtepkimfmncedcaaGreatJSVEvS
import Derived.Test.YtepkimfmncedcaaGreatJSVLaw
import Derived.Test.YtepkimfmncedcaaGreatJSVPiP
import Derived.Test.YtepkimfmncedcaaGreatKSVCmp
set_option maxHeartbeats 4000000
set_option maxRecDepth 100000
set_option linter.unusedVariables false
set_option linter.unusedSimpArgs false
namespace Go.Proofs.YtepkimfmncedcaaGreat
open Go.RowKit
theorem AscS.nodup {l : List (List V)} (h : AscS l) : l.Nodup:=List.Pairwise.imp (fun {a b} h he=>by
 rw [he,cmpR_self] at h
 exact absurd h (by decide)) h
theorem asc_tab {w : Nat} (x : Int) {l : List (List V)} (hr : RsW w l) (hn : l.Nodup) : AscS (tabT x l).rows:=by
 by_cases h : l.length ≤ 400
 ·rw [tabT_s h]
  exact ascS_of (srt_asc hr) ((srt_perm l).nodup_iff.2 hn)
 ·rw [tabT_n h]
  exact List.Pairwise.nil
theorem nodup_map {α β : Type} {f : α → β} {l : List α} (hn : l.Nodup) (hf : ∀ a b,a ∈ l → b ∈ l → f a = f b → a = b) : (l.map f).Nodup:=
 List.pairwise_map.2 (List.Pairwise.imp_of_mem (fun {a b} ha hb h he=>h (hf a b ha hb he)) hn)
theorem prj_inj {n : Nat} {es : List E} (hc : ∀ c : Nat,c < n → ∃ e,e ∈ es ∧ e.k = 1 ∧ e.c = (c : Int)) {r s : List V} (hr : r.length = n) (hs : s.length = n) (h : prjR es r = prjR es s) : r = s:=by
 apply List.ext_getElem?
 intro c
 by_cases hcn : c < n
 ·obtain ⟨e,he,hk,hec⟩:=hc c hcn
  obtain ⟨i,hi⟩:=List.mem_iff_getElem?.1 he
  obtain ⟨u,hu⟩ : ∃ u,r[c]? = some u:=⟨_,List.getElem?_eq_getElem (by omega)⟩
  obtain ⟨v,hv⟩ : ∃ v,s[c]? = some v:=⟨_,List.getElem?_eq_getElem (by omega)⟩
  have h1 : ev e r = u:=ev_col hk (by rw [hec]; exact hu)
  have h2 : ev e s = v:=ev_col hk (by rw [hec]; exact hv)
  have h3:=congrArg (fun l : List V=>l[i]?) h
  unfold prjR at h3
  simp only [List.getElem?_map,hi,Option.map_some] at h3
  rw [h1,h2] at h3
  rw [hu,hv]
  exact h3
 ·rw [List.getElem?_eq_none (by omega),List.getElem?_eq_none (by omega)]
theorem out_in {o : Bool} {n : Nat} {e : E} {r x : List V} {rb : List (List V)} (h : x ∈ outL o n e r rb) : x.take r.length = r:=by
 cases o with
 | true=>exact out_head h
 | false=>exact out_head ((mt_out n e r rb).subset h)
theorem joi_nodup {wa : Nat} {o : Bool} {n : Nat} {e : E} {ra rb : List (List V)} (ha : ∀ r,r ∈ ra → r.length = wa) (na : ra.Nodup) (nb : rb.Nodup) : (joiL o n e ra rb).Nodup:=by
 unfold joiL
 refine List.pairwise_flatMap.2 ⟨fun r hr=>?_,List.Pairwise.imp_of_mem (fun {a b} ma mb hab x hx y hy he=>hab ?_) na⟩
 ·unfold outL
  split
  ·exact List.pairwise_singleton ..
  ·unfold mtL
   exact (nodup_map nb (fun a b _ _ h=>List.append_cancel_left h)).sublist List.filter_sublist
 ·have h1:=out_in hx
  have h2:=out_in hy
  rw [ha a ma] at h1
  rw [ha b mb] at h2
  rw [← h1,← h2,he]
theorem grp_nodupG {n : Nat} {rs : List (List V)} (cs : List Int) : (grpL cs rs).Nodup:=by
 have h:=groK_all cs rs
 have hk : (grpL cs rs).map (fun r=>r.take cs.length) = (groG cs rs).1:=by
  unfold grpL
  refine zip_fstR _ _ _ _ (fun a ha b=>?_) h.same
  obtain ⟨r,_,rfl⟩:=(h.mem a).1 ha
  have hl : (pkR cs r).length = cs.length:=List.length_map _
  rw [← hl]
  exact List.take_left ..
 have h1:=h.one
 rw [← hk] at h1
 exact List.Pairwise.imp (fun {a b} h he=>h (congrArg (fun r : List V=>r.take cs.length) he)) (List.pairwise_map.1 h1)
theorem dup_sem {db : List Ta} {p : Pl} (hf : fitB db p) (h1 : p.k = 1 → ∀ t,db[p.t.toNat]? = some t → AscS t.rows) (h6 : p.k ≠ 6) (hkid : p.k = 2 ∨ p.k = 3 ∨ p.k = 4 ∨ p.k = 5 → ∀ x,x ∈ p.ks → AscS (evP db x).rows)
  (h3 : p.k = 3 → ∀ (x0 : Pl) (n : Nat),p.ks[0]? = some x0 → PV (natI (dbWs db)) x0 = (n : Int) → ∀ c : Nat,c < n → ∃ e,e ∈ p.es ∧ e.k = 1 ∧ e.c = (c : Int)) : AscS (evP db p).rows:=by
 obtain ⟨n,hn,hwt,hd,hT⟩:=fit_wt hf
 cases hwt with
 | @scan _ j w hk ht hw hks=>
  rw [evP_0 hks]
  unfold opT
  rw [if_pos hk,ht,Int.toNat_natCast,List.getD_eq_getElem?_getD]
  cases hj : db[j]? with
  | none=>exact List.Pairwise.nil
  | some t=>exact h1 hk t (by rw [ht,Int.toNat_natCast]; exact hj)
 | @filter _ q w e hk hks hes hq he=>
  have hq2:=(evalPlan_ok hd hq).1
  have ha:=hkid (Or.inl hk) q (by rw [hks]; exact List.mem_cons_self ..)
  rw [evP_1 hks]
  unfold opT
  rw [if_neg (by omega),if_pos hk,(fi_tab hq2 _).1]
  exact List.Pairwise.sublist List.filter_sublist ha
 | @project _ q w hk hks hq hes hl=>
  have hq2:=(evalPlan_ok hd hq).1
  have ha:=hkid (Or.inr (Or.inl hk)) q (by rw [hks]; exact List.mem_cons_self ..)
  obtain ⟨m,hm,_,_,hTm⟩:=fit_wt (fit_kid hf (x:=q) (by rw [hks]; exact List.mem_cons_self ..))
  have hc:=h3 hk q m (by rw [hks]; rfl) hm
  rw [evP_1 hks]
  unfold opT
  rw [if_neg (by omega),if_neg (by omega),if_pos hk]
  exact asc_tab _ (rsw_prj hq2.row hes) (nodup_map ha.nodup (fun r s hr hs h=>prj_inj hc (hTm.row r hr).1 (hTm.row s hs).1 h))
 | @join _ q r wa wb e hk hks hes hq hr he hw=>
  have hq2:=(evalPlan_ok hd hq).1
  have hr2:=(evalPlan_ok hd hr).1
  have ha:=hkid (by omega) q (by rw [hks]; exact List.mem_cons_self ..)
  have hb:=hkid (by omega) r (by rw [hks]; exact List.mem_cons_of_mem _ (List.mem_cons_self ..))
  rw [evP_2 hks]
  unfold opT
  rw [if_neg (by omega),if_neg (by omega),if_neg (by omega),if_pos hk]
  have hwb : (evP db r).w.toNat = wb:=by rw [hr2.wid]; rfl
  rw [hwb]
  exact asc_tab _ (rsw_joi hq2.row hr2.row _ _) (joi_nodup (fun r hr=>(hq2.row r hr).1) ha.nodup hb.nodup)
 | @union _ q r w hk hks hq hr=>exact absurd hk h6
 | @distinct _ q w hk hks hq=>
  have hq2:=(evalPlan_ok hd hq).1
  rw [evP_1 hks]
  unfold opT
  rw [if_neg (by omega),if_neg (by omega),if_neg (by omega),if_neg (by omega),if_neg (by omega),if_pos hk]
  exact (dst_ascS hq2.row hq2.asc).1
 | @group _ q w hk hks hq hc hl=>
  have hq2:=(evalPlan_ok hd hq).1
  rw [evP_1 hks]
  unfold opT
  rw [if_neg (by omega),if_neg (by omega),if_neg (by omega),if_neg (by omega),if_neg (by omega),if_neg (by omega)]
  exact asc_tab _ (grp_rsw hq2.row hq2.few hc) (grp_nodupG (n:=w) p.cs)
end Go.Proofs.YtepkimfmncedcaaGreat
set_option maxHeartbeats 4000000
set_option maxRecDepth 100000
set_option linter.unusedVariables false
set_option linter.unusedSimpArgs false
namespace Go.Proofs.YtepkimfmncedcaaGreat
open Go.RowKit
def Sem (db : List Ta) (p : Pl) (b : Bool) : Prop:=b = true → fitB db p → AscS (evP db p).rows
theorem keeps_at {es : List E} {n : Nat} (h : keepsI es n = true) {c : Nat} (hc : c < n) : ∃ e,e ∈ es ∧ e.k = 1 ∧ e.c = (c : Int):=by
 unfold keepsI at h
 have h1:=List.all_eq_true.1 h c (List.mem_range.2 hc)
 unfold hasC at h1
 obtain ⟨e,he,h2⟩:=List.any_eq_true.1 h1
 unfold colX at h2
 rw [Bool.and_eq_true,beq_iff_eq,beq_iff_eq] at h2
 exact ⟨e,he,h2.1,h2.2⟩
theorem all_at {q : List Bool} (h : q.all id = true) {i : Nat} {c : Bool} (hi : q[i]? = some c) : c = true:=List.all_eq_true.1 h c (List.mem_of_getElem? hi)
theorem sem_step {db : List Ta} {p : Pl} {sets : List Bool} {kp : Bool} {q : List Bool} (hl : q.length = p.ks.length) (hq : ∀ (i : Nat) (x : Pl) (c : Bool),p.ks[i]? = some x → q[i]? = some c → Sem db x c) (hsets : ∀ (j : Nat) (t : Ta),db[j]? = some t → sets.getD j false = true → AscS t.rows)
  (hkp : p.k = 3 → kp = true → ∀ (x0 : Pl) (n : Nat),p.ks[0]? = some x0 → PV (natI (dbWs db)) x0 = (n : Int) → keepsI p.es n = true) : Sem db p (dfK sets p.k p.t kp q):=by
 intro hb hf
 unfold dfK at hb
 have hfl:=PV_ok hf.2
 have hkids : q.all id = true → ∀ x,x ∈ p.ks → AscS (evP db x).rows:=fun ha x hx=>by
  obtain ⟨i,hi⟩:=List.mem_iff_getElem?.1 hx
  obtain ⟨c,hc⟩ : ∃ c,q[i]? = some c:=⟨_,List.getElem?_eq_getElem (by have:=(List.getElem?_eq_some_iff.1 hi).1; omega)⟩
  exact hq i x c hi hc (all_at ha hc) (fit_kid hf hx)
 refine dup_sem hf (fun hk t ht=>?_) (fun hk=>?_) (fun hk x hx=>?_) (fun hk x0 n hx0 hn c hc=>?_)
 ·rw [if_pos hk] at hb
  exact hsets _ t ht hb
 ·rw [if_neg (by omega),if_pos hk] at hb
  cases hb
 ·rw [if_neg (by omega),if_neg (by omega),if_neg (by omega)] at hb
  by_cases h3 : p.k = 3
  ·rw [if_pos h3,Bool.and_eq_true] at hb
   obtain ⟨i,hi⟩:=List.mem_iff_getElem?.1 hx
   have hfd:=wd_fields (by have:=hf.2; rw [PV_t hfl] at this; exact this)
   have h1 : p.ks.length = 1:=by unfold fields at hfd; omega
   obtain rfl : i = 0:=by have:=(List.getElem?_eq_some_iff.1 hi).1; omega
   obtain ⟨c,hc⟩ : ∃ c,q[0]? = some c:=⟨_,List.getElem?_eq_getElem (by omega)⟩
   have h2:=hb.1
   rw [List.getD_eq_getElem?_getD,hc] at h2
   exact hq 0 x c hi hc h2 (fit_kid hf hx)
  ·rw [if_neg h3] at hb
   exact hkids hb x hx
 ·rw [if_neg (by omega),if_neg (by omega),if_neg (by omega),if_pos hk,Bool.and_eq_true] at hb
  exact keeps_at (hkp hk hb.2 x0 n hx0 hn) hc
theorem dup_all {db : List Ta} {sets : List Bool} (hsl : sets.length = (natI (dbWs db)).length) (hsets : ∀ (j : Nat) (t : Ta),db[j]? = some t → sets.getD j false = true → AscS t.rows) (hw : wsOk (natI (dbWs db))) :
  ∀ p : Pl,Fine (natI (dbWs db)).length p → psz p ≤ 1048576 → ∃ b : Bool,(Does Tryz.prog 51 [] [pD p,intsD (natI (dbWs db)),boolsD sets] (Bo b) [] ∧
   Does Tryz.prog 92 [.obj [dfV (natI (dbWs db)) sets]] [pD p,.fn 93 [.ref 1000000 0]] (Bo b) [.obj [dfV (natI (dbWs db)) sets]]) ∧ Sem db p b:=by
 generalize hws : natI (dbWs db) = ws at hsl hw
 refine Pl.indA (fun p ih hp hs=>?_)
 have hs0:=hs
 rw [psz_eq] at hs
 have hlen:=pszL_len p.ks
 have hel:=eszL_len p.es
 have hf:=hp.fields
 have hsc : p.k = 1 → 0 ≤ p.t ∧ p.t ≤ (sets.length : Int) - 1:=fun h=>by rw [hsl]; exact hp.scan h
 obtain ⟨q,hl,hq⟩:=list_of (P:=fun (x : Pl) (b : Bool)=>(Does Tryz.prog 51 [] [pD x,intsD ws,boolsD sets] (Bo b) [] ∧ Does Tryz.prog 92 [.obj [dfV ws sets]] [pD x,.fn 93 [.ref 1000000 0]] (Bo b) [.obj [dfV ws sets]]) ∧ Sem db x b) p.ks (fun x hx=>ih x hx (hp.kid hx) (by have:=pszL_mem hx; omega))
 have hsem : ∀ kp,(p.k = 3 → kp = true → ∀ (x0 : Pl) (n : Nat),p.ks[0]? = some x0 → PV (natI (dbWs db)) x0 = (n : Int) → keepsI p.es n = true) → Sem db p (dfK sets p.k p.t kp q):=fun kp h=>sem_step hl (fun i x c hx hc=>(hq i x c hx hc).2) hsets h
 by_cases h3 : p.k = 3
 ·obtain ⟨x0,hx0⟩ : ∃ x,p.ks[0]? = some x:=⟨_,List.getElem?_eq_getElem (by unfold fields at hf; omega)⟩
  have hm0:=List.mem_of_getElem? hx0
  obtain ⟨hn,hA,hB⟩:=width_fn hw x0 (by have:=pszL_mem hm0; omega) 8 (by decide)
  have h2:=validWidths_impl ws (by have:=hw.1; omega)
  rw [decide_eq_true hw] at h2
  have hPW : Does Tryz.prog 28 [] [pD x0,intsD ws] (I (wdV ws x0 8)) []:=by
   refine Bg c_Z129 mixed (go1 trivial ?_)
   refine Uc trivial (h2) (go1 trivial ?_)
   exact Uc trivial (hB) (go0 trivial)
  refine ⟨dfK sets p.k p.t (keepsI p.es (wdV ws x0 8).toNat) q,⟨?_,?_⟩,hsem _ (fun _ hk x n hx hn2=>?_)⟩
  ·exact specB_step ws sets p hf (by omega) hsc _ _ hn (fun _ x hx=>by rw [hx0] at hx; cases hx; exact ⟨hA,keepsAll_ok p.es (by omega) _ hn⟩) q hl (fun i x c hx hc=>(hq i x c hx hc).1.1)
  ·exact foldB_step ws sets p hs0 q hl _ (fun i x c hx hc=>(hq i x c hx hc).1.2) (partB_ok ws sets p hf hsc _ (fun _ a=>u_project ws sets p (by omega) x0 hx0 _ hn hPW a) hl)
  ·rw [hx0] at hx
   cases hx
   rw [hws,PV_t hw] at hn2
   rw [hn2] at hk
   exact hk
 ·refine ⟨dfK sets p.k p.t false q,⟨?_,?_⟩,hsem _ (fun h=>absurd h h3)⟩
  ·exact specB_step ws sets p hf (by omega) hsc _ 0 (by decide) (fun h=>absurd h h3) q hl (fun i x c hx hc=>(hq i x c hx hc).1.1)
  ·exact foldB_step ws sets p hs0 q hl _ (fun i x c hx hc=>(hq i x c hx hc).1.2) (partB_ok ws sets p hf hsc _ (fun h=>absurd h h3) hl)
theorem fine_ofD {ws : List Int} : ∀ p : Pl,FineE ws p → Fine ws.length p:=by
 refine Pl.indA (fun p ih h=>.mk h.fields h.scan (fun x hx=>ih x hx (h.kid hx)))
theorem wd_fineN {ws : List Int} (p : Pl) (d : Nat) (h : wdV ws p d ≠ 0) : Fine ws.length p:=fine_ofD p (wd_fine p d h)
theorem IsDuplicateFree_fit {db : List Ta} {p : Pl} (hf : fitB db p) (hs : psz p ≤ 1048576) {sets : List Bool} (hsl : sets.length = (natI (dbWs db)).length) (hl : (natI (dbWs db)).length ≤ 1048576) (hsets : ∀ (j : Nat) (t : Ta),db[j]? = some t → sets.getD j false = true → AscS t.rows) :
  ∃ b : Bool,Does Tryz.prog 22 [] [pD p,intsD (natI (dbWs db)),boolsD sets] (Bo b) [] ∧ Does Tryz.prog 21 [] [pD p,intsD (natI (dbWs db)),boolsD sets] (Bo b) [] ∧ Sem db p b:=by
 have hw:=PV_ok hf.2
 obtain ⟨_,h1,h2⟩:=PlanWidth_fn p hs (natI (dbWs db)) hl
 have hne:=hf.2
 have hfine : Fine (natI (dbWs db)).length p:=wd_fineN p 8 (by rw [← PV_t hw]; exact hne)
 obtain ⟨b,⟨r1,r2⟩,hsem⟩:=dup_all hsl hsets hw p hfine hs
 generalize natI (dbWs db) = ws at *
 generalize PV ws p = w at *
 have e0 : (w == 0) = false:=beq_eq_false_iff_ne.2 hne
 have e1 : ((sets.length : Int) != (ws.length : Int)) = false:=by rw [bne_eq_false_iff_eq]; omega
 have e2 : ((sets.length : Int) == (ws.length : Int)) = true:=by rw [beq_iff_eq]; omega
 have r3 : Does Tryz.prog 50 [] [pD p,dfV ws sets] (Bo b) []:=by
  refine Bg c_Z27 mixed (go1 trivial ?_)
  exact UcR [2000003] trivial (r2) (go0 trivial)
 refine ⟨b,?_,?_,hsem⟩
 ·refine Bg c_Z53 mixed (go1 trivial ?_)
  refine Uc @e2 (h1) (go1 @e2 ?_)
  exact Uc trivial (r1) (go0 trivial)
 ·refine Bg c_Z44 mixed (go1 trivial ?_)
  refine Uc (cj2 @e0 @e1) (h2) (go1 (cj2 @e0 @e1) ?_)
  exact Uc trivial (r3) (go0 trivial)
end Go.Proofs.YtepkimfmncedcaaGreat
set_option maxHeartbeats 4000000
set_option maxRecDepth 100000
set_option linter.unusedVariables false
set_option linter.unusedSimpArgs false
namespace Go.Proofs.YtepkimfmncedcaaGreat
open Go.RowKit
def setsOf (db : List Ta) : List Bool:=db.map (fun t=>((dstL t.rows t.rows.length).length : Int) == (t.rows.length : Int))
theorem setsOf_at {db : List Ta} {i : Nat} {t : Ta} (h : db[i]? = some t) : (setsOf db)[i]? = some (((dstL t.rows t.rows.length).length : Int) == (t.rows.length : Int)):=by
 unfold setsOf
 rw [List.getElem?_map,h]
 rfl
theorem sets_sem {db : List Ta} (hok : dbOk db) : ∀ (j : Nat) (t : Ta),db[j]? = some t → (setsOf db).getD j false = true → AscS t.rows:=fun j t ht h=>by
 rw [List.getD_eq_getElem?_getD,setsOf_at ht] at h
 have h1 : ((dstL t.rows t.rows.length).length : Int) = (t.rows.length : Int):=by simpa using h
 obtain ⟨w,_,_,hr,ha,_⟩:=tOk_nat (hok t (List.mem_of_getElem? ht))
 have h2:=dstL_sub t.rows t.rows.length (Nat.le_refl _)
 rw [List.take_length] at h2
 have h3:=h2.eq_of_length (by omega)
 have h4:=(dst_ascS hr ha).1
 rw [h3] at h4
 exact h4
theorem dst_of_asc {w : Nat} {rs : List (List V)} (hr : RsW w rs) (ha : AscS rs) : dstL rs rs.length = rs:=by
 obtain ⟨h1,h2⟩:=dst_ascS hr ha.asc
 exact ascS_unique hr h1 ha h2
theorem does_FnIsDuplicateFree (bs : List Nat) (hb : ∀ b,b ∈ bs → b < 256) : Does Tryz.prog 6 [] [bytesD bs] (Bo true) []:=by
 by_cases hlen : bs.length ≤ 1048576
 ·obtain ⟨x,db,hd,hz,hdl,hsm,hrb⟩:=DrawEvalPlan_ok bs hb
  obtain ⟨h1,h2⟩:=EvalPlan_fn x (by omega) db (by omega) hsm.sz
  have h3:=equalTables_same (EP db x) (EP_small db x)
  by_cases hf : fitB db x
  ·obtain ⟨n,hn,hwt,hdw,hT⟩:=fit_wt hf
   have hn6:=hwt.pos hdw.wid
   have hcl : (setsOf db).length = db.length:=List.length_map _
   have hnl : (natI (dbWs db)).length = db.length:=by unfold natI dbWs; rw [List.length_map,List.length_map]
   have kw:=widthsOf_m (db:=db) (by omega) hf.1
   obtain ⟨b,kb1,kb2,hsem⟩:=IsDuplicateFree_fit hf (by omega) (sets:=setsOf db) (by rw [hcl,hnl]) (by omega) (sets_sem hf.1)
   rw [EO_t hf] at h1 h2
   rw [EP_t hf] at h1 h2 h3
   have hte:=hT.eta
   have hok : tOk (evP db x):=by rw [hte]; exact tOk_of hn6 hT.few hT.row hT.asc
   have kd:=DistinctRows_impl_t hok
   have hend : b = true → (dstL (evP db x).rows (evP db x).rows.length).length = (evP db x).rows.length:=fun h=>by rw [dst_of_asc hT.row (hsem h hf)]
   generalize dstL (evP db x).rows (evP db x).rows.length = ds at kd hend
   generalize (evP db x).rows = rs at hte hend
   rw [hte] at h1 h2 h3 kd
   have htk : ((setsOf db).map Bo).take db.length = (setsOf db).map Bo:=by rw [← hcl]; exact take_all Bo _
   have hat:=fun (i : Nat) (t : Ta) (h : db[i]? = some t)=>setsOf_at h
   have hdr:=fun (i : Nat) (t : Ta) (h : db[i]? = some t)=>DistinctRows_impl_t (hf.1 t (List.mem_of_getElem? h))
   generalize setsOf db = cn at *
   refine Bg c_Z38 mixed (go1 @bytesD.eq_1 ?_)
   refine Uc @bytesD.eq_1 (hd) (go1 @bytesD.eq_1 ?_)
   refine Uc @bytesD.eq_1 (h1) (go1 @bytesD.eq_1 ?_)
   refine Uc @bytesD.eq_1 (h2) (go1 @bytesD.eq_1 ?_)
   refine Uc @bytesD.eq_1 (h3) (go1 @bytesD.eq_1 ?_)
   refine dw_for (c:=3) (l:=fun i=>[(3,.ref 1000000 0),(4,tasD db),(5,.ref 1000001 0),(9,.own 1000002 1 i),(10,I i),(1000000,.obj [I x.k,I x.t,.sl 5 (x.es.map eD),intsD x.cs,.sl 5 (x.ks.map pD)]),(1000001,.obj [I n,rowsD rs]),(1000002,.row 1 ((cn.take i).map Bo))]) db.length (fun _=>True) 0 trivial ((wk_row 9 2000090 1 (by decide) (by decide) rfl rfl).trans (Wk.list [2000003,2000005,2000090] rfl rfl ?_)) (fun i hi _=>?_) (Nat.zero_le _)
   ·repeat' (first|(conv in hold _=>simp (disch:=omega) only [go_sem,bytesD,List.length_map,beq_self_eq_true,bne_self_eq_false])|exact trivial|exact Sub.refl _|omega)
    (repeat' apply And.intro) <;> rfl
   ·have htm : ((cn.take i).map Bo).take i = (cn.take i).map Bo:=take_map Bo (by omega)
    have htl : (cn.take i).length = i:=take_len (by omega)
    rcases at_or_end hi with ⟨t,ht,hlt⟩ | rfl
    ·have hnx:=take_next (hat i t ht)
     have hdi:=hdr i t ht
     generalize dstL t.rows t.rows.length = dt at hnx hdi
     refine go1 (cj3 @bytesD.eq_1 @ht @htm) ?_
     refine Uc (cj3 @bytesD.eq_1 @ht @htm) (hdi) (go1 (cj3 @bytesD.eq_1 @ht @htm) ?_)
     refine ⟨hlt,trivial,Wk.list [1000000,1000001,2000084] rfl rfl ?_⟩
     repeat' (first|(conv in hold _=>simp (disch:=omega) only [go_sem,bytesD,List.length_map,beq_self_eq_true,bne_self_eq_false,hnx,htm,List.length_map,htl])|exact trivial|exact Sub.refl _|omega)
     rw [List.map_append]
     rfl
    ·have e1 : cn.take db.length = cn:=List.take_of_length_le (by omega)
     rw [e1]
     refine go1R @bytesD.eq_1 ?_
     (with_reducible first | refine dw_reg0 ?_ | refine dw_regB ?_)
     conv=>arg 3; whnf
     refine Stp.go ?_
     refine s_pre (pre_frz (t:=9) (g:=1000002) (by decide) (by decide) rfl ?_) ?_
     rotate_left
     refine go1 (cj3 @bytesD.eq_1 @htk @hcl) ?_
     ·cases b with
      | true=>
       have hend2 : ((ds.length : Int) == (rs.length : Int)) = true:=by rw [hend rfl]; exact beq_self_eq_true _
       refine Uc @bytesD.eq_1 (kw) (go1 @bytesD.eq_1 ?_)
       refine Uc @bytesD.eq_1 (kb2) (go1 @bytesD.eq_1 ?_)
       refine Uc @bytesD.eq_1 (kd) (go1 @bytesD.eq_1 ?_)
       refine Uc @bytesD.eq_1 (kw) (go1 @bytesD.eq_1 ?_)
       exact Uc (cj2 @bytesD.eq_1 @hend2) (kb1) (go0 (cj2 @bytesD.eq_1 @hend2))
      | false=>
       refine Uc @bytesD.eq_1 (kw) (go1 @bytesD.eq_1 ?_)
       refine Uc @bytesD.eq_1 (kb2) (go1 @bytesD.eq_1 ?_)
       refine Uc @bytesD.eq_1 (kd) (go1 @bytesD.eq_1 ?_)
       refine Uc @bytesD.eq_1 (kw) (go1 @bytesD.eq_1 ?_)
       exact Uc @bytesD.eq_1 (kb1) (go0 @bytesD.eq_1)
     ·exact bools_pur _
  ·rw [EO_f hf] at h1 h2
   refine Bg c_Z38 mixed (go1 @bytesD.eq_1 ?_)
   refine Uc @bytesD.eq_1 (hd) (go1 @bytesD.eq_1 ?_)
   refine Uc @bytesD.eq_1 (h1) (go1 @bytesD.eq_1 ?_)
   refine Uc @bytesD.eq_1 (h2) (go1 @bytesD.eq_1 ?_)
   refine Uc @bytesD.eq_1 (h3) (go1 @bytesD.eq_1 ?_)
   exact Uc @bytesD.eq_1 (h3) (go0 @bytesD.eq_1)
 ·exact Bg c_Z38 mixed (go0 @bytesD.eq_1)
theorem walk_FnIsDuplicateFree (a : Option Addr) (len cap : Nat) (zs : List Int) (w : World) (h : IsRow .u8 w a len cap zs) :
  Calls Tryz.prog 6 #[.slice a len cap] w fun e W'=>e = .returned (.bool true) ∧ Below w.heap.size w W':=walk_of does_FnIsDuplicateFree a len cap zs w h
end Go.Proofs.YtepkimfmncedcaaGreat
namespace Go.Proofs.YtepkimfmncedcaaGreat.fnIsDuplicateFree
open Go.ChangeShapes Go.WideShapes Go.ChangeAt Go.RowKit Go.Joins
set_option linter.unusedVariables false
set_option maxHeartbeats 4000000
set_option maxRecDepth 100000 in
theorem lifted (os : Os) (started : os.Started) (H : Type) (enc : TypeId × Value → H) :
  ReturnsInHanded {} Tryz.checked os 6 .any (Rows.fnIsDuplicateFreeSpec.pre6 enc Tryz.prog Tryz.f6 Rows.fnIsDuplicateFreeRow.domain false) (Rows.fnIsDuplicateFreeSpec.post enc Tryz.prog Tryz.f6 false true false false):=by
 refine returnsInHanded_of_change (C:=Tryz.checked) own started (by kernel_rfl) Tryz.func6
  (ChangeSpec.witness6 (enc:=enc) (C:=Tryz.checked) false ⟨#[],#[.slice none 0 0],[]⟩ 8 (by kernel_rfl) (by kernel_rfl) (by kernel_rfl) (by kernel_rfl)) ?_
 intro W base args ds gs before hval0 hW hcnd _
 have hval : ∀ (j : Nat) t v,Tryz.f6.params[j]? = some t → args[j]? = some v → Value.okWide Tryz.prog W .any base t v:=hval0
 have hW':=hW
 obtain ⟨p,q,hA0,hV,rfl,hfz,hnd⟩:=hW
 have hA : DataW.TrodAll enc Tryz.prog W 0 (fun _=>true) true Tryz.f6.params.toList args.toList ds p:=hA0
 rw [Tryz.params6] at hA hval
 obtain ⟨v0,vs0,d0,ds0,p0,q0,hargs,rfl,rfl,h0,r0⟩:=trodAll_cons hA
 obtain ⟨rfl,rfl,rfl⟩:=trodAll_nil r0
 obtain rfl : args = #[v0]:=by cases args; simp_all
 obtain ⟨rfl,rfl⟩:=trodVars_none hV
 have k0:=h0
 have lt0 : ∀ x ∈ p0,x.block < W.heap.size:=by obtain ⟨m,hm⟩:=k0; exact DataW.trod_lt m _ _ _ hm
 obtain ⟨a0,len0,cap0,z0,hv0,wr0⟩:=open_code (hval 0 22 v0 rfl rfl) h0
 subst hv0
 clear hA0 hval0
 refine (walk_FnIsDuplicateFree a0 len0 cap0 z0 W wr0).mono fun e W' ⟨he,bel⟩=>?_
 subst he
 exact ⟨_,rfl,_,_,_,[],_,[],hW',trodAll_mk1 (shut_bool Tryz.underlying4 _),(trodAll_cons_mk (Below.trod laidOut (by kernel_rfl) (of_decide_eq_true (by kernel_rfl)) k0 bel lt0) trodAll_mk0),rfl,bel.frame _,fun h=>by cases h⟩
theorem closed : joinedFacts Tryz.prog 6 Tryz.f6 Rows.fnIsDuplicateFreeSpec Rows.fnIsDuplicateFreeRow = true:=by
 unfold joinedFacts
 exact Facts.and2 (Facts.and2 (Facts.and2 (Facts.and2 (Facts.and2 (Facts.and2 (Facts.and2 (Facts.and2 (Facts.and2 (Facts.and2 (Facts.and2 (Facts.and2 (Facts.and2 (Facts.and2 (Facts.and2 (Facts.and2 (Facts.and2 (Facts.and2 (Facts.and2 (Facts.and2 (Facts.and2 (Facts.and2 (Facts.and2 (Facts.and2 (Facts.and2 (Facts.and2 (Facts.and2 (Facts.and2 (Facts.and2 (Facts.and2 (Facts.and2 ((by as_aux_lemma=>kernel_rfl)) Facts.p2) Facts.p3) (by as_aux_lemma=>kernel_rfl)) (by as_aux_lemma=>kernel_rfl)) (by as_aux_lemma=>kernel_rfl)) Facts.p7) (by as_aux_lemma=>kernel_rfl)) Facts.p9) (by as_aux_lemma=>kernel_rfl)) (by as_aux_lemma=>kernel_rfl)) (by as_aux_lemma=>kernel_rfl)) (by as_aux_lemma=>kernel_rfl)) (by as_aux_lemma=>kernel_rfl)) (by as_aux_lemma=>kernel_rfl)) (by as_aux_lemma=>kernel_rfl)) (by as_aux_lemma=>kernel_rfl)) (by as_aux_lemma=>kernel_rfl)) (by as_aux_lemma=>kernel_rfl)) (by as_aux_lemma=>kernel_rfl)) (by as_aux_lemma=>kernel_rfl)) (by as_aux_lemma=>kernel_rfl)) Facts.p22) (by as_aux_lemma=>kernel_rfl)) Facts.p23b) Facts.p24) Facts.p24b) Facts.p24c) (by as_aux_lemma=>kernel_rfl)) (by as_aux_lemma=>kernel_rfl)) (by as_aux_lemma=>kernel_rfl)) (by as_aux_lemma=>kernel_rfl)
theorem over : Rows.fnIsDuplicateFreeRow.holds Tryz.pinned (OpenSpec.ofChange Rows.fnIsDuplicateFreeSpec):=
 OpenClaim.holds_of_wide 6 Tryz.f6 rfl rfl rfl rfl rfl rfl rfl ⟨rfl,rfl,rfl,rfl,rfl⟩ rfl rfl rfl rfl rfl (by as_aux_lemma=>kernel_rfl) Tryz.func6 closed
  (of_decide_eq_true (by as_aux_lemma=>kernel_rfl)) (by unfold Func.isWrapper; rw [if_neg (of_decide_eq_false (by as_aux_lemma=>kernel_rfl))]; exact ⟨rfl,rfl⟩)
  (fun os started H enc _=>lifted os started H enc)
theorem proved : Rows.FnIsDuplicateFreeSaid:=over
end Go.Proofs.YtepkimfmncedcaaGreat.fnIsDuplicateFree
