/-
 EvalPlan of both packages as a function. No condition.
-/
import Derived.Test.YtepkimfmncedcaaGreatKSDca
import Derived.Test.YtepkimfmncedcaaGreatKSDcg
import Derived.Test.YtepkimfmncedcaaGreatKSVPiO
import Derived.Test.YtepkimfmncedcaaGreatJSVWidF
import Derived.Test.YtepkimfmncedcaaGreatJSVPiP
import Derived.Test.YtepkimfmncedcaaGreatJSVGo
import Derived.Test.YtepkimfmncedcaaGreatJSVTru
import Derived.Test.YtepkimfmncedcaaGreatJSVWidC
import Derived.Test.YtepkimfmncedcaaGreatJSVDst
set_option maxHeartbeats 4000000
set_option maxRecDepth 100000
set_option linter.unusedVariables false
set_option linter.unusedSimpArgs false
namespace Go.Proofs.YtepkimfmncedcaaGreat
open Go.RowKit
theorem wd_wt {ws : List Nat} : ∀ (p : Pl) (d : Nat),wdV (natI ws) p d ≠ 0 → ∃ n : Nat,wdV (natI ws) p d = (n : Int) ∧ Wt ws p n:=by
 refine Pl.indA (fun p ih d h=>?_)
 have hf:=wd_fields h
 by_cases hk : p.k = 1
 ·obtain ⟨hr,h0,h1⟩:=wd_scan h hk
  have hks : p.ks = []:=List.length_eq_zero_iff.1 (by unfold fields at hf; omega)
  obtain ⟨j,hj⟩:=Int.eq_ofNat_of_zero_le h0
  have hjl : j < (natI ws).length:=by omega
  have hx:=List.getElem?_eq_getElem hjl
  obtain ⟨m,hm,hmx⟩:=natI_at hx
  refine ⟨m,?_,.scan hk hj hm hks⟩
  rw [hr]
  unfold scanV
  rw [if_pos ⟨h0,h1⟩,hj,show ((j : Int)).toNat = j from rfl,List.getD_eq_getElem?_getD,hx,Option.getD_some,hmx]
 ·obtain ⟨⟨hfi,hfit⟩,hr,hkid⟩:=wd_fit h hk
  obtain ⟨ms,hl,hp⟩:=list_of (P:=fun (x : Pl) (n : Nat)=>wdV (natI ws) x (d - 1) = (n : Int) ∧ Wt ws x n) p.ks (fun x hx=>ih x hx (d - 1) (hkid x hx))
  have hms : p.ks.map (fun x=>wdV (natI ws) x (d - 1)) = natI ms:=by
   apply List.ext_getElem?
   intro i
   show (p.ks.map (fun x=>wdV (natI ws) x (d - 1)))[i]? = (ms.map (fun n : Nat=>(n : Int)))[i]?
   rw [List.getElem?_map,List.getElem?_map]
   cases hx : p.ks[i]? with
   | none=>
    have : ms[i]? = none:=List.getElem?_eq_none (by have:=List.getElem?_eq_none_iff.1 hx; omega)
    rw [this]
    rfl
   | some x=>
    obtain ⟨n,hn⟩ : ∃ n,ms[i]? = some n:=⟨_,List.getElem?_eq_getElem (by have:=(List.getElem?_eq_some_iff.1 hx).1; omega)⟩
    rw [hn,Option.map_some,Option.map_some,(hp i x n hx hn).1]
  rw [hms] at hfit hr
  obtain ⟨m,hm,hw⟩:=wt_of hl hk (fun i x n hx hn=>(hp i x n hx hn).2) hfi hfit
  exact ⟨m,by rw [hr,hm],hw⟩
def fitB (db : List Ta) (p : Pl) : Prop:=dbOk db ∧ PV (natI (dbWs db)) p ≠ 0
noncomputable instance fitDec (db : List Ta) (p : Pl) : Decidable (fitB db p):=Classical.propDecidable _
noncomputable def EO (db : List Ta) (p : Pl) : Bool:=decide (fitB db p)
noncomputable def EP (db : List Ta) (p : Pl) : Ta:=if fitB db p then evP db p else ⟨0,[]⟩
theorem EP_t {db : List Ta} {p : Pl} (h : fitB db p) : EP db p = evP db p:=if_pos h
theorem EP_f {db : List Ta} {p : Pl} (h : ¬ fitB db p) : EP db p = ⟨0,[]⟩:=if_neg h
theorem EO_t {db : List Ta} {p : Pl} (h : fitB db p) : EO db p = true:=decide_eq_true h
theorem EO_f {db : List Ta} {p : Pl} (h : ¬ fitB db p) : EO db p = false:=decide_eq_false h
theorem fit_wt {db : List Ta} {p : Pl} (h : fitB db p) : ∃ n : Nat,PV (natI (dbWs db)) p = (n : Int) ∧ Wt (dbWs db) p n ∧ DbW (dbWs db) db ∧ TabW n (evP db p):=by
 have hw:=PV_ok h.2
 have h2:=h.2
 rw [PV_t hw] at h2 ⊢
 obtain ⟨n,hn,hwt⟩:=wd_wt p 8 h2
 have hd:=dbW_of h.1 hw
 exact ⟨n,hn,hwt,hd,(evalPlan_ok hd hwt).1⟩
theorem EP_small (db : List Ta) (p : Pl) : smallT (EP db p):=by
 by_cases h : fitB db p
 ·obtain ⟨n,_,hwt,hd,hT⟩:=fit_wt h
  rw [EP_t h]
  have hn:=hwt.pos hd.wid
  exact ⟨by have:=hT.few; omega,fun r hr=>by have:=(hT.row r hr).1; omega⟩
 ·rw [EP_f h]
  exact ⟨by decide,fun r hr=>by cases hr⟩
theorem EvalPlan_fn (p : Pl) (hs : psz p ≤ 1048576) (db : List Ta) (hl : db.length ≤ 1000) (hsz : ∀ t,t ∈ db → rsz t.rows ≤ 1048576) :
  Does Tryz.prog 9 [] [pD p,tasD db] (.tup [taD (EP db p),Bo (EO db p)]) [] ∧ Does Tryz.prog 10 [] [pD p,tasD db] (.tup [taD (EP db p),Bo (EO db p)]) []:=by
 have hwl : (natI (dbWs db)).length ≤ 1048576:=by unfold natI dbWs; rw [List.length_map,List.length_map]; omega
 obtain ⟨_,g1,g2⟩:=PlanWidth_fn p hs (natI (dbWs db)) hwl
 by_cases hf : fitB db p
 ·obtain ⟨n,hn,hwt,hd,hT⟩:=fit_wt hf
  rw [EP_t hf,EO_t hf]
  rw [hn] at g1 g2
  have hn0 : n ≠ 0:=fun e=>hf.2 (by rw [hn,e]; rfl)
  refine ⟨EvalPlan_impl_t hs hl hsz ⟨hf.1,PV_ok hf.2,hn0,hwt⟩ g2,?_⟩
  have h1:=widthsOf_t hl hf.1
  have h4:=(evalPlan_ok hd hwt).2
  have hz2 : ((n : Int) == 0) = false:=beq_eq_false_iff_ne.2 (by omega)
  refine Bg c_Z156 mixed (go1 trivial ?_)
  refine Uc trivial (h1) (go1 trivial ?_)
  refine Uc @hz2 (g1) (go1 @hz2 ?_)
  exact Uc trivial (h4) (go0 trivial)
 ·rw [EP_f hf,EO_f hf]
  by_cases hok : dbOk db
  ·have h0 : PV (natI (dbWs db)) p = 0:=Classical.byContradiction fun hne=>hf ⟨hok,hne⟩
   rw [h0] at g1 g2
   refine ⟨EvalPlan_impl_f (tableWidths_t hl hok hsz) g2,?_⟩
   have h1:=widthsOf_t hl hok
   refine Bg c_Z156 mixed (go1 trivial ?_)
   refine Uc trivial (h1) (go1 trivial ?_)
   refine Uc trivial (g1) (go1 trivial ?_)
   exact sub_zero
  ·obtain ⟨_,k1,k2⟩:=PlanWidth_fn p hs (natI []) (by decide)
   have h0 : PV (natI []) p = 0:=if_neg (fun h=>by have:=h.1.1; simp [natI] at this)
   rw [h0] at k1 k2
   refine ⟨EvalPlan_impl_f (tableWidths_f hl hsz hok) k2,?_⟩
   have h1:=widthsOf_f hl hsz hok
   refine Bg c_Z156 mixed (go1 trivial ?_)
   refine Uc trivial (h1) (go1 trivial ?_)
   refine Uc trivial (k1) (go1 trivial ?_)
   exact sub_zero
end Go.Proofs.YtepkimfmncedcaaGreat
set_option maxHeartbeats 4000000
set_option maxRecDepth 100000
set_option linter.unusedVariables false
set_option linter.unusedSimpArgs false
namespace Go.Proofs.YtepkimfmncedcaaGreat
open Go.RowKit
theorem fi_tab {n : Nat} {t : Ta} (h : TabW n t) (q : List V → Bool) : tabT t.w (t.rows.filter q) = ⟨t.w,t.rows.filter q⟩ ∧ TabW n ⟨t.w,t.rows.filter q⟩:=by
 have hs : (t.rows.filter q).Sublist t.rows:=List.filter_sublist
 have hl : (t.rows.filter q).length ≤ 400:=Nat.le_trans hs.length_le h.few
 have hr : RsW n (t.rows.filter q):=fun r hr=>h.row r (List.mem_filter.1 hr).1
 have ha : Asc (t.rows.filter q):=h.asc.sublist hs
 exact ⟨by rw [tabT_s hl,srt_of_asc hr ha],⟨h.wid,hr,hl,ha⟩⟩
end Go.Proofs.YtepkimfmncedcaaGreat
set_option maxHeartbeats 4000000
set_option maxRecDepth 100000
set_option linter.unusedVariables false
set_option linter.unusedSimpArgs false
namespace Go.Proofs.YtepkimfmncedcaaGreat
open Go.RowKit
theorem fit_kid {db : List Ta} {p x : Pl} (h : fitB db p) (hx : x ∈ p.ks) : fitB db x:=⟨h.1,PV_kid h.2 hx⟩
/-! Left joins. -/
theorem mt_out (n : Nat) (e : E) (r : List V) (rb : List (List V)) : (outL false n e r rb).Sublist (outL true n e r rb):=by
 show (mtL e r rb).Sublist _
 unfold outL
 split
 ·rename_i h
  rw [Bool.and_eq_true,Bool.not_eq_true'] at h
  rw [fnd_f h.2]
  exact List.nil_sublist _
 ·exact List.Sublist.refl _
theorem out_head {n : Nat} {e : E} {r x : List V} {rb : List (List V)} (h : x ∈ outL true n e r rb) : x.take r.length = r:=by
 have hh : ∀ y : List V,(r ++ y).take r.length = r:=fun y=>List.take_left ..
 unfold outL at h
 split at h
 ·rw [List.mem_singleton.1 h]; exact hh _
 ·unfold mtL at h
  obtain ⟨y,_,rfl⟩:=List.mem_map.1 (List.mem_filter.1 h).1
  exact hh y
end Go.Proofs.YtepkimfmncedcaaGreat
set_option maxHeartbeats 4000000
set_option maxRecDepth 100000
set_option linter.unusedVariables false
set_option linter.unusedSimpArgs false
namespace Go.Proofs.YtepkimfmncedcaaGreat
open Go.RowKit
/-! Groups. -/
theorem isK_iff {key a : List V} : isK key a = true ↔ a = key:=by
 unfold isK
 rw [beq_iff_eq]
 exact ⟨cmpR_eq,fun h=>by rw [h]; exact cmpR_self key⟩
theorem sum_set : ∀ (l : List Int) (i : Nat) (c : Int),l[i]? = some c → (l.set i (c + 1)).sum = l.sum + 1
 | [],i,c,h=>by simp at h
 | a :: l,0,c,h=>by
  obtain rfl : a = c:=by simpa using h
  rw [List.set_cons_zero,List.sum_cons,List.sum_cons]
  omega
 | a :: l,i + 1,c,h=>by
  have:=sum_set l i c (by simpa using h)
  rw [List.set_cons_succ,List.sum_cons,List.sum_cons,this]
  omega
structure GroK (cs : List Int) (rs : List (List V)) (n : Nat) (s : List (List V) × List Int) : Prop where
 mem : ∀ k,k ∈ s.1 ↔ ∃ r,r ∈ rs.take n ∧ pkR cs r = k
 one : s.1.Nodup
 sum : s.2.sum = n
 pos : ∀ c,c ∈ s.2 → 1 ≤ c
 same : s.2.length = s.1.length
theorem groK (cs : List Int) (rs : List (List V)) : ∀ i,i ≤ rs.length → GroK cs rs i (groG cs (rs.take i))
 | 0,_=>⟨fun k=>⟨(fun h=>by cases h),(fun ⟨r,h,_⟩=>by rw [List.take_zero] at h; cases h)⟩,List.nodup_nil,rfl,(fun c h=>by cases h),rfl⟩
 | i + 1,hi=>by
  obtain ⟨x,hx⟩ : ∃ x,rs[i]? = some x:=⟨_,List.getElem?_eq_getElem (by omega)⟩
  obtain ⟨h1,h2,h3,h4,h5⟩:=groK cs rs i (by omega)
  have htk:=take_next hx
  rw [groG_next hx]
  generalize groG cs (rs.take i) = s at h1 h2 h3 h4 h5
  have hmem : ∀ k,(∃ r,r ∈ rs.take (i + 1) ∧ pkR cs r = k) ↔ (k ∈ s.1 ∨ k = pkR cs x):=fun k=>by
   rw [h1 k,htk]
   constructor
   ·rintro ⟨r,hr,he⟩
    rcases List.mem_append.1 hr with hr | hr
    ·exact Or.inl ⟨r,hr,he⟩
    ·exact Or.inr (by rw [← he,List.mem_singleton.1 hr])
   ·rintro (⟨r,hr,he⟩ | he)
    ·exact ⟨r,List.mem_append_left _ hr,he⟩
    ·exact ⟨x,List.mem_append_right _ (List.mem_singleton.2 rfl),he.symm⟩
  generalize pkR cs x = key at hmem
  unfold stpG
  split
  ·rename_i hp
   have hn : key ∉ s.1:=fun hk=>by
    have:=List.findIdx_lt_length.2 ⟨key,hk,isK_iff.2 rfl⟩
    unfold posG at hp
    omega
   refine ⟨fun k=>?_,List.nodup_append.2 ⟨h2,List.nodup_cons.2 ⟨List.not_mem_nil,List.nodup_nil⟩,fun a ha b hb=>?_⟩,?_,fun c hc=>?_,?_⟩
   ·rw [hmem k,List.mem_append,List.mem_singleton]
   ·rw [List.mem_singleton.1 hb]
    exact fun h=>hn (h ▸ ha)
   ·rw [List.sum_append,h3]; simp
   ·rcases List.mem_append.1 hc with hc | hc
    ·exact h4 c hc
    ·rw [List.mem_singleton.1 hc]; decide
   ·rw [List.length_append,List.length_append,h5]; rfl
  ·rename_i hp
   have hlt : posG key s.1 < s.1.length:=Nat.lt_of_le_of_ne (posG_le key s.1) hp
   obtain ⟨a,ha⟩ : ∃ a,s.1[posG key s.1]? = some a:=⟨_,List.getElem?_eq_getElem hlt⟩
   have hak:=cmpR_eq (posG_eq ha)
   have hkm : key ∈ s.1:=by rw [← hak]; exact List.mem_of_getElem? ha
   obtain ⟨c,hc⟩ : ∃ c,s.2[posG key s.1]? = some c:=⟨_,List.getElem?_eq_getElem (by omega)⟩
   have hgd : s.2.getD (posG key s.1) 0 = c:=by rw [List.getD_eq_getElem?_getD,hc]; rfl
   rw [hgd]
   refine ⟨fun k=>?_,h2,?_,fun c' hc'=>?_,?_⟩
   ·rw [hmem k]
    exact ⟨Or.inl,fun h=>h.elim id (fun h=>by rw [h]; exact hkm)⟩
   ·show (s.2.set (posG key s.1) (c + 1)).sum = _
    rw [sum_set _ _ _ hc,h3]
    omega
   ·rcases List.mem_or_eq_of_mem_set hc' with h | h
    ·exact h4 c' h
    ·have:=h4 c (List.mem_of_getElem? hc); omega
   ·show (s.2.set (posG key s.1) (c + 1)).length = _
    rw [List.length_set]
    exact h5
theorem groK_all (cs : List Int) (rs : List (List V)) : GroK cs rs rs.length (groG cs rs):=by
 have h:=groK cs rs rs.length (Nat.le_refl _)
 rw [List.take_length] at h
 exact h
end Go.Proofs.YtepkimfmncedcaaGreat
set_option maxHeartbeats 4000000
set_option maxRecDepth 100000
set_option linter.unusedVariables false
set_option linter.unusedSimpArgs false
namespace Go.Proofs.YtepkimfmncedcaaGreat
open Go.RowKit
theorem ascS_of : ∀ {l : List (List V)},Asc l → l.Nodup → AscS l
 | [],_,_=>List.Pairwise.nil
 | a :: l,ha,hn=>by
  obtain ⟨h1,h2⟩:=List.pairwise_cons.1 ha
  obtain ⟨h3,h4⟩:=List.nodup_cons.1 hn
  refine List.pairwise_cons.2 ⟨fun b hb=>?_,ascS_of h2 h4⟩
  have h5 : cmpR a b ≤ 0:=h1 b hb
  have h6 : cmpR a b ≠ 0:=fun h0=>h3 (cmpR_eq h0 ▸ hb)
  omega
theorem zip_fstR {β : Type} (f : List V → β → List V) (g : List V → List V) : ∀ (l : List (List V)) (m : List β),(∀ a,a ∈ l → ∀ b,g (f a b) = a) → m.length = l.length → (List.zipWith f l m).map g = l
 | [],[],_,_=>rfl
 | a :: l,b :: m,hg,h=>by rw [List.zipWith_cons_cons,List.map_cons,hg a (List.mem_cons_self ..),zip_fstR f g l m (fun a ha=>hg a (List.mem_cons_of_mem _ ha)) (by simpa using h)]
 | [],_ :: _,_,h=>by simp at h
 | _ :: _,[],_,h=>by simp at h
section
variable {n : Nat} {rs : List (List V)} (hr : RsW n rs) (hn : 1 ≤ n)
include hr hn
end
end Go.Proofs.YtepkimfmncedcaaGreat
