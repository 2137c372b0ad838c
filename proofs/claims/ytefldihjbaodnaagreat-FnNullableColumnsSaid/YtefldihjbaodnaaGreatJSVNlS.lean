/-
  EvalPlan of both packages as a function. No condition.
-/
import Derived.Test.YtefldihjbaodnaaGreatKSDca
import Derived.Test.YtefldihjbaodnaaGreatKSDcg
import Derived.Test.YtefldihjbaodnaaGreatKSVPiO
import Derived.Test.YtefldihjbaodnaaGreatJSVWidF
import Derived.Test.YtefldihjbaodnaaGreatJSVPiP
import Derived.Test.YtefldihjbaodnaaGreatJSVGo
import Derived.Test.YtefldihjbaodnaaGreatJSVTru
import Derived.Test.YtefldihjbaodnaaGreatJSVOutA
import Derived.Test.YtefldihjbaodnaaGreatJSVDst
import Derived.Test.YtefldihjbaodnaaGreatJSVOcM
set_option maxHeartbeats 4000000
set_option maxRecDepth 100000
set_option linter.unusedVariables false
set_option linter.unusedSimpArgs false
namespace Go.Proofs.YtefldihjbaodnaaGreat
open Go.RowKit
theorem wd_wt {ws : List Nat} : ∀ (p : Pl) (d : Nat),wdV (natI ws) p d ≠ 0 → ∃ n : Nat,wdV (natI ws) p d = (n : Int) ∧ Wt ws p n:=by
 refine Pl.indA (fun p ih d h=>?_)
 have hf:=wd_fields h
 by_cases hk : p.k = 1
 ·obtain ⟨hr,h0,h1⟩:=wd_scan h hk
  have hks : p.ks = []:=List.length_eq_zero_iff.1 (by unfold fields at hf; omega)
  obtain ⟨j,hj⟩:=Int.eq_ofNat_of_zero_le h0
  have hjl : j < (natI ws).length:=by omega
  have hx:=List.getElem?_eq_getElem hjl
  obtain ⟨m,hm,hmx⟩:=natI_at hx
  refine ⟨m,?_,.scan hk hj hm hks⟩
  rw [hr]
  unfold scanV
  rw [if_pos ⟨h0,h1⟩,hj,show ((j : Int)).toNat = j from rfl,List.getD_eq_getElem?_getD,hx,Option.getD_some,hmx]
 ·obtain ⟨⟨hfi,hfit⟩,hr,hkid⟩:=wd_fit h hk
  obtain ⟨ms,hl,hp⟩:=list_of (P:=fun (x : Pl) (n : Nat)=>wdV (natI ws) x (d - 1) = (n : Int) ∧ Wt ws x n) p.ks (fun x hx=>ih x hx (d - 1) (hkid x hx))
  have hms : p.ks.map (fun x=>wdV (natI ws) x (d - 1)) = natI ms:=by
   apply List.ext_getElem?
   intro i
   show (p.ks.map (fun x=>wdV (natI ws) x (d - 1)))[i]? = (ms.map (fun n : Nat=>(n : Int)))[i]?
   rw [List.getElem?_map,List.getElem?_map]
   cases hx : p.ks[i]? with
   | none=>
    have : ms[i]? = none:=List.getElem?_eq_none (by have:=List.getElem?_eq_none_iff.1 hx; omega)
    rw [this]
    rfl
   | some x=>
    obtain ⟨n,hn⟩ : ∃ n,ms[i]? = some n:=⟨_,List.getElem?_eq_getElem (by have:=(List.getElem?_eq_some_iff.1 hx).1; omega)⟩
    rw [hn,Option.map_some,Option.map_some,(hp i x n hx hn).1]
  rw [hms] at hfit hr
  obtain ⟨m,hm,hw⟩:=wt_of hl hk (fun i x n hx hn=>(hp i x n hx hn).2) hfi hfit
  exact ⟨m,by rw [hr,hm],hw⟩
def fitB (db : List Ta) (p : Pl) : Prop:=dbOk db ∧ PV (natI (dbWs db)) p ≠ 0
noncomputable instance fitDec (db : List Ta) (p : Pl) : Decidable (fitB db p):=Classical.propDecidable _
noncomputable def EO (db : List Ta) (p : Pl) : Bool:=decide (fitB db p)
noncomputable def EP (db : List Ta) (p : Pl) : Ta:=if fitB db p then evP db p else ⟨0,[]⟩
theorem EP_t {db : List Ta} {p : Pl} (h : fitB db p) : EP db p = evP db p:=if_pos h
theorem EP_f {db : List Ta} {p : Pl} (h : ¬ fitB db p) : EP db p = ⟨0,[]⟩:=if_neg h
theorem EO_t {db : List Ta} {p : Pl} (h : fitB db p) : EO db p = true:=decide_eq_true h
theorem EO_f {db : List Ta} {p : Pl} (h : ¬ fitB db p) : EO db p = false:=decide_eq_false h
theorem fit_wt {db : List Ta} {p : Pl} (h : fitB db p) : ∃ n : Nat,PV (natI (dbWs db)) p = (n : Int) ∧ Wt (dbWs db) p n ∧ DbW (dbWs db) db ∧ TabW n (evP db p):=by
 have hw:=PV_ok h.2
 have h2:=h.2
 rw [PV_t hw] at h2 ⊢
 obtain ⟨n,hn,hwt⟩:=wd_wt p 8 h2
 have hd:=dbW_of h.1 hw
 exact ⟨n,hn,hwt,hd,(evalPlan_ok hd hwt).1⟩
theorem EP_small (db : List Ta) (p : Pl) : smallT (EP db p):=by
 by_cases h : fitB db p
 ·obtain ⟨n,_,hwt,hd,hT⟩:=fit_wt h
  rw [EP_t h]
  have hn:=hwt.pos hd.wid
  exact ⟨by have:=hT.few; omega,fun r hr=>by have:=(hT.row r hr).1; omega⟩
 ·rw [EP_f h]
  exact ⟨by decide,fun r hr=>by cases hr⟩
theorem EvalPlan_fn (p : Pl) (hs : psz p ≤ 1048576) (db : List Ta) (hl : db.length ≤ 1000) (hsz : ∀ t,t ∈ db → rsz t.rows ≤ 1048576) :
  Does Tryz.prog 7 [] [pD p,tasD db] (.tup [taD (EP db p),Bo (EO db p)]) [] ∧ Does Tryz.prog 8 [] [pD p,tasD db] (.tup [taD (EP db p),Bo (EO db p)]) []:=by
 have hwl : (natI (dbWs db)).length ≤ 1048576:=by unfold natI dbWs; rw [List.length_map,List.length_map]; omega
 obtain ⟨_,g1,g2⟩:=PlanWidth_fn p hs (natI (dbWs db)) hwl
 by_cases hf : fitB db p
 ·obtain ⟨n,hn,hwt,hd,hT⟩:=fit_wt hf
  rw [EP_t hf,EO_t hf]
  rw [hn] at g1 g2
  have hn0 : n ≠ 0:=fun e=>hf.2 (by rw [hn,e]; rfl)
  refine ⟨EvalPlan_impl_t hs hl hsz ⟨hf.1,PV_ok hf.2,hn0,hwt⟩ g2,?_⟩
  have h1:=widthsOf_t hl hf.1
  have h4:=(evalPlan_ok hd hwt).2
  have hz2 : ((n : Int) == 0) = false:=beq_eq_false_iff_ne.2 (by omega)
  refine Bg c_Z164 mixed (go1 trivial ?_)
  refine Uc trivial (h1) (go1 trivial ?_)
  refine Uc @hz2 (g1) (go1 @hz2 ?_)
  exact Uc trivial (h4) (go0 trivial)
 ·rw [EP_f hf,EO_f hf]
  by_cases hok : dbOk db
  ·have h0 : PV (natI (dbWs db)) p = 0:=Classical.byContradiction fun hne=>hf ⟨hok,hne⟩
   rw [h0] at g1 g2
   refine ⟨EvalPlan_impl_f (tableWidths_t hl hok hsz) g2,?_⟩
   have h1:=widthsOf_t hl hok
   refine Bg c_Z164 mixed (go1 trivial ?_)
   refine Uc trivial (h1) (go1 trivial ?_)
   refine Uc trivial (g1) (go1 trivial ?_)
   exact sub_zero
  ·obtain ⟨_,k1,k2⟩:=PlanWidth_fn p hs (natI []) (by decide)
   have h0 : PV (natI []) p = 0:=if_neg (fun h=>by have:=h.1.1; simp [natI] at this)
   rw [h0] at k1 k2
   refine ⟨EvalPlan_impl_f (tableWidths_f hl hsz hok) k2,?_⟩
   have h1:=widthsOf_f hl hsz hok
   refine Bg c_Z164 mixed (go1 trivial ?_)
   refine Uc trivial (h1) (go1 trivial ?_)
   refine Uc trivial (k1) (go1 trivial ?_)
   exact sub_zero
end Go.Proofs.YtefldihjbaodnaaGreat
set_option maxHeartbeats 4000000
set_option maxRecDepth 100000
set_option linter.unusedVariables false
set_option linter.unusedSimpArgs false
namespace Go.Proofs.YtefldihjbaodnaaGreat
open Go.RowKit
inductive ResT (db : List Ta) : Pl → Ta → Prop
 | mk {p : Pl} {t : Ta} (q : List Ta) (hl : q.length = p.ks.length) (hk4 : p.ks.length ≤ 1000) (hk : ∀ (i : Nat) (x : Pl) (c : Ta),p.ks[i]? = some x → q[i]? = some c → ResT db x c)
   (hr : Does Tryz.prog 30 [] [pD p,tasD q,tasD db] (taD t) []) (hp : t.rows.Perm (evP db p).rows) (hfew : t.rows.length ≤ 400) : ResT db p t
end Go.Proofs.YtefldihjbaodnaaGreat
set_option maxHeartbeats 4000000
set_option maxRecDepth 100000
set_option linter.unusedVariables false
set_option linter.unusedSimpArgs false
namespace Go.Proofs.YtefldihjbaodnaaGreat
open Go.RowKit
structure GroK (cs : List Int) (rs : List (List V)) (n : Nat) (s : List (List V) × List Int) : Prop where
 mem : ∀ k,k ∈ s.1 ↔ ∃ r,r ∈ rs.take n ∧ pkR cs r = k
 one : s.1.Nodup
 sum : s.2.sum = n
 pos : ∀ c,c ∈ s.2 → 1 ≤ c
 same : s.2.length = s.1.length
end Go.Proofs.YtefldihjbaodnaaGreat
set_option maxHeartbeats 4000000
set_option maxRecDepth 100000
set_option linter.unusedVariables false
set_option linter.unusedSimpArgs false
namespace Go.Proofs.YtefldihjbaodnaaGreat
open Go.RowKit
def NlOk (rs : List (List V)) (l : List Bool) : Prop:=∀ r,r ∈ rs → ∀ (i : Nat) (v : V),r[i]? = some v → v.b = true → l[i]? = some true
def stO (l : List Bool) : List Int:=l.map (fun b=>if b = true then 7 else 3)
def filN (e : E) (l : List Bool) : List Bool:=(List.range l.length).map (fun i=>l.getD i false && (intBit .and .i64 (oc e ((stO l).set i 4)) 2 != 0))
def prjN (es : List E) (l : List Bool) : List Bool:=es.map (fun e=>intBit .and .i64 (oc e (stO l)) 4 != 0)
def orN (a b : List Bool) : List Bool:=(List.range a.length).map (fun i=>a.getD i false || b.getD i false)
def grpN (cs : List Int) (l : List Bool) : List Bool:=cs.map (fun c=>l.getD c.toNat false) ++ [false]
theorem stO_len (l : List Bool) : (stO l).length = l.length:=List.length_map _
theorem stO_in (l : List Bool) : ssIn (stO l):=fun j s hj=>by
 unfold stO at hj
 rw [List.getElem?_map] at hj
 cases h : l[j]? with
 | none=>rw [h] at hj; cases hj
 | some b=>rw [h] at hj; cases hj; cases b <;> decide
theorem stO_set_in (l : List Bool) (i : Nat) : ssIn ((stO l).set i 4):=fun j s hj=>by
 rcases List.mem_or_eq_of_mem_set (List.mem_of_getElem? hj) with h | h
 ·obtain ⟨k,hk⟩:=List.mem_iff_getElem?.1 h
  exact stO_in l k s hk
 ·rw [h]; decide
theorem t_22 : all8 (fun x=>imp (sub7 2 x) (intBit .and .i64 x 2 != 0)) = true:=by kernel_rfl
theorem t_44 : all8 (fun x=>imp (sub7 4 x) (intBit .and .i64 x 4 != 0)) = true:=by kernel_rfl
theorem s_47 : sub7 4 7 = true ∧ sub7 1 7 = true ∧ sub7 2 7 = true ∧ sub7 1 3 = true ∧ sub7 2 3 = true ∧ sub7 4 4 = true:=by
 refine ⟨?_,?_,?_,?_,?_,?_⟩ <;> kernel_rfl
theorem stO_sub {r : List V} {l : List Bool} (h : ∀ (i : Nat) (v : V),r[i]? = some v → v.b = true → l[i]? = some true) : ∀ (j : Nat) (v : V) (s : Int),r[j]? = some v → (stO l)[j]? = some s → sub7 (stV v) s = true:=fun j v s hv hs=>by
 unfold stO at hs
 rw [List.getElem?_map] at hs
 cases hl : l[j]? with
 | none=>rw [hl] at hs; cases hs
 | some b=>
  rw [hl] at hs
  cases hs
  obtain ⟨k1,k2,k3,k4,k5,_⟩:=s_47
  cases hb : v.b with
  | true=>
   have:=h j v hv hb
   rw [hl] at this
   cases this
   rw [st_null hb]
   exact k1
  | false=>
   rcases st_num hb with h1 | h1 <;> rw [h1] <;> cases b
   ·exact k4
   ·exact k2
   ·exact k5
   ·exact k3
theorem holds_st {e : E} {r : List V} (h : holdsB e r = true) : stV (ev e r) = 2:=by
 unfold holdsB at h
 have h1 : tr (ev e r) = 1:=by simpa using h
 unfold tr at h1
 unfold stV
 cases hb : (ev e r).b with
 | true=>rw [hb,if_pos rfl] at h1; exact absurd h1 (by decide)
 | false=>
  rw [hb] at h1
  rw [if_neg (by decide)] at h1 ⊢
  by_cases h0 : (ev e r).n = 0
  ·rw [if_pos h0] at h1; exact absurd h1 (by decide)
  ·rw [if_neg h0]
theorem nl_filter {rs : List (List V)} {l : List Bool} {e : E} {d : Nat} (h : NlOk rs l) (hr : RsW l.length rs) (he : eOk e l.length d) : NlOk (rs.filter (holdsB e)) (filN e l):=fun r hm i v hi hb=>by
 obtain ⟨hm,hh⟩:=List.mem_filter.1 hm
 have hrl:=(hr r hm).1
 have h1:=h r hm i v hi hb
 have hil:=(List.getElem?_eq_some_iff.1 h1).1
 have hsl : ((stO l).set i 4).length = l.length:=by rw [List.length_set,stO_len]
 have hs:=oc_sound (row:=r) (stO_set_in l i) (by rw [hsl]; exact hrl) (fun j w s hj hs=>by
  by_cases hji : j = i
  ·subst hji
   rw [List.getElem?_set_self (by rw [stO_len]; exact hil)] at hs
   cases hs
   rw [hi] at hj
   cases hj
   rw [st_null hb]
   exact s_47.2.2.2.2.2
  ·rw [List.getElem?_set_ne (fun h=>hji h.symm)] at hs
   exact stO_sub (h r hm) j w s hj hs) e d (by rw [hsl]; exact he)
 rw [holds_st hh] at hs
 have hrg:=oc_range (stO_set_in l i) e d (by rw [hsl]; exact he)
 have h2:=imp_at (all8_at t_22 hrg) hs
 unfold filN
 rw [List.getElem?_map,List.getElem?_range hil,Option.map_some,List.getD_eq_getElem?_getD,h1,h2]
 rfl
theorem nl_project {rs : List (List V)} {l : List Bool} {es : List E} {d : Nat} (h : NlOk rs l) (hr : RsW l.length rs) (he : ∀ e,e ∈ es → eOk e l.length d) : NlOk (rs.map (prjR es)) (prjN es l):=fun r hm i v hi hb=>by
 obtain ⟨r0,hm0,rfl⟩:=List.mem_map.1 hm
 unfold prjR at hi
 rw [List.getElem?_map] at hi
 cases hei : es[i]? with
 | none=>rw [hei] at hi; cases hi
 | some e=>
  rw [hei] at hi
  obtain rfl : ev e r0 = v:=by simpa using hi
  have heo:=he e (List.mem_of_getElem? hei)
  have hs:=oc_sound (row:=r0) (stO_in l) (by rw [stO_len]; exact (hr r0 hm0).1) (stO_sub (h r0 hm0)) e d (by rw [stO_len]; exact heo)
  rw [st_null hb] at hs
  have h2:=imp_at (all8_at t_44 (oc_range (stO_in l) e d (by rw [stO_len]; exact heo))) hs
  unfold prjN
  rw [List.getElem?_map,hei,Option.map_some,h2]
theorem nl_app {wa : Nat} {a b : List Bool} (hla : a.length = wa) {x y : List V} (hx : x.length = wa) (h1 : ∀ (i : Nat) (v : V),x[i]? = some v → v.b = true → a[i]? = some true) (h2 : ∀ (i : Nat) (v : V),y[i]? = some v → v.b = true → b[i]? = some true) :
  ∀ (i : Nat) (v : V),(x ++ y)[i]? = some v → v.b = true → (a ++ b)[i]? = some true:=fun i v hi hb=>by
 by_cases hlt : i < wa
 ·rw [List.getElem?_append_left (by omega)] at hi ⊢
  exact h1 i v hi hb
 ·rw [List.getElem?_append_right (by omega)] at hi ⊢
  rw [hla]
  rw [hx] at hi
  exact h2 _ v hi hb
theorem nl_join {wa : Nat} {ra rb : List (List V)} {a b : List Bool} {e : E} {n : Nat} (hla : a.length = wa) (hra : ∀ r,r ∈ ra → r.length = wa) (ha : NlOk ra a) (hb : NlOk rb b) : NlOk (joiL false n e ra rb) (a ++ b):=fun r hm=>by
 obtain ⟨x,hx,hm⟩:=List.mem_flatMap.1 hm
 have hm : r ∈ mtL e x rb:=hm
 unfold mtL at hm
 obtain ⟨y,hy,rfl⟩:=List.mem_map.1 (List.mem_filter.1 hm).1
 exact nl_app hla (hra x hx) (ha x hx) (hb y hy)
theorem nl_left {wa : Nat} {ra rb : List (List V)} {a b : List Bool} {e : E} {n : Nat} (hla : a.length = wa) (hlb : b.length = n) (hra : ∀ r,r ∈ ra → r.length = wa) (hrb : ∀ r,r ∈ rb → r.length = n) (ha : NlOk ra a) : NlOk (joiL true n e ra rb) (a ++ List.replicate b.length true):=fun r hm=>by
 obtain ⟨x,hx,hm⟩:=List.mem_flatMap.1 hm
 have hall : ∀ y : List V,y.length = n → ∀ (i : Nat) (v : V),y[i]? = some v → v.b = true → (List.replicate b.length true)[i]? = some true:=fun y hy i v hi _=>by
  have:=(List.getElem?_eq_some_iff.1 hi).1
  rw [List.getElem?_replicate,if_pos (by omega)]
 unfold outL at hm
 split at hm
 ·rw [List.mem_singleton.1 hm]
  exact nl_app hla (hra x hx) (ha x hx) (hall _ (nulR_ok n).1)
 ·unfold mtL at hm
  obtain ⟨y,hy,rfl⟩:=List.mem_map.1 (List.mem_filter.1 hm).1
  exact nl_app hla (hra x hx) (ha x hx) (hall y (hrb y hy))
theorem nl_union {ra rb : List (List V)} {a b : List Bool} (hl : a.length = b.length) (ha : NlOk ra a) (hb : NlOk rb b) : NlOk (ra ++ rb) (orN a b):=fun r hm i v hi hv=>by
 unfold orN
 rcases List.mem_append.1 hm with hm | hm
 ·have h:=ha r hm i v hi hv
  have hil:=(List.getElem?_eq_some_iff.1 h).1
  rw [List.getElem?_map,List.getElem?_range hil,Option.map_some,List.getD_eq_getElem?_getD,h]
  rfl
 ·have h:=hb r hm i v hi hv
  have hil:=(List.getElem?_eq_some_iff.1 h).1
  rw [List.getElem?_map,List.getElem?_range (by omega),Option.map_some,List.getD_eq_getElem?_getD (l:=b),h]
  exact congrArg some (Bool.or_true _)
theorem nl_sub {l m : List (List V)} {a : List Bool} (h : ∀ x,x ∈ l → x ∈ m) (hm : NlOk m a) : NlOk l a:=fun r hr=>hm r (h r hr)
theorem nl_tab {l : List (List V)} {a : List Bool} (w : Int) (h : NlOk l a) : NlOk (tabT w l).rows a:=by
 by_cases hl : l.length ≤ 400
 ·rw [tabT_s hl]; exact nl_sub (fun x hx=>mem_srt.1 hx) h
 ·rw [tabT_n hl]; exact fun r hr=>by cases hr
theorem nl_group {n : Nat} {rs : List (List V)} {l : List Bool} {cs : List Int} (h : NlOk rs l) (hr : RsW n rs) (hl : l.length = n) (hc : ∀ c, c ∈ cs → 0 ≤ c ∧ c < n) : NlOk (grpL cs rs) (grpN cs l) := fun y hy i v hi hb => by
  obtain ⟨x, hx, rfl⟩ := (grpL_mem cs rs y).1 hy
  unfold grpN
  refine nl_app (wa := cs.length) (List.length_map _) (List.length_map _) (fun j u hj hu => ?_) (fun j u hj hu => ?_) i v hi hb
  · unfold pkR at hj
    rw [List.getElem?_map] at hj ⊢
    cases hcj : cs[j]? with
    | none => rw [hcj] at hj; cases hj
    | some c =>
      rw [hcj] at hj
      have hcr := hc c (List.mem_of_getElem? hcj)
      obtain ⟨k, rfl⟩ := Int.eq_ofNat_of_zero_le hcr.1
      have hk : k < x.length := by have := (hr x hx).1; omega
      have hp := pk_at (r := x) (c := k) hk
      have hj : x.getD k ⟨false, 0⟩ = u := by simpa using hj
      rw [hj] at hp
      have h1 := h x hx k u hp hu
      rw [Option.map_some, Int.toNat_natCast, List.getD_eq_getElem?_getD, h1]
      rfl
  · cases j with
    | zero => obtain rfl : (⟨false, _⟩ : V) = u := by simpa using hj
              cases hu
    | succ j => simp at hj
end Go.Proofs.YtefldihjbaodnaaGreat
