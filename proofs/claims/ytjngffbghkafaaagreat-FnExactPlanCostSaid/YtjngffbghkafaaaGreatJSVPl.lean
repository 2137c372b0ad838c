/-
  Valid tables, in both packages. No condition.
-/
import Derived.Test.YtjngffbghkafaaaGreatKSDca
import Derived.Test.YtjngffbghkafaaaGreatKSDcb
import Derived.Test.YtjngffbghkafaaaGreatKSVVa
import Derived.Test.YtjngffbghkafaaaGreatJSVTbD
import Derived.Test.YtjngffbghkafaaaGreatJSVGo
import Derived.Test.YtjngffbghkafaaaGreatJSVEqT
import Derived.Test.YtjngffbghkafaaaGreatKSDcc
import Derived.Test.YtjngffbghkafaaaGreatKSVEvS
import Derived.Test.YtjngffbghkafaaaGreatJSVSzI
set_option maxHeartbeats 4000000
set_option maxRecDepth 100000
namespace Go.Proofs.YtjngffbghkafaaaGreat
open Go.RowKit
def rowAt (t : Ta) (i : Nat) (r : List V) : Prop:=(rowOk r ∧ (r.length : Int) = t.w) ∧ ∀ q,0 < i → t.rows[i - 1]? = some q → cmpR q r ≤ 0
def tOk (t : Ta) : Prop:=((1 ≤ t.w ∧ t.w ≤ 6) ∧ t.rows.length ≤ 400) ∧ ∀ (i : Nat) (r : List V),t.rows[i]? = some r → rowAt t i r
noncomputable instance tOkDec (t : Ta) : Decidable (tOk t):=Classical.propDecidable _
theorem nextR {t : Ta} {i : Nat} {x : List V} {P : Nat → List V → Prop} (hx : t.rows[i]? = some x) (h : P i x) (hJ : ∀ (j : Nat) (y : List V),j < i → t.rows[j]? = some y → P j y) : ∀ (j : Nat) (y : List V),j < i + 1 → t.rows[j]? = some y → P j y:=by
 intro j y hj hy
 by_cases hji : j = i
 ·subst hji
  rw [hx] at hy
  cases hy
  exact h
 ·exact hJ j y (by omega) hy
theorem validTable_ok (t : Ta) (hl : rsz t.rows ≤ 1048576) : Does Tryz.prog 78 [] [taD t] (Bo (decide (tOk t))) []:=by
 have hlen:=rsz_len t.rows
 refine Bg c_Z92 mixed (go1 trivial ?_)
 refine dw_for (c:=1) (l:=fun i=>[(1,.ref 1000000 0),(3,I i),(1000000,.obj [I t.w,rowsD t.rows])]) t.rows.length (fun i=>∀ (j : Nat) (r : List V),j < i → t.rows[j]? = some r → rowAt t j r) 0 (fun j r hj=>by omega) (Wk.list [2000001] rfl rfl ?_) (fun i hi hJ=>?_) (Nat.zero_le _)
 ·repeat' (first|(conv in hold _=>simp (disch:=omega) only [go_sem])|exact trivial|exact Sub.refl _|omega)
  exact rfl
 ·rcases at_or_end hi with ⟨x,hx,hlt⟩ | rfl
  ·have hxs:=rsz_mem (List.mem_of_getElem? hx)
   have hv:=validRow_ok x (by omega)
   by_cases h1 : rowOk x
   ·rw [decide_eq_true h1] at hv
    by_cases h2 : (x.length : Int) = t.w
    ·by_cases hi0 : i = 0
     ·refine go1 @hx ?_
      refine Uc @hx (hv) (go1 @hx ?_)
      refine ⟨hlt,nextR (P:=rowAt t) hx ⟨⟨h1,h2⟩,fun q h0=>by omega⟩ hJ,Wk.list [1000000] rfl rfl ?_⟩
      repeat' (first|(conv in hold _=>simp (disch:=omega) only [go_sem])|exact trivial|exact Sub.refl _|omega)
     ·obtain ⟨q,hq⟩ : ∃ q,t.rows[i - 1]? = some q:=⟨_,List.getElem?_eq_getElem (by omega)⟩
      have hqs:=rsz_mem (List.mem_of_getElem? hq)
      have hii : ((i : Int) - 1).toNat = i - 1:=by omega
      have hc:=compareRows_spec q x (by omega) (by omega)
      by_cases h3 : cmpR q x ≤ 0
      ·refine go1 (cj3 @hx @hq @hii) ?_
       refine Uc (cj3 @hx @hq @hii) (hv) (go1 (cj3 @hx @hq @hii) ?_)
       refine Uc trivial (hc) (go1 trivial ?_)
       refine ⟨hlt,nextR (P:=rowAt t) hx ⟨⟨h1,h2⟩,fun q' _ hq'=>by rw [hq] at hq'; cases hq'; exact h3⟩ hJ,Wk.list [1000000] rfl rfl ?_⟩
       repeat' (first|(conv in hold _=>simp (disch:=omega) only [go_sem])|exact trivial|exact Sub.refl _|omega)
      ·refine go1 (cj3 @hx @hq @hii) ?_
       refine Uc (cj3 @hx @hq @hii) (hv) (go1 (cj3 @hx @hq @hii) ?_)
       refine Uc trivial (hc) (go1 trivial ?_)
       exact sub_f (fun h=>h3 ((h.2 i x hx).2 q (by omega) hq))
    ·refine go1 @hx ?_
     refine Uc @hx (hv) (go1 @hx ?_)
     exact sub_f (fun h=>h2 (h.2 i x hx).1.2)
   ·rw [decide_eq_false h1] at hv
    refine go1 @hx ?_
    refine Uc trivial (hv) (go1 trivial ?_)
    exact sub_f (fun h=>h1 (h.2 i x hx).1.1)
  ·have hr:=inRange_ok t.w 1 6
   by_cases hw : 1 ≤ t.w ∧ t.w ≤ 6
   ·rw [decide_eq_true hw] at hr
    refine go1 trivial ?_
    refine Uc trivial (hr) (go1 trivial ?_)
    exact sub_iff (by rw [decide_eq_true_iff]; exact ⟨fun h=>⟨⟨hw,by omega⟩,fun j r hj=>hJ j r (List.getElem?_eq_some_iff.1 hj).1 hj⟩,fun h=>by have:=h.1.2; omega⟩)
   ·rw [decide_eq_false hw] at hr
    refine go1 trivial ?_
    refine Uc trivial (hr) (go1 trivial ?_)
    exact sub_f (fun h=>hw h.1.1)
def rOk (t : Ta) : Prop:=((1 ≤ t.w ∧ t.w ≤ 6) ∧ t.rows.length ≤ 400) ∧ ∀ (i : Nat) (r : List V),t.rows[i]? = some r → rowOk r ∧ (r.length : Int) = t.w
noncomputable instance rOkDec (t : Ta) : Decidable (rOk t):=Classical.propDecidable _
theorem validRows_ok (t : Ta) (hl : rsz t.rows ≤ 1048576) : Does Tryz.prog 117 [] [rowsD t.rows,I t.w] (Bo (decide (rOk t))) []:=by
 have hlen:=rsz_len t.rows
 have hr:=validWidth_ok t.w
 by_cases hw : 1 ≤ t.w ∧ t.w ≤ 6
 ·rw [decide_eq_true hw] at hr
  by_cases h4 : t.rows.length ≤ 400
  ·refine Bg c_Z99 mixed (go1 trivial ?_)
   refine Uc trivial (hr) (go1 trivial ?_)
   refine dw_for (c:=0) (l:=fun i=>[(1,I t.w),(15,rowsD t.rows),(16,I t.rows.length),(17,I i)]) t.rows.length (fun i=>∀ (j : Nat) (r : List V),j < i → t.rows[j]? = some r → rowOk r ∧ (r.length : Int) = t.w) 0 (fun j r hj=>by omega) (Wk.list [] rfl rfl ?_) (fun i hi hJ=>?_) (Nat.zero_le _)
   ·repeat' (first|(conv in hold _=>simp (disch:=omega) only [go_sem])|exact trivial|exact Sub.refl _|omega)
    exact rfl
   ·rcases at_or_end hi with ⟨x,hx,hlt⟩ | rfl
    ·have hxs:=rsz_mem (List.mem_of_getElem? hx)
     have hv:=implValidRow_ok x (by omega)
     by_cases h2 : (x.length : Int) = t.w
     ·by_cases h1 : rowOk x
      ·rw [decide_eq_true h1] at hv
       refine go1 @hx ?_
       refine Uc trivial (hv) (go1 trivial ?_)
       refine ⟨hlt,nextR (P:=fun _ r=>rowOk r ∧ (r.length : Int) = t.w) hx ⟨h1,h2⟩ hJ,Wk.list [] rfl rfl ?_⟩
       repeat' (first|(conv in hold _=>simp (disch:=omega) only [go_sem])|exact trivial|exact Sub.refl _|omega)
      ·rw [decide_eq_false h1] at hv
       refine go1 @hx ?_
       refine Uc trivial (hv) (go1 trivial ?_)
       exact sub_f (fun h=>h1 (h.2 i x hx).1)
     ·refine go1 @hx ?_
      exact sub_f (fun h=>h2 (h.2 i x hx).2)
    ·refine go1 trivial ?_
     exact sub_iff ⟨fun _=>⟨⟨hw,h4⟩,fun j r hj=>hJ j r (List.getElem?_eq_some_iff.1 hj).1 hj⟩,fun _=>rfl⟩
  ·refine Bg c_Z99 mixed (go1 trivial ?_)
   refine Uc trivial (hr) (go1 trivial ?_)
   exact sub_f (fun h=>h4 h.1.2)
 ·rw [decide_eq_false hw] at hr
  refine Bg c_Z99 mixed (go1 trivial ?_)
  refine Uc trivial (hr) (go1 trivial ?_)
  exact sub_f (fun h=>hw h.1.1)
end Go.Proofs.YtjngffbghkafaaaGreat
set_option maxHeartbeats 4000000
set_option maxRecDepth 100000
set_option linter.unusedVariables false
set_option linter.unusedSimpArgs false
namespace Go.Proofs.YtjngffbghkafaaaGreat
open Go.RowKit
def keyV (v : V) : Int:=if v.b = true then -10000 else v.n
theorem cmpV_key {a b : V} (ha : a.ok) (hb : b.ok) : (cmpV a b = 0 ∧ keyV a = keyV b) ∨ (cmpV a b = -1 ∧ keyV a < keyV b) ∨ (cmpV a b = 1 ∧ keyV b < keyV a):=by
 have h1:=ha.nul
 have h2:=hb.nul
 have h3:=ha.lo
 have h4:=hb.lo
 unfold cmpV keyV
 cases hab : a.b <;> cases hbb : b.b <;> simp [hab,hbb] at h1 h2 ⊢
 all_goals (repeat' split) <;> omega
theorem cmpR_trans : ∀ (a b c : List V),a.length = b.length → b.length = c.length → (∀ v,v ∈ a → v.ok) → (∀ v,v ∈ b → v.ok) → (∀ v,v ∈ c → v.ok) → cmpR a b ≤ 0 → (cmpR b c ≤ 0 → cmpR a c ≤ 0) ∧ (cmpR b c < 0 → cmpR a c < 0)
 | [],[],[],_,_,_,_,_,_=>⟨fun h=>h,fun h=>h⟩
 | [],[],_ :: _,_,h,_,_,_,_=>by simp at h
 | [],_ :: _,_,h,_,_,_,_,_=>by simp at h
 | _ :: _,[],_,h,_,_,_,_,_=>by simp at h
 | _ :: _,_ :: _,[],_,h,_,_,_,_=>by simp at h
 | x :: a,y :: b,z :: c,h,h',ha,hb,hc,hab=>by
  have hx:=ha x (List.mem_cons_self ..)
  have hy:=hb y (List.mem_cons_self ..)
  have hz:=hc z (List.mem_cons_self ..)
  have ih:=cmpR_trans a b c (by simpa using h) (by simpa using h') (fun v hv=>ha v (List.mem_cons_of_mem _ hv)) (fun v hv=>hb v (List.mem_cons_of_mem _ hv)) (fun v hv=>hc v (List.mem_cons_of_mem _ hv))
  have k1:=cmpV_key hx hy
  have k2:=cmpV_key hy hz
  have k3:=cmpV_key hx hz
  rw [cmpR] at hab
  rw [cmpR,cmpR]
  by_cases e1 : cmpV x y = 0
  ·rw [if_pos e1] at hab
   have ih:=ih hab
   by_cases e2 : cmpV y z = 0
   ·rw [if_pos e2,if_pos (show cmpV x z = 0 by omega)]
    exact ih
   ·rw [if_neg e2,if_neg (show ¬ cmpV x z = 0 by omega)]
    constructor <;> intro h <;> omega
  ·rw [if_neg e1] at hab
   by_cases e2 : cmpV y z = 0
   ·rw [if_pos e2,if_neg (show ¬ cmpV x z = 0 by omega)]
    constructor <;> intro h <;> omega
   ·rw [if_neg e2]
    by_cases e3 : cmpV x z = 0
    ·rw [if_pos e3]
     constructor <;> intro h <;> omega
    ·rw [if_neg e3]
     constructor <;> intro h <;> omega
theorem cmpV_self (a : V) : cmpV a a = 0:=cmpV_0 ⟨rfl,rfl⟩
theorem cmpR_self : ∀ a : List V,cmpR a a = 0
 | []=>rfl
 | x :: a=>by rw [cmpR,if_pos (cmpV_self x)]; exact cmpR_self a
theorem cmpV_eq {a b : V} (h : cmpV a b = 0) : a = b:=by
 unfold cmpV at h
 split at h
 ·rename_i h1
  cases a; cases b
  simp at h1
  obtain ⟨rfl,rfl⟩:=h1
  rfl
 ·split at h <;> omega
theorem cmpR_eq : ∀ {a b : List V},cmpR a b = 0 → a = b
 | [],[],_=>rfl
 | [],_ :: l,h=>by change ((0 : Nat) : Int) - ((l.length + 1 : Nat) : Int) = 0 at h; omega
 | _ :: l,[],h=>by change ((l.length + 1 : Nat) : Int) - ((0 : Nat) : Int) = 0 at h; omega
 | x :: a,y :: b,h=>by
  rw [cmpR] at h
  by_cases e : cmpV x y = 0
  ·rw [if_pos e] at h
   rw [cmpV_eq e,cmpR_eq h]
  ·rw [if_neg e] at h
   exact (e h).elim
def stepB (p : Nat → Bool) (s : Nat × Nat) : Nat × Nat:=if s.1 < s.2 then (if p ((s.1 + s.2) / 2) then (s.1,(s.1 + s.2) / 2) else ((s.1 + s.2) / 2 + 1,s.2)) else s
def itB (p : Nat → Bool) (n : Nat) : Nat → Nat × Nat
 | 0=>(0,n)
 | i + 1=>stepB p (itB p n i)
theorem itB_end {p : Nat → Bool} {n i : Nat} (h : ¬ (itB p n i).1 < (itB p n i).2) : ∀ d,itB p n (i + d) = itB p n i
 | 0=>rfl
 | d + 1=>by
  rw [← Nat.add_assoc,itB,itB_end h d]
  unfold stepB
  rw [if_neg h]
theorem itB_inv {p : Nat → Bool} {n : Nat} (hp : ∀ i j,i ≤ j → j < n → p i = true → p j = true) : ∀ i,((itB p n i).1 ≤ (itB p n i).2 ∧ (itB p n i).2 ≤ n ∧ (itB p n i).2 - (itB p n i).1 + i ≤ max n i) ∧ (∀ j,j < (itB p n i).1 → p j = false) ∧ (∀ j,(itB p n i).2 ≤ j → j < n → p j = true)
 | 0=>⟨⟨Nat.zero_le _,Nat.le_refl _,by show n - 0 + 0 ≤ max n 0; omega⟩,fun j hj=>absurd hj (Nat.not_lt_zero j),fun j (h1 : n ≤ j) h2=>by omega⟩
 | i + 1=>by
  obtain ⟨⟨h1,h2,h3⟩,h4,h5⟩:=itB_inv hp i
  rw [itB]
  generalize itB p n i = s at h1 h2 h3 h4 h5
  obtain ⟨lo,hi⟩:=s
  simp only at h1 h2 h3 h4 h5
  unfold stepB
  by_cases hlt : lo < hi
  ·simp only [hlt,if_true]
   cases hm : p ((lo + hi) / 2) with
   | true=>
    simp only [if_true]
    refine ⟨⟨by omega,by omega,by omega⟩,h4,fun j hj hjn=>?_⟩
    exact hp _ j hj hjn hm
   | false=>
    simp only [Bool.false_eq_true,if_false]
    refine ⟨⟨by omega,by omega,by omega⟩,fun j hj=>?_,h5⟩
    cases hj' : p j with
    | false=>rfl
    | true=>rw [hp j ((lo + hi) / 2) (by omega) (by omega) hj'] at hm; cases hm
  ·simp only [hlt,if_false]
   exact ⟨⟨h1,h2,by omega⟩,h4,h5⟩
end Go.Proofs.YtjngffbghkafaaaGreat
set_option maxHeartbeats 4000000
set_option maxRecDepth 100000
set_option linter.unusedVariables false
set_option linter.unusedSimpArgs false
namespace Go.Proofs.YtjngffbghkafaaaGreat
open Go.RowKit
def itr (v : V) : Int:=if v.b = true then 1 else if v.n = 0 then 0 else 2
def itv (n : Int) : V:=if n = 0 then ⟨false,0⟩ else if n = 2 then ⟨false,1⟩ else ⟨true,0⟩
theorem itr_range (v : V) : 0 ≤ itr v ∧ itr v ≤ 2:=by
 unfold itr
 split
 ·decide
 ·split <;> decide
theorem itv_b2i (b : Bool) : itv (if b = true then 2 else 0) = ⟨false,b2i b⟩:=by cases b <;> rfl
theorem itv_not (v : V) : itv (2 - itr v) = ofTr (notTr (tr v)):=by
 unfold itr tr
 split
 ·rfl
 ·split <;> rfl
theorem itv_and (a b : V) : itv (min (itr a) (itr b)) = ofTr (andTr (tr a) (tr b)):=by
 unfold itr tr
 repeat' split
 all_goals rfl
theorem itv_or (a b : V) : itv (max (itr a) (itr b)) = ofTr (notTr (andTr (notTr (tr a)) (notTr (tr b)))):=by
 unfold itr tr
 repeat' split
 all_goals rfl
theorem truth_of_ok (v : V) : Does Tryz.prog 181 [] [vD v] (I (itr v)) []:=by
 unfold itr
 refine does0 c_Z66 mixed (Nat.le_of_ble_eq_true rfl) ?_
 conv=>arg 3; whnf
 repeat' (first|with_reducible refine acc_none ?_ | (conv in hold _=>simp (disch:=omega) only [go_sem])|refine Stp.go ?_|(with_reducible first|refine it_pos rfl ?_|refine it_neg (by decide) ?_|refine st_nil rfl ?_|refine s_op ?_ ?_|exact trivial)|((with_reducible first|refine dw_reg0 ?_|refine dw_regB ?_);(conv=>arg 3;whnf))|(refine Spl.go (fun hq he=>?_) (fun hq he=>?_)<;>first|(exfalso;clear hq;omega)|((try first|(conv=>arg 8;simp only [hq])|(conv=>arg 4;simp only [hq]));clear hq))|((with_reducible first|refine c_split (fun hq=>?_) (fun hq=>?_)|refine q_split (fun hq=>?_) (fun hq=>?_))<;>(try first|(conv=>arg 8;simp only [hq])|(conv=>arg 4;simp only [hq])))|(with_reducible refine fin_0 ?_ (by first|rfl|(conv=>lhs;simp only [go_sem])) ?_)|exact Sub.refl _|omega)
 ·rw [if_pos hq]; exact Sub.refl _
 ·rw [if_neg (by rw [hq]; decide),if_pos he]; exact Sub.refl _
 ·rw [if_neg (by rw [hq]; decide),if_neg he]; exact Sub.refl _
end Go.Proofs.YtjngffbghkafaaaGreat
set_option maxHeartbeats 4000000
set_option maxRecDepth 100000
namespace Go.Proofs.YtjngffbghkafaaaGreat
open Go.ChangeShapes Go.WideShapes Go.ChangeAt Go.RowKit Go.Joins Go.Deep
inductive Pl where
 | mk (k t : Int) (es : List E) (cs : List Int) (ks : List Pl)
namespace Pl
def k : Pl → Int
 | mk k _ _ _ _=>k
def t : Pl → Int
 | mk _ t _ _ _=>t
def es : Pl → List E
 | mk _ _ es _ _=>es
def cs : Pl → List Int
 | mk _ _ _ cs _=>cs
def ks : Pl → List Pl
 | mk _ _ _ _ ks=>ks
end Pl
mutual
def pD : Pl → D
 | .mk k t es cs ks=>.agg [I k,I t,.sl 5 (es.map eD),intsD cs,.sl 5 (pDL ks)]
def pDL : List Pl → List D
 | []=>[]
 | p :: l=>pD p :: pDL l
end
theorem pDL_map : ∀ l : List Pl,pDL l = l.map pD
 | []=>by rw [pDL]; rfl
 | p :: l=>by rw [pDL,pDL_map l]; rfl
theorem pD_eq (p : Pl) : pD p = .agg [I p.k,I p.t,.sl 5 (p.es.map eD),intsD p.cs,.sl 5 (p.ks.map pD)]:=by
 cases p with
 | mk k t es cs ks=>rw [pD,pDL_map]; rfl
theorem plans_pur : ∀ l : List Pl,D.purL (l.map pD) = true
 | []=>rfl
 | p :: l=>by rw [List.map_cons,D.purL,plans_pur l,pD_eq]; rfl
theorem plans_ren (L : List Nat) (l : List Pl) : D.renL L (l.map pD) = l.map pD:=ren_pure.renL_pure L _ (plans_pur l)
theorem Pl.k_mk (k t : Int) (es : List E) (cs : List Int) (ks : List Pl) : (Pl.mk k t es cs ks).k = k:=rfl
theorem Pl.t_mk (k t : Int) (es : List E) (cs : List Int) (ks : List Pl) : (Pl.mk k t es cs ks).t = t:=rfl
theorem Pl.es_mk (k t : Int) (es : List E) (cs : List Int) (ks : List Pl) : (Pl.mk k t es cs ks).es = es:=rfl
theorem Pl.cs_mk (k t : Int) (es : List E) (cs : List Int) (ks : List Pl) : (Pl.mk k t es cs ks).cs = cs:=rfl
theorem Pl.ks_mk (k t : Int) (es : List E) (cs : List Int) (ks : List Pl) : (Pl.mk k t es cs ks).ks = ks:=rfl
attribute [go_sem] pD_eq plans_pur plans_ren Pl.k_mk Pl.t_mk Pl.es_mk Pl.cs_mk Pl.ks_mk
mutual
theorem Pl.indA {P : Pl → Prop} (h : ∀ p,(∀ x,x ∈ p.ks → P x) → P p) : ∀ p,P p
 | .mk k t es cs ks=>h (.mk k t es cs ks) (Pl.indL h ks)
theorem Pl.indL {P : Pl → Prop} (h : ∀ p,(∀ x,x ∈ p.ks → P x) → P p) : ∀ l : List Pl,∀ x,x ∈ l → P x
 | []=>fun _ hx=>by cases hx
 | p :: l=>fun x hx=>(List.mem_cons.1 hx).elim (fun he=>he.symm ▸ Pl.indA h p) (Pl.indL h l x)
end
inductive MostP : Pl → Prop
 | mk {k t : Int} {es : List E} {cs : List Int} {ks : List Pl} (h1 : es.length ≤ big) (h2 : ∀ x,x ∈ es → Most x) (h3 : cs.length ≤ big) (h4 : ks.length ≤ big) (h5 : ∀ x,x ∈ ks → MostP x) : MostP (.mk k t es cs ks)
theorem MostP.lens {p : Pl} (h : MostP p) : p.es.length ≤ big ∧ p.cs.length ≤ big ∧ p.ks.length ≤ big:=by cases h with | mk h1 _ h3 h4 _=>exact ⟨h1,h3,h4⟩
theorem MostP.expr {p : Pl} {x : E} (h : MostP p) (hx : x ∈ p.es) : Most x:=by cases h with | mk _ h2 _ _ _=>exact h2 x hx
theorem MostP.kid {p x : Pl} (h : MostP p) (hx : x ∈ p.ks) : MostP x:=by cases h with | mk _ _ _ _ h5=>exact h5 x hx
mutual
def psz : Pl → Nat
 | .mk _ _ es cs ks=>eszL es + cs.length + pszL ks
def pszL : List Pl → Nat
 | []=>0
 | p :: l=>1 + psz p + pszL l
end
theorem psz_eq (p : Pl) : psz p = eszL p.es + p.cs.length + pszL p.ks:=by cases p; rfl
theorem pszL_append : ∀ (l m : List Pl),pszL (l ++ m) = pszL l + pszL m
 | [],m=>by rw [List.nil_append,pszL,Nat.zero_add]
 | e :: l,m=>by rw [List.cons_append,pszL,pszL,pszL_append l m]; omega
theorem pszL_next {ps : List Pl} {i : Nat} {x : Pl} (h : ps[i]? = some x) : pszL (ps.take (i + 1)) = pszL (ps.take i) + (1 + psz x):=by
 rw [take_next h,pszL_append,pszL,pszL]
 omega
theorem pszL_len : ∀ l : List Pl,l.length ≤ pszL l
 | []=>Nat.le_refl _
 | e :: l=>by
  have:=pszL_len l
  rw [pszL,List.length_cons]
  omega
theorem pszL_rest (ps : List Pl) (i : Nat) : pszL (ps.take i) + (ps.length - i) ≤ pszL ps:=by
 have h1:=pszL_append (ps.take i) (ps.drop i)
 rw [List.take_append_drop] at h1
 have h2:=pszL_len (ps.drop i)
 rw [List.length_drop] at h2
 omega
theorem pszL_low (ps : List Pl) (i : Nat) (hi : i ≤ ps.length) : i ≤ pszL (ps.take i):=by
 have h:=pszL_len (ps.take i)
 rw [List.length_take] at h
 omega
theorem pszL_mem {p : Pl} {l : List Pl} (h : p ∈ l) : psz p + 1 ≤ pszL l:=by
 induction l with
 | nil=>cases h
 | cons x l ih=>
  rw [pszL]
  rcases List.mem_cons.1 h with rfl | h
  ·omega
  ·have:=ih h; omega
theorem cells_LP : Tryz.prog.cellsOf 26 = 5:=by kernel_rfl
section
variable {H : Type} {enc : TypeId × Value → H} {W : World} {base b0 : Nat} {held : Bool} {r : Reach} {v : Value} {d : DataW H} {p : List MemPlace}
theorem trod_5 {P : Program} {spare : Nat → Bool} {t : TypeId} {f0 f1 f2 f3 f4 : Field} {fuel : Nat} {cs : List Value} {x : DataW H × List MemPlace} (ht : P.underlying t = some (.struct #[f0,f1,f2,f3,f4])) (h : DataW.trod enc P W base spare held fuel t cs = some x) :
  ∃ y0 y1 y2 y3 y4 n,fuel = n + 1 ∧ cs.length = P.cellsOf t ∧ DataW.trod enc P W base spare held n f0.type ((cs.drop f0.offset).take (P.cellsOf f0.type)) = some y0 ∧
   DataW.trod enc P W base spare held n f1.type ((cs.drop f1.offset).take (P.cellsOf f1.type)) = some y1 ∧ DataW.trod enc P W base spare held n f2.type ((cs.drop f2.offset).take (P.cellsOf f2.type)) = some y2 ∧
   DataW.trod enc P W base spare held n f3.type ((cs.drop f3.offset).take (P.cellsOf f3.type)) = some y3 ∧ DataW.trod enc P W base spare held n f4.type ((cs.drop f4.offset).take (P.cellsOf f4.type)) = some y4:=by
 obtain ⟨xs,n,hn,_,hl,hlen,hf⟩:=DataW.trod_struct ht h
 have hs : xs.length = 5:=by simpa using hlen
 match xs,hs with
 | [y0,y1,y2,y3,y4],_=>exact ⟨y0,y1,y2,y3,y4,n,hn,hl,by simpa using hf 0 f0 rfl,by simpa using hf 1 f1 rfl,by simpa using hf 2 f2 rfl,by simpa using hf 3 f3 rfl,by simpa using hf 4 f4 rfl⟩
set_option maxRecDepth 100000 in
theorem trod_Pl : ∀ (fuel : Nat) (cs : List Value) (x : DataW H × List MemPlace),DataW.trod enc Tryz.prog W base (fun _=>true) held fuel 26 cs = some x →
  ∃ p : Pl,CellsOK W (allOf W) noNames (pD p).cells cs ∧ MostP p:=by
 intro fuel
 induction fuel using Nat.strongRecOn with
 | ind fuel IH=>
  intro cs x h
  obtain ⟨y0,y1,y2,y3,y4,n,rfl,hl,h0,h1,h2,h3,h4⟩:=trod_5 Tryz.underlying26 h
  rw [cells_LP] at hl
  match cs,hl with
  | [c0,c1,c2,c3,c4],_=>
   have e1 : (Tryz.prog.cellsOf 22) = 1:=by kernel_rfl
   have e2 : (Tryz.prog.cellsOf 23) = 1:=by kernel_rfl
   have e3 : (Tryz.prog.cellsOf 24) = 1:=by kernel_rfl
   simp only [cells_int,e1,e2,e3,List.drop_zero,List.drop_succ_cons,List.take_succ_cons,List.take_zero] at h0 h1 h2 h3 h4
   obtain ⟨k,q0⟩:=int_fz Tryz.underlying3 h0
   obtain ⟨t,q1⟩:=int_fz Tryz.underlying3 h1
   obtain ⟨es,he,hel,q2⟩:=slice_fz Tryz.underlying22 cells_LE (by decide) eD Most h2 (fun n' hn' cs' x' h'=>by
    obtain ⟨e,ho,hm⟩:=trod_Ex n' cs' x' h'
    exact ⟨e,by rw [eD_eq]; rfl,ho,hm⟩)
   obtain ⟨l,hll,q3⟩:=trod_ints h3
   obtain ⟨ks,hk,hkl,q4⟩:=slice_fz Tryz.underlying24 cells_LP (by decide) pD MostP h4 (fun n' hn' cs' x' h'=>by
    obtain ⟨e,ho,hm⟩:=IH n' (by omega) cs' x' h'
    exact ⟨e,by rw [pD_eq]; rfl,ho,hm⟩)
   exact ⟨.mk k t es l ks,by rw [pD_eq]; exact q0.append (q1.append (q2.append (q3.append q4))),.mk hel he hll hkl hk⟩
def IsP (w : World) (v : Value) (p : Pl) : Prop:=MostP p ∧ Fz w (allOf w) noNames (pD p) v
set_option maxRecDepth 100000 in
theorem open_pP (hv : Value.okWide Tryz.prog W r b0 26 v) (h : DataW.Trod enc Tryz.prog W base (fun _=>true) held 26 v d p) (_lt : ∀ x ∈ p,x.block < W.heap.size) :
  ∃ q : Pl,IsP W v q:=by
 obtain ⟨cs,rfl,_⟩:=okWide_struct Tryz.underlying26 hv
 obtain ⟨fuel,hf⟩:=h
 obtain ⟨q,ho,hm⟩:=trod_Pl fuel _ _ hf
 refine ⟨q,hm,?_⟩
 rw [pD_eq] at ho ⊢
 exact agg_fz ho
end
end Go.Proofs.YtjngffbghkafaaaGreat
