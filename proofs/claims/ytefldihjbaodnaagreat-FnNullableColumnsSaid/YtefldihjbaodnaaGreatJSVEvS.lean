/-
  Plans as plain data, and those that come in. No condition.
-/
import Derived.Test.YtefldihjbaodnaaGreatJSVDraw
import Derived.Test.YtefldihjbaodnaaGreatKSDca
import Derived.Test.YtefldihjbaodnaaGreatJSVTbD
import Derived.Test.YtefldihjbaodnaaGreatJSVGo
import Derived.Test.YtefldihjbaodnaaGreatJSDcWPRowE
import Derived.Test.YtefldihjbaodnaaGreatKSDcc
import Derived.Test.YtefldihjbaodnaaGreatKSVVa
import Derived.Test.YtefldihjbaodnaaGreatJSVEvI
set_option maxHeartbeats 4000000
set_option maxRecDepth 100000
namespace Go.Proofs.YtefldihjbaodnaaGreat
open Go.ChangeShapes Go.WideShapes Go.ChangeAt Go.RowKit Go.Joins Go.Deep
inductive Pl where
 | mk (k t : Int) (es : List E) (cs : List Int) (ks : List Pl)
namespace Pl
def k : Pl → Int
 | mk k _ _ _ _=>k
def t : Pl → Int
 | mk _ t _ _ _=>t
def es : Pl → List E
 | mk _ _ es _ _=>es
def cs : Pl → List Int
 | mk _ _ _ cs _=>cs
def ks : Pl → List Pl
 | mk _ _ _ _ ks=>ks
end Pl
mutual
def pD : Pl → D
 | .mk k t es cs ks=>.agg [I k,I t,.sl 5 (es.map eD),intsD cs,.sl 5 (pDL ks)]
def pDL : List Pl → List D
 | []=>[]
 | p :: l=>pD p :: pDL l
end
theorem pDL_map : ∀ l : List Pl,pDL l = l.map pD
 | []=>by rw [pDL]; rfl
 | p :: l=>by rw [pDL,pDL_map l]; rfl
theorem pD_eq (p : Pl) : pD p = .agg [I p.k,I p.t,.sl 5 (p.es.map eD),intsD p.cs,.sl 5 (p.ks.map pD)]:=by
 cases p with
 | mk k t es cs ks=>rw [pD,pDL_map]; rfl
theorem plans_pur : ∀ l : List Pl,D.purL (l.map pD) = true
 | []=>rfl
 | p :: l=>by rw [List.map_cons,D.purL,plans_pur l,pD_eq]; rfl
theorem plans_ren (L : List Nat) (l : List Pl) : D.renL L (l.map pD) = l.map pD:=ren_pure.renL_pure L _ (plans_pur l)
theorem Pl.k_mk (k t : Int) (es : List E) (cs : List Int) (ks : List Pl) : (Pl.mk k t es cs ks).k = k:=rfl
theorem Pl.t_mk (k t : Int) (es : List E) (cs : List Int) (ks : List Pl) : (Pl.mk k t es cs ks).t = t:=rfl
theorem Pl.es_mk (k t : Int) (es : List E) (cs : List Int) (ks : List Pl) : (Pl.mk k t es cs ks).es = es:=rfl
theorem Pl.cs_mk (k t : Int) (es : List E) (cs : List Int) (ks : List Pl) : (Pl.mk k t es cs ks).cs = cs:=rfl
theorem Pl.ks_mk (k t : Int) (es : List E) (cs : List Int) (ks : List Pl) : (Pl.mk k t es cs ks).ks = ks:=rfl
attribute [go_sem] pD_eq plans_pur plans_ren Pl.k_mk Pl.t_mk Pl.es_mk Pl.cs_mk Pl.ks_mk
mutual
theorem Pl.indA {P : Pl → Prop} (h : ∀ p,(∀ x,x ∈ p.ks → P x) → P p) : ∀ p,P p
 | .mk k t es cs ks=>h (.mk k t es cs ks) (Pl.indL h ks)
theorem Pl.indL {P : Pl → Prop} (h : ∀ p,(∀ x,x ∈ p.ks → P x) → P p) : ∀ l : List Pl,∀ x,x ∈ l → P x
 | []=>fun _ hx=>by cases hx
 | p :: l=>fun x hx=>(List.mem_cons.1 hx).elim (fun he=>he.symm ▸ Pl.indA h p) (Pl.indL h l x)
end
inductive MostP : Pl → Prop
 | mk {k t : Int} {es : List E} {cs : List Int} {ks : List Pl} (h1 : es.length ≤ big) (h2 : ∀ x,x ∈ es → Most x) (h3 : cs.length ≤ big) (h4 : ks.length ≤ big) (h5 : ∀ x,x ∈ ks → MostP x) : MostP (.mk k t es cs ks)
theorem MostP.lens {p : Pl} (h : MostP p) : p.es.length ≤ big ∧ p.cs.length ≤ big ∧ p.ks.length ≤ big:=by cases h with | mk h1 _ h3 h4 _=>exact ⟨h1,h3,h4⟩
mutual
def psz : Pl → Nat
 | .mk _ _ es cs ks=>eszL es + cs.length + pszL ks
def pszL : List Pl → Nat
 | []=>0
 | p :: l=>1 + psz p + pszL l
end
theorem psz_eq (p : Pl) : psz p = eszL p.es + p.cs.length + pszL p.ks:=by cases p; rfl
theorem pszL_len : ∀ l : List Pl,l.length ≤ pszL l
 | []=>Nat.le_refl _
 | e :: l=>by
  have:=pszL_len l
  rw [pszL,List.length_cons]
  omega
theorem pszL_mem {p : Pl} {l : List Pl} (h : p ∈ l) : psz p + 1 ≤ pszL l:=by
 induction l with
 | nil=>cases h
 | cons x l ih=>
  rw [pszL]
  rcases List.mem_cons.1 h with rfl | h
  ·omega
  ·have:=ih h; omega
section
variable {H : Type} {enc : TypeId × Value → H} {W : World} {base b0 : Nat} {held : Bool} {r : Reach} {v : Value} {d : DataW H} {p : List MemPlace}
end
end Go.Proofs.YtefldihjbaodnaaGreat
set_option maxHeartbeats 4000000
set_option maxRecDepth 100000
namespace Go.Proofs.YtefldihjbaodnaaGreat
open Go.RowKit
theorem compareRows_spec (a b : List V) (ha : a.length < 2000000) (hb : b.length < 2000000) : Does Tryz.prog 132 [] [rowD a,rowD b] (I (cmpR a b)) []:=by
 refine Bg c_Z109 mixed (go1 trivial ?_)
 refine dw_for (c:=0) (l:=fun i=>[(0,rowD a),(1,rowD b),(5,I i)]) (min a.length b.length) (fun i=>∀ (j : Nat) (x y : V),j < i → a[j]? = some x → b[j]? = some y → cmpV x y = 0) 0 (fun j x y hj=>by omega) (Wk.list [] rfl rfl ?_) (fun i hi hJ=>?_) (Nat.zero_le _)
 ·repeat' (first|(conv in hold _=>simp (disch:=omega) only [go_sem])|exact trivial|exact Sub.refl _|omega)
  exact rfl
 ·by_cases hil : i < min a.length b.length
  ·obtain ⟨x,hx⟩ : ∃ x,a[i]? = some x:=⟨_,List.getElem?_eq_getElem (by omega)⟩
   obtain ⟨y,hy⟩ : ∃ y,b[i]? = some y:=⟨_,List.getElem?_eq_getElem (by omega)⟩
   have hc:=compareValues_ok x y
   by_cases h0 : cmpV x y = 0
   ·refine go1 (cj2 @hx @hy) ?_
    refine Uc trivial (hc) (go1 trivial ?_)
    refine ⟨hil,fun j x' y' hj hx' hy'=>?_,Wk.list [] rfl rfl ?_⟩
    ·by_cases hji : j = i
     ·subst hji
      rw [hx] at hx'
      rw [hy] at hy'
      cases hx'
      cases hy'
      exact h0
     ·exact hJ j x' y' (by omega) hx' hy'
    ·repeat' (first|(conv in hold _=>simp (disch:=omega) only [go_sem])|exact trivial|exact Sub.refl _|omega)
   ·rw [cmpR_hit a b i x y hJ hx hy h0]
    refine go1 (cj2 @hx @hy) ?_
    exact Uc trivial (hc) (go0 trivial)
  ·rw [cmpR_end a b (fun j x y hx hy=>hJ j x y (by have:=(List.getElem?_eq_some_iff.1 hx).1; have:=(List.getElem?_eq_some_iff.1 hy).1; omega) hx hy)]
   exact go0 trivial
theorem compareRows_impl (a b : List V) (hab : a.length = b.length) (hl : a.length < 2000000) (ha : ∀ v,v ∈ a → v.ok) (hb : ∀ v,v ∈ b → v.ok) : Does Tryz.prog 69 [] [rowD a,rowD b] (I (cmpR a b)) []:=by
 refine Bg c_Z96 mixed (go1 trivial ?_)
 refine dw_for (c:=0) (l:=fun i=>[(0,rowD a),(1,rowD b),(8,I a.length),(9,I i)]) a.length (fun i=>∀ (j : Nat) (x y : V),j < i → a[j]? = some x → b[j]? = some y → cmpV x y = 0) 0 (fun j x y hj=>by omega) (Wk.list [] rfl rfl ?_) (fun i hi hJ=>?_) (Nat.zero_le _)
 ·repeat' (first|(conv in hold _=>simp (disch:=omega) only [go_sem])|exact trivial|exact Sub.refl _|omega)
  exact rfl
 ·by_cases hil : i < a.length
  ·obtain ⟨x,hx⟩ : ∃ x,a[i]? = some x:=⟨_,List.getElem?_eq_getElem (by omega)⟩
   obtain ⟨y,hy⟩ : ∃ y,b[i]? = some y:=⟨_,List.getElem?_eq_getElem (by omega)⟩
   have hc:=Value_compare_ok x y (ha x (List.mem_of_getElem? hx)) (hb y (List.mem_of_getElem? hy))
   by_cases h0 : cmpV x y = 0
   ·refine go1 (cj2 @hx @hy) ?_
    refine Uc trivial (hc) (go1 trivial ?_)
    refine ⟨hil,fun j x' y' hj hx' hy'=>?_,Wk.list [] rfl rfl ?_⟩
    ·by_cases hji : j = i
     ·subst hji
      rw [hx] at hx'
      rw [hy] at hy'
      cases hx'
      cases hy'
      exact h0
     ·exact hJ j x' y' (by omega) hx' hy'
    ·repeat' (first|(conv in hold _=>simp (disch:=omega) only [go_sem])|exact trivial|exact Sub.refl _|omega)
   ·rw [cmpR_hit a b i x y hJ hx hy h0]
    refine go1 (cj2 @hx @hy) ?_
    exact Uc trivial (hc) (go0 trivial)
  ·rw [cmpR_end a b (fun j x y hx hy=>hJ j x y (by have:=(List.getElem?_eq_some_iff.1 hx).1; omega) hx hy),show (a.length : Int) - b.length = 0 by omega]
   exact go0 trivial
theorem cmpV_anti {a b : V} (ha : a.ok) (hb : b.ok) : cmpV b a = - cmpV a b:=by
 have h1:=ha.nul
 have h2:=hb.nul
 unfold cmpV
 cases hab : a.b <;> cases hbb : b.b <;> simp [hab,hbb] at h1 h2 ⊢
 all_goals (repeat' split) <;> omega
theorem cmpR_anti : ∀ (a b : List V),a.length = b.length → (∀ v,v ∈ a → v.ok) → (∀ v,v ∈ b → v.ok) → cmpR b a = - cmpR a b
 | [],[],_,_,_=>by decide
 | [],_ :: _,h,_,_=>by simp at h
 | _ :: _,[],h,_,_=>by simp at h
 | x :: a,y :: b,h,ha,hb=>by
  have hv:=cmpV_anti (ha x (List.mem_cons_self ..)) (hb y (List.mem_cons_self ..))
  have hr:=cmpR_anti a b (by simpa using h) (fun v hv=>ha v (List.mem_cons_of_mem _ hv)) (fun v hv=>hb v (List.mem_cons_of_mem _ hv))
  rw [cmpR,cmpR,hv]
  by_cases h0 : cmpV x y = 0
  ·rw [if_pos (by omega),if_pos h0,hr]
  ·rw [if_neg (by omega),if_neg h0]
end Go.Proofs.YtefldihjbaodnaaGreat
set_option maxHeartbeats 4000000
set_option maxRecDepth 100000
set_option linter.unusedVariables false
set_option linter.unusedSimpArgs false
namespace Go.Proofs.YtefldihjbaodnaaGreat
open Go.RowKit
noncomputable instance rowsDec : DecidableEq (List (List V)):=fun a b=>Classical.propDecidable _
noncomputable instance taDec : DecidableEq Ta:=fun a b=>Classical.propDecidable _
theorem rowNe_ok (a b : List V) (ha : a.length < 1000000) (hb : b.length < 1000000) : Does Tryz.prog 81 [] [rowD a,rowD b] (Bo (decide (a = b))) []:=by
 by_cases hl : a.length = b.length
 ·exact equalRows_gen a b hl ha
 ·have h : decide (a = b) = false:=decide_eq_false (fun e=>hl (by rw [e]))
  rw [h]
  exact Bg c_Z142 mixed (go0 trivial)
theorem equalBags_ok (a b : List (List V)) (ha : a.length < 1000000) (hra : ∀ r,r ∈ a → r.length < 1000000) (hrb : ∀ r,r ∈ b → r.length < 1000000) : Does Tryz.prog 36 [] [rowsD a,rowsD b] (Bo (decide (a = b))) []:=by
 by_cases hl : a.length = b.length
 ·refine Bg c_Z141 mixed (go1 trivial ?_)
  refine dw_for (c:=0) (l:=fun i=>[(0,rowsD a),(1,rowsD b),(5,I i)]) a.length (fun i=>∀ (j : Nat) (x : List V),j < i → a[j]? = some x → b[j]? = some x) 0 (by omega) (Wk.list [] rfl rfl ?_) (fun i hi hJ=>?_) (Nat.zero_le _)
  ·repeat' (first|(conv in hold _=>simp (disch:=omega) only [go_sem])|exact trivial|exact Sub.refl _|omega)
   exact rfl
  ·rcases at_or_end hi with ⟨x,hx,hlt⟩ | rfl
   ·obtain ⟨y,hy⟩ : ∃ y,b[i]? = some y:=⟨_,List.getElem?_eq_getElem (by omega)⟩
    have hc:=rowNe_ok x y (hra x (List.mem_of_getElem? hx)) (hrb y (List.mem_of_getElem? hy))
    by_cases hxy : x = y
    ·rw [decide_eq_true hxy] at hc
     refine go1 (cj2 @hx @hy) ?_
     refine Uc trivial (hc) (go1 trivial ?_)
     refine ⟨hlt,fun j z hj hz=>?_,Wk.list [] rfl rfl ?_⟩
     ·by_cases e : j = i
      ·subst e
       rw [hx] at hz
       cases hz
       rw [hy,hxy]
      ·exact hJ j z (by omega) hz
     ·repeat' (first|(conv in hold _=>simp (disch:=omega) only [go_sem])|exact trivial|exact Sub.refl _|omega)
    ·rw [decide_eq_false hxy] at hc
     refine go1 (cj2 @hx @hy) ?_
     refine Uc trivial (hc) (go1 trivial ?_)
     exact sub_f (fun e=>by
      rw [e,hy] at hx
      exact hxy (by simpa using hx.symm))
   ·refine go1 trivial ?_
    exact sub_t (List.ext_getElem? (fun j=>by
     by_cases hj : j < a.length
     ·have hx:=List.getElem?_eq_getElem hj
      rw [hJ j _ hj hx,hx]
     ·rw [List.getElem?_eq_none (by omega),List.getElem?_eq_none (by omega)]))
 ·have h : decide (a = b) = false:=decide_eq_false (fun e=>hl (by rw [e]))
  rw [h]
  exact Bg c_Z141 mixed (go0 trivial)
def smallT (t : Ta) : Prop:=t.rows.length < 1000000 ∧ ∀ r,r ∈ t.rows → r.length < 1000000
theorem equalTables_ok (t u : Ta) (ht : smallT t) (hu : smallT u) : Does Tryz.prog 9 [] [taD t,taD u] (Bo (decide (t = u))) []:=by
 have hb:=equalBags_ok t.rows u.rows ht.1 ht.2 hu.2
 by_cases hw : t.w = u.w
 ·refine Bg c_Z108 mixed (go1 trivial ?_)
  refine Uc trivial (hb) (go1 trivial ?_)
  refine Sub.of_eq (congrArg (fun b=>D.v (Value.bool b)) ?_)
  by_cases hr : t.rows = u.rows
  ·rw [decide_eq_true hr,decide_eq_true (by cases t; cases u; simp only at hw hr; rw [hw,hr])]
  ·rw [decide_eq_false hr,decide_eq_false (fun e=>hr (by rw [e]))]
 ·have h : decide (t = u) = false:=decide_eq_false (fun e=>hw (by rw [e]))
  rw [h]
  exact Bg c_Z108 mixed (go0 trivial)
theorem equalTables_same (t : Ta) (ht : smallT t) : Does Tryz.prog 9 [] [taD t,taD t] (Bo true) []:=by
 have:=equalTables_ok t t ht ht
 rwa [decide_eq_true rfl] at this
end Go.Proofs.YtefldihjbaodnaaGreat
set_option maxHeartbeats 4000000
set_option maxRecDepth 100000
namespace Go.Proofs.YtefldihjbaodnaaGreat
open Go.RowKit
theorem truth_ok (v : V) : Does Tryz.prog 186 [] [vD v] (I (tr v)) []:=by
 unfold tr
 refine does0 c_Z200 mixed (Nat.le_of_ble_eq_true rfl) ?_
 conv=>arg 3; whnf
 repeat' (first|with_reducible refine acc_none ?_ | (conv in hold _=>simp (disch:=omega) only [go_sem])|refine Stp.go ?_|(with_reducible first|refine it_pos rfl ?_|refine it_neg (by decide) ?_|refine st_nil rfl ?_|refine s_op ?_ ?_|exact trivial)|((with_reducible first|refine dw_reg0 ?_|refine dw_regB ?_);(conv=>arg 3;whnf))|(refine Spl.go (fun hq he=>?_) (fun hq he=>?_)<;>first|(exfalso;clear hq;omega)|((try first|(conv=>arg 8;simp only [hq])|(conv=>arg 4;simp only [hq]));clear hq))|((with_reducible first|refine c_split (fun hq=>?_) (fun hq=>?_)|refine q_split (fun hq=>?_) (fun hq=>?_))<;>(try first|(conv=>arg 8;simp only [hq])|(conv=>arg 4;simp only [hq])))|(with_reducible refine fin_0 ?_ (by first|rfl|(conv=>lhs;simp only [go_sem])) ?_)|exact Sub.refl _|omega)
 ·rw [if_pos hq]; exact Sub.refl _
 ·rw [if_neg (by rw [hq]; decide),if_pos he]; exact Sub.refl _
 ·rw [if_neg (by rw [hq]; decide),if_neg he]; exact Sub.refl _
theorem ofTruth_ok (n : Int) : Does Tryz.prog 187 [] [I n] (vD (ofTr n)) []:=by
 refine does0 c_Z188 mixed (Nat.le_of_ble_eq_true rfl) ?_
 conv=>arg 3; whnf
 repeat' (first|with_reducible refine acc_none ?_ | (conv in hold _=>simp (disch:=omega) only [go_sem])|refine Stp.go ?_|(with_reducible first|refine it_pos rfl ?_|refine it_neg (by decide) ?_|refine st_nil rfl ?_|refine s_op ?_ ?_|exact trivial)|((with_reducible first|refine dw_reg0 ?_|refine dw_regB ?_);(conv=>arg 3;whnf))|(refine Spl.go (fun hq he=>?_) (fun hq he=>?_)<;>first|(exfalso;clear hq;omega)|((try first|(conv=>arg 8;simp only [hq])|(conv=>arg 4;simp only [hq]));clear hq))|((with_reducible first|refine c_split (fun hq=>?_) (fun hq=>?_)|refine q_split (fun hq=>?_) (fun hq=>?_))<;>(try first|(conv=>arg 8;simp only [hq])|(conv=>arg 4;simp only [hq])))|(with_reducible refine fin_0 ?_ (by first|rfl|(conv=>lhs;simp only [go_sem])) ?_)|exact Sub.refl _|omega)
 ·rw [show ofTr n = ⟨true,0⟩ from if_pos he]; exact Sub.refl _
 ·rw [show ofTr n = ⟨false,n⟩ from if_neg he]; exact Sub.refl _
theorem andTruth_ok (a b : Int) : Does Tryz.prog 209 [] [I a,I b] (I (andTr a b)) []:=by
 refine does0 c_Z165 mixed (Nat.le_of_ble_eq_true rfl) ?_
 conv=>arg 3; whnf
 repeat' (first|with_reducible refine acc_none ?_ | (conv in hold _=>simp (disch:=omega) only [go_sem])|refine Stp.go ?_|(with_reducible first|refine it_pos rfl ?_|refine it_neg (by decide) ?_|refine st_nil rfl ?_|refine s_op ?_ ?_|exact trivial)|((with_reducible first|refine dw_reg0 ?_|refine dw_regB ?_);(conv=>arg 3;whnf))|(refine Spl.go (fun hq he=>?_) (fun hq he=>?_)<;>first|(exfalso;clear hq;omega)|((try first|(conv=>arg 8;simp only [hq])|(conv=>arg 4;simp only [hq]));clear hq))|((with_reducible first|refine c_split (fun hq=>?_) (fun hq=>?_)|refine q_split (fun hq=>?_) (fun hq=>?_))<;>(try first|(conv=>arg 8;simp only [hq])|(conv=>arg 4;simp only [hq])))|(with_reducible refine fin_0 ?_ (by first|rfl|(conv=>lhs;simp only [go_sem])) ?_)|exact Sub.refl _|omega)
 all_goals (refine Sub.of_eq ?_; congr 2; unfold andTr; repeat' split)
 all_goals omega
theorem notTruth_ok (a : Int) (h : -10 < a ∧ a < 10) : Does Tryz.prog 188 [] [I a] (I (notTr a)) []:=by
 refine does0 c_Z174 mixed (Nat.le_of_ble_eq_true rfl) ?_
 conv=>arg 3; whnf
 repeat' (first|with_reducible refine acc_none ?_ | (conv in hold _=>simp (disch:=omega) only [go_sem])|refine Stp.go ?_|(with_reducible first|refine it_pos rfl ?_|refine it_neg (by decide) ?_|refine st_nil rfl ?_|refine s_op ?_ ?_|exact trivial)|((with_reducible first|refine dw_reg0 ?_|refine dw_regB ?_);(conv=>arg 3;whnf))|(refine Spl.go (fun hq he=>?_) (fun hq he=>?_)<;>first|(exfalso;clear hq;omega)|((try first|(conv=>arg 8;simp only [hq])|(conv=>arg 4;simp only [hq]));clear hq))|((with_reducible first|refine c_split (fun hq=>?_) (fun hq=>?_)|refine q_split (fun hq=>?_) (fun hq=>?_))<;>(try first|(conv=>arg 8;simp only [hq])|(conv=>arg 4;simp only [hq])))|(with_reducible refine fin_0 ?_ (by first|rfl|(conv=>lhs;simp only [go_sem])) ?_)|exact Sub.refl _|omega)
 ·rw [show notTr a = 2 from if_pos he]; exact Sub.refl _
 ·rw [show notTr a = 1 - a from if_neg he]; exact Sub.refl _
theorem toInt_ok (b : Bool) : Does Tryz.prog 189 [] [Bo b] (I (b2i b)) []:=does_toInt b
theorem mul_bound {a b : Int} (h0 : -9999 ≤ a) (h1 : a ≤ 9999) (h2 : -9999 ≤ b) (h3 : b ≤ 9999) : -99980001 ≤ a * b ∧ a * b ≤ 99980001:=by
 have h : (a * b).natAbs ≤ 9999 * 9999:=by
  rw [Int.natAbs_mul]
  exact Nat.mul_le_mul (by omega) (by omega)
 omega
theorem combine_ok (k : Int) (a b : V) (ha : a.ok) (hb : b.ok) : Does Tryz.prog 190 [] [I k,vD a,vD b] (vD (comb k a b)) []:=by
 have:=ha.lo
 have:=ha.hi
 have:=hb.lo
 have:=hb.hi
 have hm:=mul_bound ha.lo ha.hi hb.lo hb.hi
 have ta:=tr_range a
 have tb:=tr_range b
 have na:=notTr_range ta
 have nb':=notTr_range tb
 have nn:=andTr_range (notTr (tr a)) (notTr (tr b))
 refine does0 c_Z185 mixed (Nat.le_of_ble_eq_true rfl) ?_
 conv=>arg 3; whnf
 repeat' (first|with_reducible refine acc_none ?_ | (conv in hold _=>simp (disch:=omega) only [go_sem])|refine Stp.go ?_|(with_reducible first|refine it_pos rfl ?_|refine it_neg (by decide) ?_|refine st_nil rfl ?_|refine s_op ?_ ?_|exact trivial)|((with_reducible first|refine dw_reg0 ?_|refine dw_regB ?_);(conv=>arg 3;whnf))|(refine Spl.go (fun hq he=>?_) (fun hq he=>?_)<;>first|(exfalso;clear hq;omega)|((try first|(conv=>arg 8;simp only [hq])|(conv=>arg 4;simp only [hq]));clear hq))|((with_reducible first|refine c_split (fun hq=>?_) (fun hq=>?_)|refine q_split (fun hq=>?_) (fun hq=>?_))<;>(try first|(conv=>arg 8;simp only [hq])|(conv=>arg 4;simp only [hq])))|(with_reducible refine fin_0 ?_ (by first|rfl|(conv=>lhs;simp only [go_sem])) ?_)|exact Sub.refl _|omega)
 ·refine Uc trivial (truth_ok a) (go1 trivial ?_)
  refine Uc trivial (truth_ok b) (go1 trivial ?_)
  refine Uc trivial (andTruth_ok (tr a) (tr b)) (go1 trivial ?_)
  refine Uc trivial (ofTruth_ok (andTr (tr a) (tr b))) (go1 trivial ?_)
  rw [comb8 he]; exact Sub.refl _
 ·refine Uc trivial (truth_ok a) (go1 trivial ?_)
  refine Uc trivial (notTruth_ok (tr a) (by omega)) (go1 trivial ?_)
  refine Uc trivial (truth_ok b) (go1 trivial ?_)
  refine Uc trivial (notTruth_ok (tr b) (by omega)) (go1 trivial ?_)
  refine Uc trivial (andTruth_ok (notTr (tr a)) (notTr (tr b))) (go1 trivial ?_)
  refine Uc trivial (notTruth_ok (andTr (notTr (tr a)) (notTr (tr b))) (by omega)) (go1 trivial ?_)
  refine Uc trivial (ofTruth_ok (notTr (andTr (notTr (tr a)) (notTr (tr b))))) (go1 trivial ?_)
  rw [comb9 he]; exact Sub.refl _
 ·rw [combN (by assumption) (by assumption) (.inr hq)]; exact Sub.refl _
 ·refine Uc trivial (number_ok (a.n + b.n)) (go1 trivial ?_)
  rw [combX (by omega) (by omega) (by assumption) (by assumption),if_pos he]; exact Sub.refl _
 ·refine Uc trivial (number_ok (a.n - b.n)) (go1 trivial ?_)
  rw [combX (by omega) (by omega) (by assumption) (by assumption),if_neg (by omega),if_pos he]; exact Sub.refl _
 ·refine Uc trivial (number_ok (a.n * b.n)) (go1 trivial ?_)
  rw [combX (by omega) (by omega) (by assumption) (by assumption),if_neg (by omega),if_neg (by omega),if_pos he]; exact Sub.refl _
 ·refine Uc trivial (toInt_ok (a.n == b.n)) (go1 trivial ?_)
  rw [combX (by omega) (by omega) (by assumption) (by assumption),if_neg (by omega),if_neg (by omega),if_neg (by omega),if_pos he]; exact Sub.refl _
 ·refine Uc trivial (toInt_ok (decide (a.n < b.n))) (go1 trivial ?_)
  rw [combX (by omega) (by omega) (by assumption) (by assumption),if_neg (by omega),if_neg (by omega),if_neg (by omega),if_neg he]; exact Sub.refl _
 ·rw [combN (by assumption) (by assumption) (.inl hq)]; exact Sub.refl _
theorem evalExpr_ok {row : List V} (hr : ∀ v,v ∈ row → v.ok) : ∀ (e : E) (d : Nat),eOk e row.length d → Does Tryz.prog 135 [] [eD e,rowD row] (vD (ev e row)) []:=by
 refine E.ind (fun e ih d h=>?_)
 have hl:=((eOk_iff e _ d).1 h).2.2.2
 rcases eOk_kids h with ⟨h1,_⟩ | ⟨h1,a,hks,hao⟩ | ⟨h1,a,b,hks,hao,hbo⟩
 ·unfold leafOk at hl
  rcases h1 with h1 | h1
  ·rw [if_pos h1] at hl
   obtain ⟨v,hv⟩ : ∃ v,row[e.c.toNat]? = some v:=⟨_,List.getElem?_eq_getElem (show e.c.toNat < row.length by omega)⟩
   refine does0 c_Z171 mixed (Nat.le_of_ble_eq_true rfl) ?_
   conv=>arg 3; whnf
   repeat' (first|with_reducible refine acc_none ?_ | (conv in hold _=>simp (disch:=omega) only [go_sem,List.getElem?_map,hv,Option.map_some,rowD])|refine Stp.go ?_|(with_reducible first|refine it_pos rfl ?_|refine it_neg (by decide) ?_|refine st_nil rfl ?_|refine s_op ?_ ?_|exact trivial)|((with_reducible first|refine dw_reg0 ?_|refine dw_regB ?_);(conv=>arg 3;whnf))|(refine Spl.go (fun hq he=>?_) (fun hq he=>?_)<;>first|(exfalso;clear hq;omega)|((try first|(conv=>arg 8;simp only [hq])|(conv=>arg 4;simp only [hq]));clear hq))|((with_reducible first|refine c_split (fun hq=>?_) (fun hq=>?_)|refine q_split (fun hq=>?_) (fun hq=>?_))<;>(try first|(conv=>arg 8;simp only [hq])|(conv=>arg 4;simp only [hq])))|(with_reducible refine fin_0 ?_ (by first|rfl|(conv=>lhs;simp only [go_sem,List.getElem?_map,hv,Option.map_some,rowD])) ?_)|exact Sub.refl _|omega)
   rw [ev_col h1 hv]; exact Sub.refl _
  ·refine Bg c_Z171 mixed (go1 trivial ?_)
   rw [ev_const h1]; exact Sub.refl _
 ·have iha:=ih a (by rw [hks]; exact List.mem_cons_self ..) (d - 1) hao
  have ta:=tr_range (ev a row)
  rcases h1 with h1 | h1
  ·refine Bg c_Z171 mixed (go1 @hks ?_)
   refine Uc trivial (iha) (go1 trivial ?_)
   refine Uc trivial (truth_ok (ev a row)) (go1 trivial ?_)
   refine Uc trivial (notTruth_ok (tr (ev a row)) (by omega)) (go1 trivial ?_)
   refine Uc trivial (ofTruth_ok (notTr (tr (ev a row)))) (go1 trivial ?_)
   rw [ev_not h1 hks]; exact Sub.refl _
  ·refine Bg c_Z171 mixed (go1 @hks ?_)
   refine Uc trivial (iha) (go1 trivial ?_)
   refine Uc trivial (toInt_ok (ev a row).b) (go1 trivial ?_)
   rw [ev_null h1 hks]; exact Sub.refl _
 ·have iha:=ih a (by rw [hks]; exact List.mem_cons_self ..) (d - 1) hao
  have ihb:=ih b (by rw [hks]; exact List.mem_cons_of_mem _ (List.mem_cons_self ..)) (d - 1) hbo
  refine Bg c_Z171 mixed (go1 @hks ?_)
  refine Uc @hks (iha) (go1 @hks ?_)
  refine Uc @hks (ihb) (go1 @hks ?_)
  refine Uc trivial (combine_ok e.k (ev a row) (ev b row) (ev_ok hr a _ hao) (ev_ok hr b _ hbo)) (go1 trivial ?_)
  rw [ev_two (by omega) (by omega) (by omega) (by omega) hks]; exact Sub.refl _
end Go.Proofs.YtefldihjbaodnaaGreat
