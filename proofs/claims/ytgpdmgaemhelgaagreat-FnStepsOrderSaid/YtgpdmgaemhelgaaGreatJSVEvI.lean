/-
  Plans as plain data, and those that come in. No condition.
-/
import Derived.Test.YtgpdmgaemhelgaaGreatJSVClC
import Derived.Test.YtgpdmgaemhelgaaGreatKSDca
import Derived.Test.YtgpdmgaemhelgaaGreatJSVClA
import Derived.Test.YtgpdmgaemhelgaaGreatJSVBox
import Derived.Test.YtgpdmgaemhelgaaGreatJSVYld
set_option maxHeartbeats 4000000
set_option maxRecDepth 100000
namespace Go.Proofs.YtgpdmgaemhelgaaGreat
open Go.ChangeShapes Go.WideShapes Go.ChangeAt Go.RowKit Go.Joins Go.Deep
inductive Pl where
 | mk (k t : Int) (es : List E) (cs : List Int) (ks : List Pl)
namespace Pl
def k : Pl → Int
 | mk k _ _ _ _=>k
def t : Pl → Int
 | mk _ t _ _ _=>t
def es : Pl → List E
 | mk _ _ es _ _=>es
def cs : Pl → List Int
 | mk _ _ _ cs _=>cs
def ks : Pl → List Pl
 | mk _ _ _ _ ks=>ks
end Pl
mutual
def pD : Pl → D
 | .mk k t es cs ks=>.agg [I k,I t,.sl 5 (es.map eD),intsD cs,.sl 5 (pDL ks)]
def pDL : List Pl → List D
 | []=>[]
 | p :: l=>pD p :: pDL l
end
theorem pDL_map : ∀ l : List Pl,pDL l = l.map pD
 | []=>by rw [pDL]; rfl
 | p :: l=>by rw [pDL,pDL_map l]; rfl
theorem pD_eq (p : Pl) : pD p = .agg [I p.k,I p.t,.sl 5 (p.es.map eD),intsD p.cs,.sl 5 (p.ks.map pD)]:=by
 cases p with
 | mk k t es cs ks=>rw [pD,pDL_map]; rfl
theorem plans_pur : ∀ l : List Pl,D.purL (l.map pD) = true
 | []=>rfl
 | p :: l=>by rw [List.map_cons,D.purL,plans_pur l,pD_eq]; rfl
theorem plans_ren (L : List Nat) (l : List Pl) : D.renL L (l.map pD) = l.map pD:=ren_pure.renL_pure L _ (plans_pur l)
theorem Pl.k_mk (k t : Int) (es : List E) (cs : List Int) (ks : List Pl) : (Pl.mk k t es cs ks).k = k:=rfl
theorem Pl.t_mk (k t : Int) (es : List E) (cs : List Int) (ks : List Pl) : (Pl.mk k t es cs ks).t = t:=rfl
theorem Pl.es_mk (k t : Int) (es : List E) (cs : List Int) (ks : List Pl) : (Pl.mk k t es cs ks).es = es:=rfl
theorem Pl.cs_mk (k t : Int) (es : List E) (cs : List Int) (ks : List Pl) : (Pl.mk k t es cs ks).cs = cs:=rfl
theorem Pl.ks_mk (k t : Int) (es : List E) (cs : List Int) (ks : List Pl) : (Pl.mk k t es cs ks).ks = ks:=rfl
attribute [go_sem] pD_eq plans_pur plans_ren Pl.k_mk Pl.t_mk Pl.es_mk Pl.cs_mk Pl.ks_mk
mutual
theorem Pl.indA {P : Pl → Prop} (h : ∀ p,(∀ x,x ∈ p.ks → P x) → P p) : ∀ p,P p
 | .mk k t es cs ks=>h (.mk k t es cs ks) (Pl.indL h ks)
theorem Pl.indL {P : Pl → Prop} (h : ∀ p,(∀ x,x ∈ p.ks → P x) → P p) : ∀ l : List Pl,∀ x,x ∈ l → P x
 | []=>fun _ hx=>by cases hx
 | p :: l=>fun x hx=>(List.mem_cons.1 hx).elim (fun he=>he.symm ▸ Pl.indA h p) (Pl.indL h l x)
end
inductive MostP : Pl → Prop
 | mk {k t : Int} {es : List E} {cs : List Int} {ks : List Pl} (h1 : es.length ≤ big) (h2 : ∀ x,x ∈ es → Most x) (h3 : cs.length ≤ big) (h4 : ks.length ≤ big) (h5 : ∀ x,x ∈ ks → MostP x) : MostP (.mk k t es cs ks)
theorem MostP.lens {p : Pl} (h : MostP p) : p.es.length ≤ big ∧ p.cs.length ≤ big ∧ p.ks.length ≤ big:=by cases h with | mk h1 _ h3 h4 _=>exact ⟨h1,h3,h4⟩
mutual
def psz : Pl → Nat
 | .mk _ _ es cs ks=>eszL es + cs.length + pszL ks
def pszL : List Pl → Nat
 | []=>0
 | p :: l=>1 + psz p + pszL l
end
theorem psz_eq (p : Pl) : psz p = eszL p.es + p.cs.length + pszL p.ks:=by cases p; rfl
theorem pszL_append : ∀ (l m : List Pl),pszL (l ++ m) = pszL l + pszL m
 | [],m=>by rw [List.nil_append,pszL,Nat.zero_add]
 | e :: l,m=>by rw [List.cons_append,pszL,pszL,pszL_append l m]; omega
theorem pszL_next {ps : List Pl} {i : Nat} {x : Pl} (h : ps[i]? = some x) : pszL (ps.take (i + 1)) = pszL (ps.take i) + (1 + psz x):=by
 rw [take_next h,pszL_append,pszL,pszL]
 omega
theorem pszL_len : ∀ l : List Pl,l.length ≤ pszL l
 | []=>Nat.le_refl _
 | e :: l=>by
  have:=pszL_len l
  rw [pszL,List.length_cons]
  omega
theorem pszL_mem {p : Pl} {l : List Pl} (h : p ∈ l) : psz p + 1 ≤ pszL l:=by
 induction l with
 | nil=>cases h
 | cons x l ih=>
  rw [pszL]
  rcases List.mem_cons.1 h with rfl | h
  ·omega
  ·have:=ih h; omega
section
variable {H : Type} {enc : TypeId × Value → H} {W : World} {base b0 : Nat} {held : Bool} {r : Reach} {v : Value} {d : DataW H} {p : List MemPlace}
end
end Go.Proofs.YtgpdmgaemhelgaaGreat
set_option maxHeartbeats 4000000
set_option maxRecDepth 100000
namespace Go.Proofs.YtgpdmgaemhelgaaGreat
open Go.RowKit
theorem kidCount_ok (k : Int) : Does Tryz.prog 189 [] [I k] (I (kidsN k)) []:=by
 refine does0 c_Z113 mixed (Nat.le_of_ble_eq_true rfl) ?_
 conv=>arg 3; whnf
 repeat' (first|with_reducible refine acc_none ?_ | (conv in hold _=>simp (disch:=omega) only [go_sem])|refine Stp.go ?_|(with_reducible first|refine it_pos rfl ?_|refine it_neg (by decide) ?_|refine st_nil rfl ?_|refine s_op ?_ ?_|exact trivial)|((with_reducible first|refine dw_reg0 ?_|refine dw_regB ?_);(conv=>arg 3;whnf))|(refine Spl.go (fun hq he=>?_) (fun hq he=>?_)<;>first|(exfalso;clear hq;omega)|((try first|(conv=>arg 8;simp only [hq])|(conv=>arg 4;simp only [hq]));clear hq))|((with_reducible first|refine c_split (fun hq=>?_) (fun hq=>?_)|refine q_split (fun hq=>?_) (fun hq=>?_))<;>(try first|(conv=>arg 8;simp only [hq])|(conv=>arg 4;simp only [hq])))|(with_reducible refine fin_0 ?_ (by first|rfl|(conv=>lhs;simp only [go_sem])) ?_)|exact Sub.refl _|omega)
 all_goals (refine Sub.of_eq ?_; unfold kidsN; congr 2; omega)
theorem validWithin_ok (w : Int) : ∀ (e : E),(∀ d : Nat,d < 1000 → Does Tryz.prog 176 [] [eD e,I w,I d] (Bo (decide (eOk e w d))) []) ∧ Does Tryz.prog 176 [] [eD e,I w,I (-1)] (Bo false) []:=by
 refine E.ind (fun e ih=>⟨fun d hd=>?_,?_⟩)
 ·have hk2:=kidsN_le e.k
  have hk0 : e.k = 1 ∨ e.k = 2 → kidsN e.k = 0:=kidsN_leaf
  refine Bg c_Z63 mixed (go1 trivial ?_)
  refine c_doesE (kidCount_ok e.k) ?_ ?_ ?_
  ·((try (conv=>rhs;simp (disch:=omega) only [go_sem])); try rfl)
  ·first|rfl|(conv=>lhs;simp only [go_sem])
  repeat' (first|with_reducible refine acc_none ?_ | (conv in hold _=>simp (disch:=omega) only [go_sem])|refine Stp.go ?_|(with_reducible first|refine it_pos rfl ?_|refine it_neg (by decide) ?_|refine st_nil rfl ?_|refine s_op ?_ ?_|exact trivial)|((with_reducible first|refine dw_reg0 ?_|refine dw_regB ?_);(conv=>arg 3;whnf))|(refine Spl.go (fun hq he=>?_) (fun hq he=>?_)<;>first|(exfalso;clear hq;omega)|((try first|(conv=>arg 8;simp only [hq])|(conv=>arg 4;simp only [hq]));clear hq))|((with_reducible first|refine c_split (fun hq=>?_) (fun hq=>?_)|refine q_split (fun hq=>?_) (fun hq=>?_))<;>(try first|(conv=>arg 8;simp only [hq])|(conv=>arg 4;simp only [hq])))|(with_reducible refine fin_0 ?_ (by first|rfl|(conv=>lhs;simp only [go_sem])) ?_)|exact Sub.refl _|omega)
  all_goals try exact sub_f (fun h=>by rw [eOk_iff] at h; have:=h.1; omega)
  all_goals try exact sub_f (fun h=>by rw [eOk_iff] at h; have:=h.2.2.2; revert this; exact leaf2f (by omega) (by omega))
  ·have core : eOk e w d ↔ leafOk e.k e.c e.v w:=by
    rw [eOk_iff]
    exact ⟨fun h=>h.2.2.2,fun h=>⟨by omega,by omega,fun x hx=>by have:=List.length_pos_of_mem hx; omega,h⟩⟩
   by_cases hcol : 0 ≤ e.c ∧ e.c < w
   ·have hr:=isColumn_ok e.c w
    rw [decide_eq_true hcol] at hr
    refine Uc trivial (hr) (go1 trivial ?_)
    exact sub_iff ((leaf1 (by omega) (by omega)).trans core.symm)
   ·have hr:=isColumn_ok e.c w
    rw [decide_eq_false hcol] at hr
    refine Uc trivial (hr) (go1 trivial ?_)
    exact sub_f (fun h=>by rw [eOk_iff] at h; have:=h.2.2.2; revert this; exact leaf1f (by omega) (by omega))
  ·have core : eOk e w d ↔ leafOk e.k e.c e.v w:=by
    rw [eOk_iff]
    exact ⟨fun h=>h.2.2.2,fun h=>⟨by omega,by omega,fun x hx=>by have:=List.length_pos_of_mem hx; omega,h⟩⟩
   refine Uc trivial (Value_valid_ok e.v) (go1 trivial ?_)
   exact sub_iff (by rw [decide_eq_true_iff]; exact (leaf2 (by omega) (by omega)).trans core.symm)
  ·exact sub_f (fun h=>by
    rw [eOk_iff] at h
    rw [(leaf3 (by omega) (by omega) (by omega)).2 h.2.2.2] at hq
    cases hq)
  ·have hlf : leafOk e.k e.c e.v w:=(leaf3 (by omega) (by omega) (by omega)).1 (by simpa using hq)
   refine dw_for (c:=0) (l:=fun i=>[(1,I w),(2,I d),(54,.sl 5 (e.ks.map eD)),(55,I e.ks.length),(56,I i)]) e.ks.length (fun i=>∀ j x,j < i → e.ks[j]? = some x → d ≠ 0 ∧ eOk x w (d - 1)) 0 (by omega) (Wk.list [] rfl rfl ?_) (fun i hi hJ=>?_) (Nat.zero_le _)
   ·repeat' (first|(conv in hold _=>simp (disch:=omega) only [go_sem])|exact trivial|exact Sub.refl _|omega)
    exact rfl
   ·skip
    rcases at_or_end hi with ⟨x,hx,hlt⟩ | rfl
    ·have hkid : Does Tryz.prog 176 [] [eD x,I w,I ((d : Int) - 1)] (Bo (decide (d ≠ 0 ∧ eOk x w (d - 1)))) []:=by
      by_cases h0 : d = 0
      ·subst h0
       rw [decide_eq_false (fun h=>h.1 rfl)]
       exact (ih x (List.mem_of_getElem? hx)).2
      ·have:=(ih x (List.mem_of_getElem? hx)).1 (d - 1) (by omega)
       rw [show ((d - 1 : Nat) : Int) = (d : Int) - 1 by omega] at this
       rw [show decide (d ≠ 0 ∧ eOk x w (d - 1)) = decide (eOk x w (d - 1)) by simp [h0]]
       exact this
     refine go1 @hx ?_
     refine c_doesE (hkid) ?_ ?_ ?_
     ·((try (conv=>rhs;simp (disch:=omega) only [go_sem])); try rfl)
     ·first|rfl|(conv=>lhs;simp only [go_sem])
     repeat' (first|with_reducible refine acc_none ?_ | (conv in hold _=>simp (disch:=omega) only [go_sem])|refine Stp.go ?_|(with_reducible first|refine it_pos rfl ?_|refine it_neg (by decide) ?_|refine st_nil rfl ?_|refine s_op ?_ ?_|exact trivial)|((with_reducible first|refine dw_reg0 ?_|refine dw_regB ?_);(conv=>arg 3;whnf))|(refine Spl.go (fun hq he=>?_) (fun hq he=>?_)<;>first|(exfalso;clear hq;omega)|((try first|(conv=>arg 8;simp only [hq])|(conv=>arg 4;simp only [hq]));clear hq))|((with_reducible first|refine c_split (fun hq=>?_) (fun hq=>?_)|refine q_split (fun hq=>?_) (fun hq=>?_))<;>(try first|(conv=>arg 8;simp only [hq])|(conv=>arg 4;simp only [hq])))|(with_reducible refine fin_0 ?_ (by first|rfl|(conv=>lhs;simp only [go_sem])) ?_)|exact Sub.refl _|omega)
     ·exact sub_f (fun h=>by rw [eOk_iff] at h; exact he ⟨h.2.1 (by omega),h.2.2.1 x (List.mem_of_getElem? hx)⟩)
     ·refine ⟨hlt,upto_next hx hJ he,Wk.list [] rfl rfl ?_⟩
      repeat' (first|(conv in hold _=>simp (disch:=omega) only [go_sem])|exact trivial|exact Sub.refl _|omega)
    ·refine go1 trivial ?_
     refine sub_t ((eOk_iff e w d).2 ⟨by omega,fun h0=>?_,fun x hx=>(upto_all hJ x hx).2,hlf⟩)
     exact (upto_all hJ _ (List.getElem_mem h0)).1
 ·exact Bg c_Z63 mixed (go0 trivial)
theorem implValidExpr_ok (e : E) (w : Int) : Does Tryz.prog 146 [] [eD e,I w] (Bo (decide ((1 ≤ w ∧ w ≤ 6) ∧ eOk e w 8))) []:=by
 have h8:=(validWithin_ok w e).1 8 (by decide)
 refine Bg c_Z89 mixed (go1 trivial ?_)
 refine c_doesE (validWidth_ok w) ?_ ?_ ?_
 ·((try (conv=>rhs;simp (disch:=omega) only [go_sem])); try rfl)
 ·first|rfl|(conv=>lhs;simp only [go_sem])
 repeat' (first|with_reducible refine acc_none ?_ | (conv in hold _=>simp (disch:=omega) only [go_sem])|refine Stp.go ?_|(with_reducible first|refine it_pos rfl ?_|refine it_neg (by decide) ?_|refine st_nil rfl ?_|refine s_op ?_ ?_|exact trivial)|((with_reducible first|refine dw_reg0 ?_|refine dw_regB ?_);(conv=>arg 3;whnf))|(refine Spl.go (fun hq he=>?_) (fun hq he=>?_)<;>first|(exfalso;clear hq;omega)|((try first|(conv=>arg 8;simp only [hq])|(conv=>arg 4;simp only [hq]));clear hq))|((with_reducible first|refine c_split (fun hq=>?_) (fun hq=>?_)|refine q_split (fun hq=>?_) (fun hq=>?_))<;>(try first|(conv=>arg 8;simp only [hq])|(conv=>arg 4;simp only [hq])))|(with_reducible refine fin_0 ?_ (by first|rfl|(conv=>lhs;simp only [go_sem])) ?_)|exact Sub.refl _|omega)
 ·refine Uc trivial (h8) (go1 trivial ?_)
  exact sub_iff (by rw [decide_eq_true_iff]; exact ⟨fun h=>⟨he,h⟩,fun h=>h.2⟩)
 ·exact sub_f (fun h=>he h.1)
end Go.Proofs.YtgpdmgaemhelgaaGreat
