/-
  The program's values of expressions. No condition.
-/
import Derived.Test.YtjngffbghkafaaaGreatKSDca
import Derived.Test.YtjngffbghkafaaaGreatKSVVa
import Derived.Test.YtjngffbghkafaaaGreatJSVTbD
import Derived.Test.YtjngffbghkafaaaGreatJSVGo
import Derived.Test.YtjngffbghkafaaaGreatJSDcWXPc
import Derived.Test.YtjngffbghkafaaaGreatJSVSzW
import Derived.Test.YtjngffbghkafaaaGreatJSDce
import Derived.Test.YtjngffbghkafaaaGreatJSDcVWidD
import Derived.Test.YtjngffbghkafaaaGreatKSDcb
import Derived.Test.YtjngffbghkafaaaGreatJSVPiA
import Derived.Test.YtjngffbghkafaaaGreatRows
set_option maxHeartbeats 4000000
set_option maxRecDepth 100000
namespace Go.Proofs.YtjngffbghkafaaaGreat
open Go.RowKit
theorem kidCount_ok (k : Int) : Does Tryz.prog 234 [] [I k] (I (kidsN k)) []:=by
 refine does0 c_Z112 mixed (Nat.le_of_ble_eq_true rfl) ?_
 conv=>arg 3; whnf
 repeat' (first|with_reducible refine acc_none ?_ | (conv in hold _=>simp (disch:=omega) only [go_sem])|refine Stp.go ?_|(with_reducible first|refine it_pos rfl ?_|refine it_neg (by decide) ?_|refine st_nil rfl ?_|refine s_op ?_ ?_|exact trivial)|((with_reducible first|refine dw_reg0 ?_|refine dw_regB ?_);(conv=>arg 3;whnf))|(refine Spl.go (fun hq he=>?_) (fun hq he=>?_)<;>first|(exfalso;clear hq;omega)|((try first|(conv=>arg 8;simp only [hq])|(conv=>arg 4;simp only [hq]));clear hq))|((with_reducible first|refine c_split (fun hq=>?_) (fun hq=>?_)|refine q_split (fun hq=>?_) (fun hq=>?_))<;>(try first|(conv=>arg 8;simp only [hq])|(conv=>arg 4;simp only [hq])))|(with_reducible refine fin_0 ?_ (by first|rfl|(conv=>lhs;simp only [go_sem])) ?_)|exact Sub.refl _|omega)
 all_goals (refine Sub.of_eq ?_; unfold kidsN; congr 2; omega)
theorem validWithin_ok (w : Int) : ∀ (e : E),(∀ d : Nat,d < 1000 → Does Tryz.prog 215 [] [eD e,I w,I d] (Bo (decide (eOk e w d))) []) ∧ Does Tryz.prog 215 [] [eD e,I w,I (-1)] (Bo false) []:=by
 refine E.ind (fun e ih=>⟨fun d hd=>?_,?_⟩)
 ·have hk2:=kidsN_le e.k
  have hk0 : e.k = 1 ∨ e.k = 2 → kidsN e.k = 0:=kidsN_leaf
  refine Bg c_Z76 mixed (go1 trivial ?_)
  refine c_doesE (kidCount_ok e.k) ?_ ?_ ?_
  ·((try (conv=>rhs;simp (disch:=omega) only [go_sem])); try rfl)
  ·first|rfl|(conv=>lhs;simp only [go_sem])
  repeat' (first|with_reducible refine acc_none ?_ | (conv in hold _=>simp (disch:=omega) only [go_sem])|refine Stp.go ?_|(with_reducible first|refine it_pos rfl ?_|refine it_neg (by decide) ?_|refine st_nil rfl ?_|refine s_op ?_ ?_|exact trivial)|((with_reducible first|refine dw_reg0 ?_|refine dw_regB ?_);(conv=>arg 3;whnf))|(refine Spl.go (fun hq he=>?_) (fun hq he=>?_)<;>first|(exfalso;clear hq;omega)|((try first|(conv=>arg 8;simp only [hq])|(conv=>arg 4;simp only [hq]));clear hq))|((with_reducible first|refine c_split (fun hq=>?_) (fun hq=>?_)|refine q_split (fun hq=>?_) (fun hq=>?_))<;>(try first|(conv=>arg 8;simp only [hq])|(conv=>arg 4;simp only [hq])))|(with_reducible refine fin_0 ?_ (by first|rfl|(conv=>lhs;simp only [go_sem])) ?_)|exact Sub.refl _|omega)
  all_goals try exact sub_f (fun h=>by rw [eOk_iff] at h; have:=h.1; omega)
  all_goals try exact sub_f (fun h=>by rw [eOk_iff] at h; have:=h.2.2.2; revert this; exact leaf2f (by omega) (by omega))
  ·have core : eOk e w d ↔ leafOk e.k e.c e.v w:=by
    rw [eOk_iff]
    exact ⟨fun h=>h.2.2.2,fun h=>⟨by omega,by omega,fun x hx=>by have:=List.length_pos_of_mem hx; omega,h⟩⟩
   by_cases hcol : 0 ≤ e.c ∧ e.c < w
   ·have hr:=isColumn_ok e.c w
    rw [decide_eq_true hcol] at hr
    refine Uc trivial (hr) (go1 trivial ?_)
    exact sub_iff ((leaf1 (by omega) (by omega)).trans core.symm)
   ·have hr:=isColumn_ok e.c w
    rw [decide_eq_false hcol] at hr
    refine Uc trivial (hr) (go1 trivial ?_)
    exact sub_f (fun h=>by rw [eOk_iff] at h; have:=h.2.2.2; revert this; exact leaf1f (by omega) (by omega))
  ·have core : eOk e w d ↔ leafOk e.k e.c e.v w:=by
    rw [eOk_iff]
    exact ⟨fun h=>h.2.2.2,fun h=>⟨by omega,by omega,fun x hx=>by have:=List.length_pos_of_mem hx; omega,h⟩⟩
   refine Uc trivial (Value_valid_ok e.v) (go1 trivial ?_)
   exact sub_iff (by rw [decide_eq_true_iff]; exact (leaf2 (by omega) (by omega)).trans core.symm)
  ·exact sub_f (fun h=>by
    rw [eOk_iff] at h
    rw [(leaf3 (by omega) (by omega) (by omega)).2 h.2.2.2] at hq
    cases hq)
  ·have hlf : leafOk e.k e.c e.v w:=(leaf3 (by omega) (by omega) (by omega)).1 (by simpa using hq)
   refine dw_for (c:=0) (l:=fun i=>[(1,I w),(2,I d),(54,.sl 5 (e.ks.map eD)),(55,I e.ks.length),(56,I i)]) e.ks.length (fun i=>∀ j x,j < i → e.ks[j]? = some x → d ≠ 0 ∧ eOk x w (d - 1)) 0 (by omega) (Wk.list [] rfl rfl ?_) (fun i hi hJ=>?_) (Nat.zero_le _)
   ·repeat' (first|(conv in hold _=>simp (disch:=omega) only [go_sem])|exact trivial|exact Sub.refl _|omega)
    exact rfl
   ·skip
    rcases at_or_end hi with ⟨x,hx,hlt⟩ | rfl
    ·have hkid : Does Tryz.prog 215 [] [eD x,I w,I ((d : Int) - 1)] (Bo (decide (d ≠ 0 ∧ eOk x w (d - 1)))) []:=by
      by_cases h0 : d = 0
      ·subst h0
       rw [decide_eq_false (fun h=>h.1 rfl)]
       exact (ih x (List.mem_of_getElem? hx)).2
      ·have:=(ih x (List.mem_of_getElem? hx)).1 (d - 1) (by omega)
       rw [show ((d - 1 : Nat) : Int) = (d : Int) - 1 by omega] at this
       rw [show decide (d ≠ 0 ∧ eOk x w (d - 1)) = decide (eOk x w (d - 1)) by simp [h0]]
       exact this
     refine go1 @hx ?_
     refine c_doesE (hkid) ?_ ?_ ?_
     ·((try (conv=>rhs;simp (disch:=omega) only [go_sem])); try rfl)
     ·first|rfl|(conv=>lhs;simp only [go_sem])
     repeat' (first|with_reducible refine acc_none ?_ | (conv in hold _=>simp (disch:=omega) only [go_sem])|refine Stp.go ?_|(with_reducible first|refine it_pos rfl ?_|refine it_neg (by decide) ?_|refine st_nil rfl ?_|refine s_op ?_ ?_|exact trivial)|((with_reducible first|refine dw_reg0 ?_|refine dw_regB ?_);(conv=>arg 3;whnf))|(refine Spl.go (fun hq he=>?_) (fun hq he=>?_)<;>first|(exfalso;clear hq;omega)|((try first|(conv=>arg 8;simp only [hq])|(conv=>arg 4;simp only [hq]));clear hq))|((with_reducible first|refine c_split (fun hq=>?_) (fun hq=>?_)|refine q_split (fun hq=>?_) (fun hq=>?_))<;>(try first|(conv=>arg 8;simp only [hq])|(conv=>arg 4;simp only [hq])))|(with_reducible refine fin_0 ?_ (by first|rfl|(conv=>lhs;simp only [go_sem])) ?_)|exact Sub.refl _|omega)
     ·exact sub_f (fun h=>by rw [eOk_iff] at h; exact he ⟨h.2.1 (by omega),h.2.2.1 x (List.mem_of_getElem? hx)⟩)
     ·refine ⟨hlt,upto_next hx hJ he,Wk.list [] rfl rfl ?_⟩
      repeat' (first|(conv in hold _=>simp (disch:=omega) only [go_sem])|exact trivial|exact Sub.refl _|omega)
    ·refine go1 trivial ?_
     refine sub_t ((eOk_iff e w d).2 ⟨by omega,fun h0=>?_,fun x hx=>(upto_all hJ x hx).2,hlf⟩)
     exact (upto_all hJ _ (List.getElem_mem h0)).1
 ·exact Bg c_Z76 mixed (go0 trivial)
theorem implValidExpr_ok (e : E) (w : Int) : Does Tryz.prog 173 [] [eD e,I w] (Bo (decide ((1 ≤ w ∧ w ≤ 6) ∧ eOk e w 8))) []:=by
 have h8:=(validWithin_ok w e).1 8 (by decide)
 refine Bg c_Z96 mixed (go1 trivial ?_)
 refine c_doesE (validWidth_ok w) ?_ ?_ ?_
 ·((try (conv=>rhs;simp (disch:=omega) only [go_sem])); try rfl)
 ·first|rfl|(conv=>lhs;simp only [go_sem])
 repeat' (first|with_reducible refine acc_none ?_ | (conv in hold _=>simp (disch:=omega) only [go_sem])|refine Stp.go ?_|(with_reducible first|refine it_pos rfl ?_|refine it_neg (by decide) ?_|refine st_nil rfl ?_|refine s_op ?_ ?_|exact trivial)|((with_reducible first|refine dw_reg0 ?_|refine dw_regB ?_);(conv=>arg 3;whnf))|(refine Spl.go (fun hq he=>?_) (fun hq he=>?_)<;>first|(exfalso;clear hq;omega)|((try first|(conv=>arg 8;simp only [hq])|(conv=>arg 4;simp only [hq]));clear hq))|((with_reducible first|refine c_split (fun hq=>?_) (fun hq=>?_)|refine q_split (fun hq=>?_) (fun hq=>?_))<;>(try first|(conv=>arg 8;simp only [hq])|(conv=>arg 4;simp only [hq])))|(with_reducible refine fin_0 ?_ (by first|rfl|(conv=>lhs;simp only [go_sem])) ?_)|exact Sub.refl _|omega)
 ·refine Uc trivial (h8) (go1 trivial ?_)
  exact sub_iff (by rw [decide_eq_true_iff]; exact ⟨fun h=>⟨he,h⟩,fun h=>h.2⟩)
 ·exact sub_f (fun h=>he h.1)
end Go.Proofs.YtjngffbghkafaaaGreat
set_option maxHeartbeats 4000000
set_option maxRecDepth 100000
namespace Go.Proofs.YtjngffbghkafaaaGreat
open Go.ChangeShapes Go.WideShapes Go.ChangeAt Go.RowKit Go.Joins Go.Deep
section
variable {H : Type} {enc : TypeId × Value → H} {W : World} {base b0 : Nat} {held : Bool} {r : Reach} {v : Value} {d : DataW H} {p : List MemPlace}
set_option maxRecDepth 100000 in
theorem trod_ints {fuel : Nat} {cs : List Value} {x : DataW H × List MemPlace} (h : DataW.trod enc Tryz.prog W base (fun _=>true) held fuel 23 cs = some x) :
  ∃ l : List Int,l.length ≤ big ∧ CellsOK W (allOf W) noNames [intsD l] cs:=by
 obtain ⟨l,_,hlen,q⟩:=slice_fz Tryz.underlying23 cells_int (by decide) I (fun _=>True) h (fun n' _ cs' x' h'=>by
  obtain ⟨m,hm⟩:=int_fz Tryz.underlying3 h'
  exact ⟨m,rfl,hm,trivial⟩)
 exact ⟨l,hlen,q⟩
end
end Go.Proofs.YtjngffbghkafaaaGreat
set_option maxHeartbeats 4000000
set_option maxRecDepth 100000
namespace Go.Proofs.YtjngffbghkafaaaGreat
open Go.ChangeShapes Go.WideShapes Go.ChangeAt Go.RowKit Go.Joins Go.Deep
theorem cells_LV : Tryz.prog.cellsOf 109 = 2:=by kernel_rfl
section
variable {H : Type} {enc : TypeId × Value → H} {W : World} {base b0 : Nat} {held : Bool} {r : Reach} {v : Value} {d : DataW H} {p : List MemPlace}
set_option maxRecDepth 100000 in
theorem trod_Vx {fuel : Nat} {cs : List Value} {x : DataW H × List MemPlace} {spare : Nat → Bool} (h : DataW.trod enc Tryz.prog W base spare held fuel 109 cs = some x) :
  ∃ u : V,CellsOK W (allOf W) noNames [Bo u.b,I u.n] cs:=by
 obtain ⟨y0,y1,n,_,hl,h0,h1⟩:=trod_struct2 Tryz.underlying109 h
 rw [cells_LV] at hl
 match cs,hl with
 | [c0,c1],_=>
  have e0 : (Tryz.prog.cellsOf 4) = 1:=by kernel_rfl
  simp only [e0,cells_int,List.drop_zero,List.drop_succ_cons,List.take_succ_cons,List.take_zero] at h0 h1
  obtain ⟨b,q0,_⟩:=DataW.trod_bool Tryz.underlying4 h0
  obtain ⟨m,q1⟩:=int_fz Tryz.underlying3 h1
  simp only [List.cons.injEq,and_true] at q0
  subst q0
  have q : CellsOK W (allOf W) noNames [Bo b] [.bool b]:=CellsOK.intro1 rfl (.v _ _)
  exact ⟨⟨b,m⟩,q.append q1⟩
end
end Go.Proofs.YtjngffbghkafaaaGreat
set_option maxHeartbeats 4000000
set_option maxRecDepth 100000
namespace Go.Proofs.YtjngffbghkafaaaGreat
open Go.RowKit
def bnd : Nat → Nat
 | 0=>5
 | d + 1=>5 + 3 * bnd d
end Go.Proofs.YtjngffbghkafaaaGreat
set_option maxHeartbeats 4000000
set_option maxRecDepth 100000
namespace Go.Proofs.YtjngffbghkafaaaGreat
open Go.RowKit
theorem compareRows_spec (a b : List V) (ha : a.length < 2000000) (hb : b.length < 2000000) : Does Tryz.prog 129 [] [rowD a,rowD b] (I (cmpR a b)) []:=by
 refine Bg c_Z78 mixed (go1 trivial ?_)
 refine dw_for (c:=0) (l:=fun i=>[(0,rowD a),(1,rowD b),(5,I i)]) (min a.length b.length) (fun i=>∀ (j : Nat) (x y : V),j < i → a[j]? = some x → b[j]? = some y → cmpV x y = 0) 0 (fun j x y hj=>by omega) (Wk.list [] rfl rfl ?_) (fun i hi hJ=>?_) (Nat.zero_le _)
 ·repeat' (first|(conv in hold _=>simp (disch:=omega) only [go_sem])|exact trivial|exact Sub.refl _|omega)
  exact rfl
 ·by_cases hil : i < min a.length b.length
  ·obtain ⟨x,hx⟩ : ∃ x,a[i]? = some x:=⟨_,List.getElem?_eq_getElem (by omega)⟩
   obtain ⟨y,hy⟩ : ∃ y,b[i]? = some y:=⟨_,List.getElem?_eq_getElem (by omega)⟩
   have hc:=compareValues_ok x y
   by_cases h0 : cmpV x y = 0
   ·refine go1 (cj2 @hx @hy) ?_
    refine Uc trivial (hc) (go1 trivial ?_)
    refine ⟨hil,fun j x' y' hj hx' hy'=>?_,Wk.list [] rfl rfl ?_⟩
    ·by_cases hji : j = i
     ·subst hji
      rw [hx] at hx'
      rw [hy] at hy'
      cases hx'
      cases hy'
      exact h0
     ·exact hJ j x' y' (by omega) hx' hy'
    ·repeat' (first|(conv in hold _=>simp (disch:=omega) only [go_sem])|exact trivial|exact Sub.refl _|omega)
   ·rw [cmpR_hit a b i x y hJ hx hy h0]
    refine go1 (cj2 @hx @hy) ?_
    exact Uc trivial (hc) (go0 trivial)
  ·rw [cmpR_end a b (fun j x y hx hy=>hJ j x y (by have:=(List.getElem?_eq_some_iff.1 hx).1; have:=(List.getElem?_eq_some_iff.1 hy).1; omega) hx hy)]
   exact go0 trivial
theorem compareRows_impl (a b : List V) (hab : a.length = b.length) (hl : a.length < 2000000) (ha : ∀ v,v ∈ a → v.ok) (hb : ∀ v,v ∈ b → v.ok) : Does Tryz.prog 96 [] [rowD a,rowD b] (I (cmpR a b)) []:=by
 refine Bg c_Z69 mixed (go1 trivial ?_)
 refine dw_for (c:=0) (l:=fun i=>[(0,rowD a),(1,rowD b),(8,I a.length),(9,I i)]) a.length (fun i=>∀ (j : Nat) (x y : V),j < i → a[j]? = some x → b[j]? = some y → cmpV x y = 0) 0 (fun j x y hj=>by omega) (Wk.list [] rfl rfl ?_) (fun i hi hJ=>?_) (Nat.zero_le _)
 ·repeat' (first|(conv in hold _=>simp (disch:=omega) only [go_sem])|exact trivial|exact Sub.refl _|omega)
  exact rfl
 ·by_cases hil : i < a.length
  ·obtain ⟨x,hx⟩ : ∃ x,a[i]? = some x:=⟨_,List.getElem?_eq_getElem (by omega)⟩
   obtain ⟨y,hy⟩ : ∃ y,b[i]? = some y:=⟨_,List.getElem?_eq_getElem (by omega)⟩
   have hc:=Value_compare_ok x y (ha x (List.mem_of_getElem? hx)) (hb y (List.mem_of_getElem? hy))
   by_cases h0 : cmpV x y = 0
   ·refine go1 (cj2 @hx @hy) ?_
    refine Uc trivial (hc) (go1 trivial ?_)
    refine ⟨hil,fun j x' y' hj hx' hy'=>?_,Wk.list [] rfl rfl ?_⟩
    ·by_cases hji : j = i
     ·subst hji
      rw [hx] at hx'
      rw [hy] at hy'
      cases hx'
      cases hy'
      exact h0
     ·exact hJ j x' y' (by omega) hx' hy'
    ·repeat' (first|(conv in hold _=>simp (disch:=omega) only [go_sem])|exact trivial|exact Sub.refl _|omega)
   ·rw [cmpR_hit a b i x y hJ hx hy h0]
    refine go1 (cj2 @hx @hy) ?_
    exact Uc trivial (hc) (go0 trivial)
  ·rw [cmpR_end a b (fun j x y hx hy=>hJ j x y (by have:=(List.getElem?_eq_some_iff.1 hx).1; omega) hx hy),show (a.length : Int) - b.length = 0 by omega]
   exact go0 trivial
theorem cmpV_anti {a b : V} (ha : a.ok) (hb : b.ok) : cmpV b a = - cmpV a b:=by
 have h1:=ha.nul
 have h2:=hb.nul
 unfold cmpV
 cases hab : a.b <;> cases hbb : b.b <;> simp [hab,hbb] at h1 h2 ⊢
 all_goals (repeat' split) <;> omega
theorem cmpR_anti : ∀ (a b : List V),a.length = b.length → (∀ v,v ∈ a → v.ok) → (∀ v,v ∈ b → v.ok) → cmpR b a = - cmpR a b
 | [],[],_,_,_=>by decide
 | [],_ :: _,h,_,_=>by simp at h
 | _ :: _,[],h,_,_=>by simp at h
 | x :: a,y :: b,h,ha,hb=>by
  have hv:=cmpV_anti (ha x (List.mem_cons_self ..)) (hb y (List.mem_cons_self ..))
  have hr:=cmpR_anti a b (by simpa using h) (fun v hv=>ha v (List.mem_cons_of_mem _ hv)) (fun v hv=>hb v (List.mem_cons_of_mem _ hv))
  rw [cmpR,cmpR,hv]
  by_cases h0 : cmpV x y = 0
  ·rw [if_pos (by omega),if_pos h0,hr]
  ·rw [if_neg (by omega),if_neg h0]
end Go.Proofs.YtjngffbghkafaaaGreat
set_option maxHeartbeats 4000000
set_option maxRecDepth 100000
set_option linter.unusedVariables false
set_option linter.unusedSimpArgs false
namespace Go.Proofs.YtjngffbghkafaaaGreat
open Go.RowKit
noncomputable instance rowsDec : DecidableEq (List (List V)):=fun a b=>Classical.propDecidable _
noncomputable instance taDec : DecidableEq Ta:=fun a b=>Classical.propDecidable _
end Go.Proofs.YtjngffbghkafaaaGreat
