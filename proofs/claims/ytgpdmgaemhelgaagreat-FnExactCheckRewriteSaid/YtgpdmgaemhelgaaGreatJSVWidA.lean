/-
  Two lists, expressions, plans compared by the program. No condition.
-/
import Derived.Test.YtgpdmgaemhelgaaGreatKSDca
import Derived.Test.YtgpdmgaemhelgaaGreatJSDch
import Derived.Test.YtgpdmgaemhelgaaGreatKSDcj
import Derived.Test.YtgpdmgaemhelgaaGreatJSVOcc
import Derived.Test.YtgpdmgaemhelgaaGreatJSVGo
import Derived.Test.YtgpdmgaemhelgaaGreatJSDcVWid
import Derived.Test.YtgpdmgaemhelgaaGreatJSVEvI
import Derived.Test.YtgpdmgaemhelgaaGreatJSVEvS
import Derived.Test.YtgpdmgaemhelgaaGreatJSVCpE
set_option maxHeartbeats 4000000
set_option maxRecDepth 100000
set_option linter.unusedVariables false
set_option linter.unusedSimpArgs false
namespace Go.Proofs.YtgpdmgaemhelgaaGreat
open Go.RowKit
def Cmp (f : FuncId) (xs : List D) (P : Prop) : Prop:=(P → Does Tryz.prog f [] xs (Bo true) []) ∧ (¬ P → Does Tryz.prog f [] xs (Bo false) [])
theorem same_list {α : Type} {l m : List α} (hlen : l.length = m.length) (h : ∀ (j : Nat) (x y : α),j < l.length → l[j]? = some x → m[j]? = some y → x = y) : l = m:=by
 apply List.ext_getElem? 
 intro j
 by_cases hj : j < l.length
 ·have h1 : l[j]? = some l[j]:=List.getElem?_eq_getElem hj
  have h2 : m[j]? = some (m[j]'(by omega)):=List.getElem?_eq_getElem (by omega)
  rw [h1,h2,h j _ _ hj h1 h2]
 ·rw [List.getElem?_eq_none (by omega),List.getElem?_eq_none (by omega)]
theorem sameI_ok (l m : List Int) (hl : l.length < 2000000) (hm : m.length < 2000000) : Cmp 111 [intsD l,intsD m] (l = m):=by
 by_cases hlen : l.length = m.length
 ·suffices hh : ∀ b : Bool,(l = m → b = true) → (¬ l = m → b = false) → Does Tryz.prog 111 [] [intsD l,intsD m] (Bo b) [] from ⟨fun h=>hh _ (fun _=>rfl) (fun h'=>absurd h h'),fun h=>hh _ (fun h'=>absurd h' h) (fun _=>rfl)⟩
  intro b ht hf
  refine Bg c_Z14 mixed (go1 @hlen ?_)
  refine dw_for (c:=0) (l:=fun i=>[(0,intsD l),(1,intsD m),(12,I l.length),(13,I i)]) l.length (fun i=>∀ (j : Nat) (x y : Int),j < i → l[j]? = some x → m[j]? = some y → x = y) 0 (fun j x y hj=>by omega) (Wk.list [] rfl rfl ?_) (fun i hi hJ=>?_) (Nat.zero_le _)
  ·repeat' (first|(conv in hold _=>simp (disch:=omega) only [go_sem,hlen])|exact trivial|exact Sub.refl _|omega)
   (repeat' apply And.intro) <;> rfl
  ·rcases at_or_end hi with ⟨x,hx0,hlt⟩ | rfl
   ·obtain ⟨y,hy0⟩ : ∃ y,m[i]? = some y:=⟨_,List.getElem?_eq_getElem (by omega)⟩
    have hmi : i < m.length:=by omega
    by_cases hxy : x = y
    ·subst hxy
     refine go1 (cj2 @hx0 @hy0) ?_
     refine ⟨hlt,fun j x' y' hj h1 h2=>?_,Wk.list [] rfl rfl ?_⟩
     ·by_cases hji : j = i
      ·subst hji
       rw [hx0] at h1
       rw [hy0] at h2
       cases h1
       cases h2
       rfl
      ·exact hJ j x' y' (by omega) h1 h2
     ·repeat' (first|(conv in hold _=>simp (disch:=omega) only [go_sem])|exact trivial|exact Sub.refl _|omega)
    ·rw [hf (fun h=>hxy (by subst h; rw [hx0] at hy0; exact Option.some.inj hy0))]
     have hb : (x != y) = true:=bne_iff_ne.2 hxy
     exact go0 (cj3 @hx0 @hy0 @hb)
   ·rw [ht (same_list hlen hJ)]
    exact go0 trivial
 ·refine ⟨fun h=>absurd (by rw [h]) hlen,fun _=>?_⟩
  exact Bg c_Z14 mixed (go0 trivial)
theorem sameEs_ok {f : FuncId} (hf : enters Tryz.prog f = true) (l m : List E) (hl : l.length < 2000000) (hm : m.length < 2000000) (h : ∀ x,x ∈ l → ∀ y,y ∈ m → Cmp f [eD x,eD y] (x = y)) : Cmp 112 [.sl 5 (l.map eD),.sl 5 (m.map eD),.fn f []] (l = m):=by
 by_cases hlen : l.length = m.length
 ·suffices hh : ∀ b : Bool,(l = m → b = true) → (¬ l = m → b = false) → Does Tryz.prog 112 [] [.sl 5 (l.map eD),.sl 5 (m.map eD),.fn f []] (Bo b) [] from ⟨fun h=>hh _ (fun _=>rfl) (fun h'=>absurd h h'),fun h=>hh _ (fun h'=>absurd h' h) (fun _=>rfl)⟩
  intro b ht hff
  refine Bg c_Z0 mixed (go1 @hlen ?_)
  refine dw_for (c:=0) (l:=fun i=>[(1,.sl 5 (m.map eD)),(2,.fn f []),(15,.sl 5 (l.map eD)),(16,I l.length),(17,I i)]) l.length (fun i=>∀ (j : Nat) (x y : E),j < i → l[j]? = some x → m[j]? = some y → x = y) 0 (fun j x y hj=>by omega) (Wk.list [] rfl rfl ?_) (fun i hi hJ=>?_) (Nat.zero_le _)
  ·repeat' (first|(conv in hold _=>simp (disch:=omega) only [go_sem,hlen,List.length_map])|exact trivial|exact Sub.refl _|omega)
   (repeat' apply And.intro) <;> rfl
  ·rcases at_or_end hi with ⟨x,hx0,hlt⟩ | rfl
   ·obtain ⟨y,hy0⟩ : ∃ y,m[i]? = some y:=⟨_,List.getElem?_eq_getElem (by omega)⟩
    have hmi : i < m.length:=by omega
    have hix:=h x (List.mem_of_getElem? hx0) y (List.mem_of_getElem? hy0)
    by_cases hxy : x = y
    ·have hix:=hix.1 hxy
     refine go1 (cj2 @hx0 @hy0) ?_
     refine v_fn (hf) ?_
     refine Uc trivial (hix) (go1 trivial ?_)
     refine ⟨hlt,fun j x' y' hj h1 h2=>?_,Wk.list [] rfl rfl ?_⟩
     ·by_cases hji : j = i
      ·subst hji
       rw [hx0] at h1
       rw [hy0] at h2
       cases h1
       cases h2
       exact hxy
      ·exact hJ j x' y' (by omega) h1 h2
     ·repeat' (first|(conv in hold _=>simp (disch:=omega) only [go_sem])|exact trivial|exact Sub.refl _|omega)
    ·have hix:=hix.2 hxy
     rw [hff (fun h=>hxy (by subst h; rw [hx0] at hy0; exact Option.some.inj hy0))]
     refine go1 (cj2 @hx0 @hy0) ?_
     refine v_fn (hf) ?_
     exact Uc trivial (hix) (go0 trivial)
   ·rw [ht (same_list hlen hJ)]
    exact go0 trivial
 ·refine ⟨fun h=>absurd (by rw [h]) hlen,fun _=>?_⟩
  exact Bg c_Z0 mixed (go0 trivial)
theorem sameExpr_ok : ∀ e : E,esz e ≤ 1048577 → ∀ f : E,esz f ≤ 1048577 → Cmp 113 [eD e,eD f] (e = f):=by
 refine E.ind (fun e ih he f hf=>?_)
 rw [esz_eq] at he hf
 have hle:=eszL_len e.ks
 have hlf:=eszL_len f.ks
 have hks:=sameEs_ok (f:=113) (by kernel_rfl) e.ks f.ks (by omega) (by omega) (fun x hx y hy=>ih x hx (by have:=eszL_mem hx; omega) y (by have:=eszL_mem hy; omega))
 obtain ⟨k,c,v,ks⟩:=e
 obtain ⟨k',c',v',ks'⟩:=f
 obtain ⟨vb,vn⟩:=v
 obtain ⟨vb',vn'⟩:=v'
 simp only [E.ks_mk] at hks
 clear ih he hf hle hlf
 by_cases h1 : k = k'
 ·subst h1
  by_cases h2 : c = c'
  ·subst h2
   by_cases h3 : vb = vb'
   ·subst h3
    by_cases h4 : vn = vn'
    ·subst h4
     refine ⟨fun h=>?_,fun h=>?_⟩
     ·have hks:=hks.1 (by injection h)
      refine Bg c_Z104 mixed (go1 @Bool.and_self ?_)
      exact Uc trivial (hks) (go0 trivial)
     ·have hks:=hks.2 (fun g=>h (by rw [g]))
      refine Bg c_Z104 mixed (go1 @Bool.and_self ?_)
      exact Uc trivial (hks) (go0 trivial)
    ·refine ⟨fun h=>absurd (by injection h with _ _ h _; injection h) h4,fun _=>?_⟩
     have hb : (vn == vn') = false:=beq_eq_false_iff_ne.2 h4
     exact Bg c_Z104 mixed (go0 (cj3 @hb @Bool.and_false @Bool.false_and))
   ·refine ⟨fun h=>absurd (by injection h with _ _ h _; injection h) h3,fun _=>?_⟩
    have hb : (vb == vb') = false:=beq_eq_false_iff_ne.2 h3
    exact Bg c_Z104 mixed (go0 (cj3 @hb @Bool.and_false @Bool.false_and))
  ·refine ⟨fun h=>absurd (by injection h) h2,fun _=>?_⟩
   exact Bg c_Z104 mixed (go0 trivial)
 ·refine ⟨fun h=>absurd (by injection h) h1,fun _=>?_⟩
  exact Bg c_Z104 mixed (go0 trivial)
theorem samePs_ok {f : FuncId} (hf : enters Tryz.prog f = true) (l m : List Pl) (hl : l.length < 2000000) (hm : m.length < 2000000) (h : ∀ x,x ∈ l → ∀ y,y ∈ m → Cmp f [pD x,pD y] (x = y)) : Cmp 114 [.sl 5 (l.map pD),.sl 5 (m.map pD),.fn f []] (l = m):=by
 by_cases hlen : l.length = m.length
 ·suffices hh : ∀ b : Bool,(l = m → b = true) → (¬ l = m → b = false) → Does Tryz.prog 114 [] [.sl 5 (l.map pD),.sl 5 (m.map pD),.fn f []] (Bo b) [] from ⟨fun h=>hh _ (fun _=>rfl) (fun h'=>absurd h h'),fun h=>hh _ (fun h'=>absurd h' h) (fun _=>rfl)⟩
  intro b ht hff
  refine Bg c_Z1 mixed (go1 @hlen ?_)
  refine dw_for (c:=0) (l:=fun i=>[(1,.sl 5 (m.map pD)),(2,.fn f []),(15,.sl 5 (l.map pD)),(16,I l.length),(17,I i)]) l.length (fun i=>∀ (j : Nat) (x y : Pl),j < i → l[j]? = some x → m[j]? = some y → x = y) 0 (fun j x y hj=>by omega) (Wk.list [] rfl rfl ?_) (fun i hi hJ=>?_) (Nat.zero_le _)
  ·repeat' (first|(conv in hold _=>simp (disch:=omega) only [go_sem,hlen,List.length_map])|exact trivial|exact Sub.refl _|omega)
   (repeat' apply And.intro) <;> rfl
  ·rcases at_or_end hi with ⟨x,hx0,hlt⟩ | rfl
   ·obtain ⟨y,hy0⟩ : ∃ y,m[i]? = some y:=⟨_,List.getElem?_eq_getElem (by omega)⟩
    have hmi : i < m.length:=by omega
    have hix:=h x (List.mem_of_getElem? hx0) y (List.mem_of_getElem? hy0)
    by_cases hxy : x = y
    ·have hix:=hix.1 hxy
     refine go1 (cj2 @hx0 @hy0) ?_
     refine v_fn (hf) ?_
     refine Uc trivial (hix) (go1 trivial ?_)
     refine ⟨hlt,fun j x' y' hj h1 h2=>?_,Wk.list [] rfl rfl ?_⟩
     ·by_cases hji : j = i
      ·subst hji
       rw [hx0] at h1
       rw [hy0] at h2
       cases h1
       cases h2
       exact hxy
      ·exact hJ j x' y' (by omega) h1 h2
     ·repeat' (first|(conv in hold _=>simp (disch:=omega) only [go_sem])|exact trivial|exact Sub.refl _|omega)
    ·have hix:=hix.2 hxy
     rw [hff (fun h=>hxy (by subst h; rw [hx0] at hy0; exact Option.some.inj hy0))]
     refine go1 (cj2 @hx0 @hy0) ?_
     refine v_fn (hf) ?_
     exact Uc trivial (hix) (go0 trivial)
   ·rw [ht (same_list hlen hJ)]
    exact go0 trivial
 ·refine ⟨fun h=>absurd (by rw [h]) hlen,fun _=>?_⟩
  exact Bg c_Z1 mixed (go0 trivial)
theorem samePlan_ok : ∀ p : Pl,psz p ≤ 1048576 → ∀ q : Pl,psz q ≤ 1048576 → Cmp 66 [pD p,pD q] (p = q):=by
 refine Pl.indA (fun p ih hp q hq=>?_)
 rw [psz_eq] at hp hq
 have l1:=eszL_len p.es
 have l2:=eszL_len q.es
 have l3:=pszL_len p.ks
 have l4:=pszL_len q.ks
 have hes:=sameEs_ok (f:=113) (by kernel_rfl) p.es q.es (by omega) (by omega) (fun x hx y hy=>sameExpr_ok x (by have:=eszL_mem hx; omega) y (by have:=eszL_mem hy; omega))
 have hcs:=sameI_ok p.cs q.cs (by omega) (by omega)
 have hks:=samePs_ok (f:=66) (by kernel_rfl) p.ks q.ks (by omega) (by omega) (fun x hx y hy=>ih x hx (by have:=pszL_mem hx; omega) y (by have:=pszL_mem hy; omega))
 obtain ⟨k,t,es,cs,ks⟩:=p
 obtain ⟨k',t',es',cs',ks'⟩:=q
 simp only [Pl.es_mk,Pl.cs_mk,Pl.ks_mk] at hes hcs hks
 clear ih hp hq l1 l2 l3 l4
 by_cases h1 : k = k'
 ·subst h1
  by_cases h2 : t = t'
  ·subst h2
   by_cases h3 : cs = cs'
   ·have hcs:=hcs.1 h3
    subst h3
    by_cases h4 : es = es'
    ·have hes:=hes.1 h4
     subst h4
     refine ⟨fun h=>?_,fun h=>?_⟩
     ·have hks:=hks.1 (by injection h)
      refine Bg c_Z105 mixed (go1 trivial ?_)
      refine Uc trivial (hcs) (go1 trivial ?_)
      refine Uc trivial (hes) (go1 trivial ?_)
      exact Uc trivial (hks) (go0 trivial)
     ·have hks:=hks.2 (fun g=>h (by rw [g]))
      refine Bg c_Z105 mixed (go1 trivial ?_)
      refine Uc trivial (hcs) (go1 trivial ?_)
      refine Uc trivial (hes) (go1 trivial ?_)
      exact Uc trivial (hks) (go0 trivial)
    ·have hes:=hes.2 h4
     refine ⟨fun h=>absurd (by injection h) h4,fun _=>?_⟩
     refine Bg c_Z105 mixed (go1 trivial ?_)
     refine Uc trivial (hcs) (go1 trivial ?_)
     exact Uc trivial (hes) (go0 trivial)
   ·have hcs:=hcs.2 h3
    refine ⟨fun h=>absurd (by injection h) h3,fun _=>?_⟩
    refine Bg c_Z105 mixed (go1 trivial ?_)
    exact Uc trivial (hcs) (go0 trivial)
  ·refine ⟨fun h=>absurd (by injection h) h2,fun _=>?_⟩
   exact Bg c_Z105 mixed (go0 trivial)
 ·refine ⟨fun h=>absurd (by injection h) h1,fun _=>?_⟩
  exact Bg c_Z105 mixed (go0 trivial)
end Go.Proofs.YtgpdmgaemhelgaaGreat
set_option maxHeartbeats 4000000
set_option maxRecDepth 100000
namespace Go.Proofs.YtgpdmgaemhelgaaGreat
open Go.RowKit
def wsOk (ws : List Int) : Prop:=(1 ≤ ws.length ∧ ws.length ≤ 4) ∧ ∀ (j : Nat) (w : Int),ws[j]? = some w → 1 ≤ w ∧ w ≤ 6
noncomputable instance wsOkDec (ws : List Int) : Decidable (wsOk ws):=Classical.propDecidable _
theorem upto1 {α : Type} {l : List α} {i : Nat} {x : α} {P : Nat → α → Prop} (hx : l[i]? = some x) (h : P i x) (hJ : ∀ (j : Nat) (y : α),j < i → l[j]? = some y → P j y) : ∀ (j : Nat) (y : α),j < i + 1 → l[j]? = some y → P j y:=by
 intro j y hj hy
 by_cases hji : j = i
 ·subst hji
  rw [hx] at hy
  cases hy
  exact h
 ·exact hJ j y (by omega) hy
theorem upto0 {α : Type} {l : List α} {P : Nat → α → Prop} (hJ : ∀ (j : Nat) (y : α),j < l.length → l[j]? = some y → P j y) : ∀ (j : Nat) (y : α),l[j]? = some y → P j y:=fun j y h=>hJ j y (List.getElem?_eq_some_iff.1 h).1 h
theorem validWidths_spec (ws : List Int) (hl : ws.length ≤ 1048576) : Does Tryz.prog 94 [] [intsD ws] (Bo (decide (wsOk ws))) []:=by
 refine Bg c_Z63 mixed (go1 trivial ?_)
 refine dw_for (c:=0) (l:=fun i=>[(0,intsD ws),(3,I i)]) ws.length (fun i=>∀ (j : Nat) (w : Int),j < i → ws[j]? = some w → 1 ≤ w ∧ w ≤ 6) 0 (fun j w hj=>by omega) (Wk.list [] rfl rfl ?_) (fun i hi hJ=>?_) (Nat.zero_le _)
 ·repeat' (first|(conv in hold _=>simp (disch:=omega) only [go_sem])|exact trivial|exact Sub.refl _|omega)
  exact rfl
 ·rcases at_or_end hi with ⟨x,hx,hlt⟩ | rfl
  ·have hr:=inRange_ok x 1 6
   by_cases h1 : 1 ≤ x ∧ x ≤ 6
   ·rw [decide_eq_true h1] at hr
    refine go1 @hx ?_
    refine Uc trivial (hr) (go1 trivial ?_)
    refine ⟨hlt,upto1 (P:=fun _ w=>1 ≤ w ∧ w ≤ 6) hx h1 hJ,Wk.list [] rfl rfl ?_⟩
    exact Ag trivial
   ·rw [decide_eq_false h1] at hr
    refine go1 @hx ?_
    refine Uc trivial (hr) (go1 trivial ?_)
    exact sub_f (fun h=>h1 (h.2 i x hx))
  ·have hr:=inRange_ok ws.length 1 4
   refine go1 trivial ?_
   refine Uc trivial (hr) (go1 trivial ?_)
   exact sub_iff (by rw [decide_eq_true_iff]; exact ⟨fun h=>⟨by omega,upto0 (P:=fun _ w=>1 ≤ w ∧ w ≤ 6) hJ⟩,fun h=>by have:=h.1; omega⟩)
theorem validWidths_impl (ws : List Int) (hl : ws.length ≤ 1048576) : Does Tryz.prog 55 [] [intsD ws] (Bo (decide (wsOk ws))) []:=by
 by_cases hb : 1 ≤ ws.length ∧ ws.length ≤ 4
 ·refine Bg c_Z58 mixed (go1 trivial ?_)
  refine dw_for (c:=0) (l:=fun i=>[(13,intsD ws),(14,I ws.length),(15,I i)]) ws.length (fun i=>∀ (j : Nat) (w : Int),j < i → ws[j]? = some w → 1 ≤ w ∧ w ≤ 6) 0 (fun j w hj=>by omega) (Wk.list [] rfl rfl ?_) (fun i hi hJ=>?_) (Nat.zero_le _)
  ·repeat' (first|(conv in hold _=>simp (disch:=omega) only [go_sem])|exact trivial|exact Sub.refl _|omega)
   exact rfl
  ·rcases at_or_end hi with ⟨x,hx,hlt⟩ | rfl
   ·have hr:=validWidth_ok x
    by_cases h1 : 1 ≤ x ∧ x ≤ 6
    ·rw [decide_eq_true h1] at hr
     refine go1 @hx ?_
     refine Uc trivial (hr) (go1 trivial ?_)
     refine ⟨hlt,upto1 (P:=fun _ w=>1 ≤ w ∧ w ≤ 6) hx h1 hJ,Wk.list [] rfl rfl ?_⟩
     exact Ag trivial
    ·rw [decide_eq_false h1] at hr
     refine go1 @hx ?_
     refine Uc trivial (hr) (go1 trivial ?_)
     exact sub_f (fun h=>h1 (h.2 i x hx))
   ·refine go1 trivial ?_
    exact sub_iff ⟨fun _=>⟨hb,upto0 (P:=fun _ w=>1 ≤ w ∧ w ≤ 6) hJ⟩,fun _=>rfl⟩
 ·refine does0 c_Z58 mixed (Nat.le_of_ble_eq_true rfl) ?_
  conv=>arg 3; whnf
  repeat' (first|with_reducible refine acc_none ?_ | (conv in hold _=>simp (disch:=omega) only [go_sem])|refine Stp.go ?_|(with_reducible first|refine it_pos rfl ?_|refine it_neg (by decide) ?_|refine st_nil rfl ?_|refine s_op ?_ ?_|exact trivial)|((with_reducible first|refine dw_reg0 ?_|refine dw_regB ?_);(conv=>arg 3;whnf))|(refine Spl.go (fun hq he=>?_) (fun hq he=>?_)<;>first|(exfalso;clear hq;omega)|((try first|(conv=>arg 8;simp only [hq])|(conv=>arg 4;simp only [hq]));clear hq))|((with_reducible first|refine c_split (fun hq=>?_) (fun hq=>?_)|refine q_split (fun hq=>?_) (fun hq=>?_))<;>(try first|(conv=>arg 8;simp only [hq])|(conv=>arg 4;simp only [hq])))|(with_reducible refine fin_0 ?_ (by first|rfl|(conv=>lhs;simp only [go_sem])) ?_)|exact Sub.refl _|omega)
  all_goals exact sub_f (fun h=>hb h.1)
def colAt (cs : List Int) (w : Int) (i : Nat) (c : Int) : Prop:=(0 ≤ c ∧ c ≤ w - 1) ∧ ∀ b,0 < i → cs[i - 1]? = some b → b < c
def colsOk (cs : List Int) (w : Int) : Prop:=∀ (i : Nat) (c : Int),cs[i]? = some c → colAt cs w i c
noncomputable instance colsOkDec (cs : List Int) (w : Int) : Decidable (colsOk cs w):=Classical.propDecidable _
theorem validCols_ok (cs : List Int) (w : Int) (hw : 0 ≤ w ∧ w ≤ 1000) (hl : cs.length ≤ 1048576) : Does Tryz.prog 140 [] [intsD cs,I w] (Bo (decide (colsOk cs w))) []:=by
 refine Bg c_Z94 mixed (go1 trivial ?_)
 refine dw_for (c:=0) (l:=fun i=>[(0,intsD cs),(1,I w),(5,I i)]) cs.length (fun i=>∀ (j : Nat) (c : Int),j < i → cs[j]? = some c → colAt cs w j c) 0 (fun j w hj=>by omega) (Wk.list [] rfl rfl ?_) (fun i hi hJ=>?_) (Nat.zero_le _)
 ·repeat' (first|(conv in hold _=>simp (disch:=omega) only [go_sem])|exact trivial|exact Sub.refl _|omega)
  exact rfl
 ·rcases at_or_end hi with ⟨x,hx,hlt⟩ | rfl
  ·have hr:=inRange_ok x 0 (w - 1)
   by_cases h1 : 0 ≤ x ∧ x ≤ w - 1
   ·rw [decide_eq_true h1] at hr
    by_cases hi0 : i = 0
    ·refine go1 @hx ?_
     refine Uc trivial (hr) (go1 trivial ?_)
     refine ⟨hlt,upto1 (P:=colAt cs w) hx ⟨h1,fun b h0=>by omega⟩ hJ,Wk.list [] rfl rfl ?_⟩
     exact Ag trivial
    ·obtain ⟨b,hb⟩ : ∃ b,cs[i - 1]? = some b:=⟨_,List.getElem?_eq_getElem (by omega)⟩
     have hii : ((i : Int) - 1).toNat = i - 1:=by omega
     by_cases h2 : b < x
     ·refine go1 @hx ?_
      refine Uc (cj3 @hx @hb @hii) (hr) (go1 (cj3 @hx @hb @hii) ?_)
      refine ⟨hlt,upto1 (P:=colAt cs w) hx ⟨h1,fun b' _ hb'=>by rw [hb] at hb'; cases hb'; exact h2⟩ hJ,Wk.list [] rfl rfl ?_⟩
      exact Ag trivial
     ·refine go1 @hx ?_
      refine Uc (cj3 @hx @hb @hii) (hr) (go1 (cj3 @hx @hb @hii) ?_)
      exact sub_f (fun h=>h2 ((h i x hx).2 b (by omega) hb))
   ·rw [decide_eq_false h1] at hr
    refine go1 @hx ?_
    refine Uc trivial (hr) (go1 trivial ?_)
    exact sub_f (fun h=>h1 (h i x hx).1)
  ·refine go1 trivial ?_
   exact sub_iff ⟨fun _=>upto0 (P:=colAt cs w) hJ,fun _=>rfl⟩
def lastOf (cs : List Int) (i : Nat) : Int:=if i = 0 then -1 else cs.getD (i - 1) 0
theorem lastOf_next {cs : List Int} {i : Nat} {x : Int} (hx : cs[i]? = some x) : lastOf cs (i + 1) = x:=by
 unfold lastOf
 rw [if_neg (by omega),Nat.add_sub_cancel,List.getD_eq_getElem?_getD,hx]
 rfl
theorem validColumns_ok (cs : List Int) (w : Int) (hl : cs.length ≤ 1048576) : Does Tryz.prog 145 [] [intsD cs,I w] (Bo (decide (cs.length < 6 ∧ colsOk cs w))) []:=by
 by_cases hb : cs.length < 6
 ·refine Bg c_Z43 mixed (go1 trivial ?_)
  refine dw_for (c:=0) (l:=fun i=>[(1,I w),(5,I (lastOf cs i)),(11,intsD cs),(12,I cs.length),(13,I i)]) cs.length (fun i=>∀ (j : Nat) (c : Int),j < i → cs[j]? = some c → colAt cs w j c) 0 (fun j w hj=>by omega) (Wk.list [] rfl rfl ?_) (fun i hi hJ=>?_) (Nat.zero_le _)
  ·repeat' (first|(conv in hold _=>simp (disch:=omega) only [go_sem])|exact trivial|exact Sub.refl _|omega)
   exact ⟨rfl,rfl⟩
  ·rcases at_or_end hi with ⟨x,hx,hlt⟩ | rfl
   ·have hnx:=lastOf_next hx
    have hlast : lastOf cs i < x ∧ x < w ↔ colAt cs w i x:=by
     unfold lastOf colAt
     by_cases hi0 : i = 0
     ·rw [if_pos hi0]
      exact ⟨fun h=>⟨by omega,fun b h0=>by omega⟩,fun h=>by have:=h.1; omega⟩
     ·obtain ⟨b,hb⟩ : ∃ b,cs[i - 1]? = some b:=⟨_,List.getElem?_eq_getElem (by omega)⟩
      have h3:=(hJ (i - 1) b (by omega) hb).1
      rw [if_neg hi0,List.getD_eq_getElem?_getD,hb,Option.getD_some]
      exact ⟨fun h=>⟨by omega,fun b' _ hb'=>by cases hb'; exact h.1⟩,fun h=>⟨h.2 b (by omega) rfl,by have:=h.1; omega⟩⟩
    by_cases h1 : lastOf cs i < x ∧ x < w
    ·refine go1 @hx ?_
     refine ⟨hlt,upto1 (P:=colAt cs w) hx (hlast.1 h1) hJ,Wk.list [] rfl rfl ?_⟩
     exact Ag @hnx
    ·repeat' (first|with_reducible refine acc_none ?_ | (conv in hold _=>simp (disch:=omega) only [go_sem,List.getElem?_map,hx,Option.map_some])|refine Stp.go ?_|(with_reducible first|refine it_pos rfl ?_|refine it_neg (by decide) ?_|refine st_nil rfl ?_|refine s_op ?_ ?_|exact trivial)|((with_reducible first|refine dw_reg0 ?_|refine dw_regB ?_);(conv=>arg 3;whnf))|(refine Spl.go (fun hq he=>?_) (fun hq he=>?_)<;>first|(exfalso;clear hq;omega)|((try first|(conv=>arg 8;simp only [hq])|(conv=>arg 4;simp only [hq]));clear hq))|((with_reducible first|refine c_split (fun hq=>?_) (fun hq=>?_)|refine q_split (fun hq=>?_) (fun hq=>?_))<;>(try first|(conv=>arg 8;simp only [hq])|(conv=>arg 4;simp only [hq])))|(with_reducible refine fin_0 ?_ (by first|rfl|(conv=>lhs;simp only [go_sem,List.getElem?_map,hx,Option.map_some])) ?_)|exact Sub.refl _|omega)
     all_goals exact sub_f (fun h=>h1 (hlast.2 (h.2 i x hx)))
   ·refine go1 trivial ?_
    exact sub_iff ⟨fun _=>⟨hb,upto0 (P:=colAt cs w) hJ⟩,fun _=>rfl⟩
 ·refine Bg c_Z43 mixed (go1 trivial ?_)
  exact sub_f (fun h=>hb h.1)
def esOk (es : List E) (w : Int) : Prop:=∀ (j : Nat) (e : E),es[j]? = some e → eOk e w 8
noncomputable instance esOkDec (es : List E) (w : Int) : Decidable (esOk es w):=Classical.propDecidable _
theorem projectWidth_ok (es : List E) (w : Int) (hw : 1 ≤ w ∧ w ≤ 6) (hl : es.length ≤ 1048576) : Does Tryz.prog 139 [] [.sl 5 (es.map eD),I w] (I (if es.length ≤ 6 ∧ esOk es w then es.length else 0)) []:=by
 refine Bg c_Z45 mixed (go1 trivial ?_)
 refine dw_for (c:=0) (l:=fun i=>[(0,.sl 5 (es.map eD)),(1,I w),(5,I i)]) es.length (fun i=>∀ (j : Nat) (e : E),j < i → es[j]? = some e → eOk e w 8) 0 (fun j w hj=>by omega) (Wk.list [] rfl rfl ?_) (fun i hi hJ=>?_) (Nat.zero_le _)
 ·repeat' (first|(conv in hold _=>simp (disch:=omega) only [go_sem])|exact trivial|exact Sub.refl _|omega)
  exact rfl
 ·rcases at_or_end hi with ⟨x,hx,hlt⟩ | rfl
  ·have hr:=ValidExpr_ok x w (by omega)
   by_cases h1 : eOk x w 8
   ·rw [decide_eq_true ⟨hw,h1⟩] at hr
    refine go1 @hx ?_
    refine Uc trivial (hr) (go1 trivial ?_)
    refine ⟨hlt,upto1 (P:=fun _ e=>eOk e w 8) hx h1 hJ,Wk.list [] rfl rfl ?_⟩
    exact Ag trivial
   ·rw [decide_eq_false (fun h=>h1 h.2)] at hr
    rw [if_neg (fun h=>h1 (h.2 i x hx))]
    refine go1 @hx ?_
    exact Uc trivial (hr) (go0 trivial)
  ·by_cases h6 : es.length ≤ 6
   ·rw [if_pos ⟨h6,upto0 (P:=fun _ e=>eOk e w 8) hJ⟩]
    exact go0 trivial
   ·rw [if_neg (fun h=>h6 h.1)]
    exact go0 trivial
end Go.Proofs.YtgpdmgaemhelgaaGreat
