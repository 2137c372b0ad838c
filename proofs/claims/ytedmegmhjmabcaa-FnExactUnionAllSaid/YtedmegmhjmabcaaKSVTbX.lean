/-
  Valid tables, in both packages. No condition.
-/
import Derived.Test.YtedmegmhjmabcaaKSDca
import Derived.Test.YtedmegmhjmabcaaKSDcb
import Derived.Test.YtedmegmhjmabcaaKSVVa
import Derived.Test.YtedmegmhjmabcaaKSVSem
import Derived.Test.YtedmegmhjmabcaaJSVLib
import Derived.Test.YtedmegmhjmabcaaJSVTbW
import Derived.Test.YtedmegmhjmabcaaSVGo
set_option maxHeartbeats 4000000
set_option maxRecDepth 100000
namespace Go.Proofs.Ytedmegmhjmabcaa
open Go.RowKit
def rowAt (t : Ta) (i : Nat) (r : List V) : Prop:=(rowOk r ∧ (r.length : Int) = t.w) ∧ ∀ q,0 < i → t.rows[i - 1]? = some q → cmpR q r ≤ 0
def tOk (t : Ta) : Prop:=((1 ≤ t.w ∧ t.w ≤ 6) ∧ t.rows.length ≤ 400) ∧ ∀ (i : Nat) (r : List V),t.rows[i]? = some r → rowAt t i r
noncomputable instance tOkDec (t : Ta) : Decidable (tOk t):=Classical.propDecidable _
theorem nextR {t : Ta} {i : Nat} {x : List V} {P : Nat → List V → Prop} (hx : t.rows[i]? = some x) (h : P i x) (hJ : ∀ (j : Nat) (y : List V),j < i → t.rows[j]? = some y → P j y) : ∀ (j : Nat) (y : List V),j < i + 1 → t.rows[j]? = some y → P j y:=by
 intro j y hj hy
 by_cases hji : j = i
 ·subst hji
  rw [hx] at hy
  cases hy
  exact h
 ·exact hJ j y (by omega) hy
theorem validTable_ok (t : Ta) (hl : rsz t.rows ≤ 1048576) : Does Try.prog 57 [] [taD t] (Bo (decide (tOk t))) []:=by
 have hlen:=rsz_len t.rows
 refine Bg c_Z19 mixed (go1 trivial ?_)
 refine dw_for (c:=1) (l:=fun i=>[(1,.ref 1000000 0),(3,I i),(1000000,.obj [I t.w,rowsD t.rows])]) t.rows.length (fun i=>∀ (j : Nat) (r : List V),j < i → t.rows[j]? = some r → rowAt t j r) 0 (fun j r hj=>by omega) (Wk.list [2000001] rfl rfl ?_) (fun i hi hJ=>?_) (Nat.zero_le _)
 ·repeat' (first|(conv in hold _=>simp (disch:=omega) only [go_sem])|exact trivial|exact Sub.refl _|omega)
  exact rfl
 ·rcases at_or_end hi with ⟨x,hx,hlt⟩ | rfl
  ·have hxs:=rsz_mem (List.mem_of_getElem? hx)
   have hv:=validRow_ok x (by omega)
   by_cases h1 : rowOk x
   ·rw [decide_eq_true h1] at hv
    by_cases h2 : (x.length : Int) = t.w
    ·by_cases hi0 : i = 0
     ·refine go1 @hx ?_
      refine Uc @hx (hv) (go1 @hx ?_)
      refine ⟨hlt,nextR (P:=rowAt t) hx ⟨⟨h1,h2⟩,fun q h0=>by omega⟩ hJ,Wk.list [1000000] rfl rfl ?_⟩
      repeat' (first|(conv in hold _=>simp (disch:=omega) only [go_sem])|exact trivial|exact Sub.refl _|omega)
     ·obtain ⟨q,hq⟩ : ∃ q,t.rows[i - 1]? = some q:=⟨_,List.getElem?_eq_getElem (by omega)⟩
      have hqs:=rsz_mem (List.mem_of_getElem? hq)
      have hii : ((i : Int) - 1).toNat = i - 1:=by omega
      have hc:=compareRows_spec q x (by omega) (by omega)
      by_cases h3 : cmpR q x ≤ 0
      ·refine go1 (cj3 @hx @hq @hii) ?_
       refine Uc (cj3 @hx @hq @hii) (hv) (go1 (cj3 @hx @hq @hii) ?_)
       refine Uc trivial (hc) (go1 trivial ?_)
       refine ⟨hlt,nextR (P:=rowAt t) hx ⟨⟨h1,h2⟩,fun q' _ hq'=>by rw [hq] at hq'; cases hq'; exact h3⟩ hJ,Wk.list [1000000] rfl rfl ?_⟩
       repeat' (first|(conv in hold _=>simp (disch:=omega) only [go_sem])|exact trivial|exact Sub.refl _|omega)
      ·refine go1 (cj3 @hx @hq @hii) ?_
       refine Uc (cj3 @hx @hq @hii) (hv) (go1 (cj3 @hx @hq @hii) ?_)
       refine Uc trivial (hc) (go1 trivial ?_)
       exact sub_f (fun h=>h3 ((h.2 i x hx).2 q (by omega) hq))
    ·refine go1 @hx ?_
     refine Uc @hx (hv) (go1 @hx ?_)
     exact sub_f (fun h=>h2 (h.2 i x hx).1.2)
   ·rw [decide_eq_false h1] at hv
    refine go1 @hx ?_
    refine Uc trivial (hv) (go1 trivial ?_)
    exact sub_f (fun h=>h1 (h.2 i x hx).1.1)
  ·have hr:=inRange_ok t.w 1 6
   by_cases hw : 1 ≤ t.w ∧ t.w ≤ 6
   ·rw [decide_eq_true hw] at hr
    refine go1 trivial ?_
    refine Uc trivial (hr) (go1 trivial ?_)
    exact sub_iff (by rw [decide_eq_true_iff]; exact ⟨fun h=>⟨⟨hw,by omega⟩,fun j r hj=>hJ j r (List.getElem?_eq_some_iff.1 hj).1 hj⟩,fun h=>by have:=h.1.2; omega⟩)
   ·rw [decide_eq_false hw] at hr
    refine go1 trivial ?_
    refine Uc trivial (hr) (go1 trivial ?_)
    exact sub_f (fun h=>hw h.1.1)
def rOk (t : Ta) : Prop:=((1 ≤ t.w ∧ t.w ≤ 6) ∧ t.rows.length ≤ 400) ∧ ∀ (i : Nat) (r : List V),t.rows[i]? = some r → rowOk r ∧ (r.length : Int) = t.w
noncomputable instance rOkDec (t : Ta) : Decidable (rOk t):=Classical.propDecidable _
theorem validRows_ok (t : Ta) (hl : rsz t.rows ≤ 1048576) : Does Try.prog 94 [] [rowsD t.rows,I t.w] (Bo (decide (rOk t))) []:=by
 have hlen:=rsz_len t.rows
 have hr:=validWidth_ok t.w
 by_cases hw : 1 ≤ t.w ∧ t.w ≤ 6
 ·rw [decide_eq_true hw] at hr
  by_cases h4 : t.rows.length ≤ 400
  ·refine Bg c_Z23 mixed (go1 trivial ?_)
   refine Uc trivial (hr) (go1 trivial ?_)
   refine dw_for (c:=0) (l:=fun i=>[(1,I t.w),(15,rowsD t.rows),(16,I t.rows.length),(17,I i)]) t.rows.length (fun i=>∀ (j : Nat) (r : List V),j < i → t.rows[j]? = some r → rowOk r ∧ (r.length : Int) = t.w) 0 (fun j r hj=>by omega) (Wk.list [] rfl rfl ?_) (fun i hi hJ=>?_) (Nat.zero_le _)
   ·repeat' (first|(conv in hold _=>simp (disch:=omega) only [go_sem])|exact trivial|exact Sub.refl _|omega)
    exact rfl
   ·rcases at_or_end hi with ⟨x,hx,hlt⟩ | rfl
    ·have hxs:=rsz_mem (List.mem_of_getElem? hx)
     have hv:=implValidRow_ok x (by omega)
     by_cases h2 : (x.length : Int) = t.w
     ·by_cases h1 : rowOk x
      ·rw [decide_eq_true h1] at hv
       refine go1 @hx ?_
       refine Uc trivial (hv) (go1 trivial ?_)
       refine ⟨hlt,nextR (P:=fun _ r=>rowOk r ∧ (r.length : Int) = t.w) hx ⟨h1,h2⟩ hJ,Wk.list [] rfl rfl ?_⟩
       repeat' (first|(conv in hold _=>simp (disch:=omega) only [go_sem])|exact trivial|exact Sub.refl _|omega)
      ·rw [decide_eq_false h1] at hv
       refine go1 @hx ?_
       refine Uc trivial (hv) (go1 trivial ?_)
       exact sub_f (fun h=>h1 (h.2 i x hx).1)
     ·refine go1 @hx ?_
      exact sub_f (fun h=>h2 (h.2 i x hx).2)
    ·refine go1 trivial ?_
     exact sub_iff ⟨fun _=>⟨⟨hw,h4⟩,fun j r hj=>hJ j r (List.getElem?_eq_some_iff.1 hj).1 hj⟩,fun _=>rfl⟩
  ·refine Bg c_Z23 mixed (go1 trivial ?_)
   refine Uc trivial (hr) (go1 trivial ?_)
   exact sub_f (fun h=>h4 h.1.2)
 ·rw [decide_eq_false hw] at hr
  refine Bg c_Z23 mixed (go1 trivial ?_)
  refine Uc trivial (hr) (go1 trivial ?_)
  exact sub_f (fun h=>hw h.1.1)
end Go.Proofs.Ytedmegmhjmabcaa
