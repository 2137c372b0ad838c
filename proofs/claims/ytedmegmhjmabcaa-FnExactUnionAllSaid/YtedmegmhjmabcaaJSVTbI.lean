/-
  Rows are ordered; a place in an ordered list, found by halving; how many are equal. Plain lemmas.
-/
import Derived.Test.YtedmegmhjmabcaaKSVTbX
import Derived.Test.YtedmegmhjmabcaaKSVCmpR
import Derived.Test.YtedmegmhjmabcaaKSDca
import Derived.Test.YtedmegmhjmabcaaKSDcb
import Derived.Test.YtedmegmhjmabcaaSVGo
set_option maxHeartbeats 4000000
set_option maxRecDepth 100000
set_option linter.unusedVariables false
set_option linter.unusedSimpArgs false
namespace Go.Proofs.Ytedmegmhjmabcaa
open Go.RowKit
theorem tOk_le {t : Ta} (ht : tOk t) : ∀ (d i : Nat) (q r : List V),t.rows[i]? = some q → t.rows[i + d]? = some r → cmpR q r ≤ 0:=by
 intro d
 induction d with
 | zero=>
  intro i q r hq hr
  rw [Nat.add_zero,hq] at hr
  cases hr
  rw [cmpR_self]
  exact Int.le_refl 0
 | succ d ih=>
  intro i q r hq hr
  have hlt:=(List.getElem?_eq_some_iff.1 hr).1
  have hm:=List.getElem?_eq_getElem (l:=t.rows) (i:=i + d) (by omega)
  have h1:=ih i q _ hq hm
  have h2:=(ht.2 (i + (d + 1)) r hr).2 _ (by omega) (by rw [show i + (d + 1) - 1 = i + d by omega]; exact hm)
  have g1:=ht.2 i q hq
  have g2:=ht.2 (i + d) _ hm
  have g3:=ht.2 _ r hr
  exact (cmpR_trans q _ r (by have:=g1.1.2; have:=g2.1.2; omega) (by have:=g3.1.2; have:=g2.1.2; omega) g1.1.1.2 g2.1.1.2 g3.1.1.2 h1).1 h2
end Go.Proofs.Ytedmegmhjmabcaa
set_option maxHeartbeats 4000000
set_option maxRecDepth 100000
namespace Go.Proofs.Ytedmegmhjmabcaa
open Go.RowKit
def asc (rs : List (List V)) : Prop:=∀ (i : Nat) (q r : List V),0 < i → rs[i - 1]? = some q → rs[i]? = some r → cmpR q r ≤ 0
noncomputable instance ascDec (rs : List (List V)) : Decidable (asc rs):=Classical.propDecidable _
theorem isSorted_ok (t : Ta) (ht : rOk t) {f : FuncId} (hf : enters Try.prog f = true) (hc : ∀ a b : List V,a.length = b.length → a.length < 2000000 → (∀ v,v ∈ a → v.ok) → (∀ v,v ∈ b → v.ok) → Does Try.prog f [] [rowD a,rowD b] (I (cmpR a b)) []) :
  Does Try.prog 109 [] [rowsD t.rows,.fn f []] (Bo (decide (asc t.rows))) []:=by
 have h4:=ht.1.2
 refine Bg c_Z0 mixed (go1 trivial ?_)
 refine dw_for (c:=0) (l:=fun n=>[(0,rowsD t.rows),(1,.fn f []),(5,I ((t.rows.length : Int) - 1 - n))]) t.rows.length (fun n=>∀ (i : Nat) (q r : List V),t.rows.length ≤ i + n → 0 < i → t.rows[i - 1]? = some q → t.rows[i]? = some r → cmpR q r ≤ 0) 0 (fun i q r h1 h2 hq hr=>by have:=(List.getElem?_eq_some_iff.1 hr).1; omega) (Wk.list [] rfl rfl ?_) (fun n hn hJ=>?_) (Nat.zero_le _)
 ·repeat' (first|(conv in hold _=>simp (disch:=omega) only [go_sem])|exact trivial|exact Sub.refl _|omega)
  exact congrArg (fun n=>D.v (Value.int .i64 n)) (by omega)
 ·by_cases hil : n + 1 < t.rows.length
  ·obtain ⟨r,hr⟩ : ∃ r,t.rows[t.rows.length - 1 - n]? = some r:=⟨_,List.getElem?_eq_getElem (by omega)⟩
   obtain ⟨q,hq⟩ : ∃ q,t.rows[t.rows.length - 1 - n - 1]? = some q:=⟨_,List.getElem?_eq_getElem (by omega)⟩
   have hr1:=ht.2 _ r hr
   have hq1:=ht.2 _ q hq
   have hrl:=hr1.1.1
   have e1 : ((t.rows.length : Int) - 1 - (n : Int)).toNat = t.rows.length - 1 - n:=by omega
   have e2 : ((t.rows.length : Int) - 1 - (n : Int) - 1).toNat = t.rows.length - 1 - n - 1:=by omega
   have hcc:=hc r q (by have:=hr1.2; have:=hq1.2; omega) (by omega) hr1.1.2 hq1.1.2
   have hanti:=cmpR_anti q r (by have:=hr1.2; have:=hq1.2; omega) hq1.1.2 hr1.1.2
   by_cases h3 : cmpR q r ≤ 0
   ·refine go1 (cj4 @e1 @e2 @hr @hq) ?_
    refine v_fn (hf) ?_
    refine Uc trivial (hcc) (go1 trivial ?_)
    refine ⟨by omega,fun i q' r' h1 h2 hq' hr'=>?_,Wk.list [] rfl rfl ?_⟩
    ·by_cases hi : i = t.rows.length - 1 - n
     ·subst hi
      rw [hq] at hq'
      rw [hr] at hr'
      cases hq'
      cases hr'
      exact h3
     ·exact hJ i q' r' (by omega) h2 hq' hr'
    ·repeat' (first|(conv in hold _=>simp (disch:=omega) only [go_sem])|exact trivial|exact Sub.refl _|omega)
     exact congrArg (fun n=>D.v (Value.int .i64 n)) (by omega)
   ·refine go1 (cj4 @e1 @e2 @hr @hq) ?_
    refine v_fn (hf) ?_
    refine Uc trivial (hcc) (go1 trivial ?_)
    exact sub_f (fun h=>h3 (h _ q r (by omega) hq hr))
  ·refine go1 trivial ?_
   exact sub_iff ⟨fun _ i q r h2 hq hr=>hJ i q r (by omega) h2 hq hr,fun _=>rfl⟩
theorem ValidTable_impl (t : Ta) (hl : rsz t.rows ≤ 1048576) : Does Try.prog 75 [] [taD t] (Bo (decide (tOk t))) []:=by
 have h1:=validRows_ok t hl
 by_cases hr : rOk t
 ·have h2:=isSorted_ok t hr (f:=90) (by kernel_rfl) (fun a b hab hl ha hb=>compareRows_impl a b hab hl ha hb)
  rw [decide_eq_true hr] at h1
  have hiff : tOk t ↔ asc t.rows:=⟨fun h i q r h0 hq hr'=>(h.2 i r hr').2 q h0 hq,fun h=>⟨hr.1,fun i r hr'=>⟨hr.2 i r hr',fun q h0 hq=>h i q r h0 hq hr'⟩⟩⟩
  rw [show decide (tOk t) = decide (asc t.rows) from decide_eq_decide.2 hiff]
  refine Bg c_Z14 mixed (go1 trivial ?_)
  refine Uc trivial (h1) (go1 trivial ?_)
  exact Uc trivial (h2) (go0 trivial)
 ·rw [decide_eq_false hr] at h1
  rw [decide_eq_false (fun h : tOk t=>hr ⟨h.1,fun i r hr'=>(h.2 i r hr').1⟩)]
  refine Bg c_Z14 mixed (go1 trivial ?_)
  exact Uc trivial (h1) (go0 trivial)
end Go.Proofs.Ytedmegmhjmabcaa
