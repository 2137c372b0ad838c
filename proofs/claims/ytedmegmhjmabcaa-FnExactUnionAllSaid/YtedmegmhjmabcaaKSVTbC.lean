/-
  How values and rows compare, in both packages. No condition.
-/
import Derived.Test.YtedmegmhjmabcaaKSDca
import Derived.Test.YtedmegmhjmabcaaKSDcb
import Derived.Test.YtedmegmhjmabcaaKSVVa
import Derived.Test.YtedmegmhjmabcaaKSVSem
import Derived.Test.YtedmegmhjmabcaaJSVLib
import Derived.Test.YtedmegmhjmabcaaSVGo
set_option maxHeartbeats 4000000
set_option maxRecDepth 100000
namespace Go.Proofs.Ytedmegmhjmabcaa
open Go.RowKit
def cmpV (a b : V) : Int:=if a.b = b.b ∧ a.n = b.n then 0 else if a.b = true ∨ (b.b = false ∧ a.n < b.n) then -1 else 1
theorem cmpV_0 {a b : V} (h : a.b = b.b ∧ a.n = b.n) : cmpV a b = 0:=if_pos h
theorem cmpV_l {a b : V} (h : ¬ (a.b = b.b ∧ a.n = b.n)) (h' : a.b = true ∨ (b.b = false ∧ a.n < b.n)) : cmpV a b = -1:=by unfold cmpV; rw [if_neg h,if_pos h']
theorem cmpV_g {a b : V} (h : ¬ (a.b = b.b ∧ a.n = b.n)) (h' : ¬ (a.b = true ∨ (b.b = false ∧ a.n < b.n))) : cmpV a b = 1:=by unfold cmpV; rw [if_neg h,if_neg h']
theorem compareValues_ok (a b : V) : Does Try.prog 129 [] [vD a,vD b] (I (cmpV a b)) []:=by
 by_cases h1 : a.b = b.b ∧ a.n = b.n
 ·have hq : (a.b == b.b && a.n == b.n) = true:=by rw [Bool.and_eq_true,beq_iff_eq,beq_iff_eq]; exact h1
  rw [cmpV_0 h1]
  exact Bg c_Z5 mixed (go0 @hq)
 ·have hq : (a.b == b.b && a.n == b.n) = false:=by rw [Bool.eq_false_iff,ne_eq,Bool.and_eq_true,beq_iff_eq,beq_iff_eq]; exact h1
  cases hab : a.b with
  | true=>
   rw [cmpV_l h1 (Or.inl hab)]
   rw [hab] at hq
   exact Bg c_Z5 mixed (go0 (cj2 @hab @hq))
  | false=>
   cases hbb : b.b with
   | true=>
    rw [cmpV_g h1 (fun h=>by simp [hab,hbb] at h)]
    rw [hab,hbb] at hq
    exact Bg c_Z5 mixed (go0 (cj3 @hab @hbb @hq))
   | false=>
    rw [hab,hbb] at hq
    by_cases hlt : a.n < b.n
    ·rw [cmpV_l h1 (Or.inr ⟨hbb,hlt⟩)]
     exact Bg c_Z5 mixed (go0 (cj3 @hab @hbb @hq))
    ·rw [cmpV_g h1 (fun h=>by simp [hab] at h; exact hlt h.2)]
     refine does0 c_Z5 mixed (Nat.le_of_ble_eq_true rfl) ?_
     conv=>arg 3; whnf
     repeat' (first|with_reducible refine acc_none ?_ | (conv in hold _=>simp (disch:=omega) only [go_sem,hab,hbb,hq])|refine Stp.go ?_|(with_reducible first|refine it_pos rfl ?_|refine it_neg (by decide) ?_|refine st_nil rfl ?_|refine s_op ?_ ?_|exact trivial)|((with_reducible first|refine dw_reg0 ?_|refine dw_regB ?_);(conv=>arg 3;whnf))|(refine Spl.go (fun hq he=>?_) (fun hq he=>?_)<;>first|(exfalso;clear hq;omega)|((try first|(conv=>arg 8;simp only [hq])|(conv=>arg 4;simp only [hq]));clear hq))|((with_reducible first|refine c_split (fun hq=>?_) (fun hq=>?_)|refine q_split (fun hq=>?_) (fun hq=>?_))<;>(try first|(conv=>arg 8;simp only [hq])|(conv=>arg 4;simp only [hq])))|(with_reducible refine fin_0 ?_ (by first|rfl|(conv=>lhs;simp only [go_sem,hab,hbb,hq])) ?_)|exact Sub.refl _|omega)
theorem Value_compare_ok (a b : V) (ha : a.ok) (hb : b.ok) : Does Try.prog 62 [] [vD a,vD b] (I (cmpV a b)) []:=by
 have hc:=Compare_ok a.n b.n
 cases hab : a.b with
 | true=>
  have ha0:=ha.nul hab
  cases hbb : b.b with
  | true=>
   have hb0:=hb.nul hbb
   rw [cmpV_0 ⟨by rw [hab,hbb],by omega⟩]
   exact Bg c_Z3 mixed (go0 (cj2 @hab @hbb))
  | false=>
   rw [cmpV_l (fun h=>by simp [hab,hbb] at h) (Or.inl hab)]
   exact Bg c_Z3 mixed (go0 (cj2 @hab @hbb))
 | false=>
  cases hbb : b.b with
  | true=>
   rw [cmpV_g (fun h=>by simp [hab,hbb] at h) (fun h=>by simp [hab,hbb] at h)]
   exact Bg c_Z3 mixed (go0 (cj2 @hab @hbb))
  | false=>
   have he : cmpV a b = if a.n < b.n then -1 else if b.n < a.n then 1 else 0:=by
    by_cases h1 : a.n = b.n
    ·rw [cmpV_0 ⟨by rw [hab,hbb],h1⟩,if_neg (by omega),if_neg (by omega)]
    ·by_cases h2 : a.n < b.n
     ·rw [cmpV_l (fun h=>h1 h.2) (Or.inr ⟨hbb,h2⟩),if_pos h2]
     ·rw [cmpV_g (fun h=>h1 h.2) (fun h=>by simp [hab] at h; exact h2 h.2),if_neg h2,if_pos (by omega)]
   rw [he]
   refine Bg c_Z3 mixed (go1 (cj2 @hab @hbb) ?_)
   exact Uc trivial (hc) (go0 trivial)
def cmpR : List V → List V → Int
 | a :: l,b :: m=>if cmpV a b = 0 then cmpR l m else cmpV a b
 | l,m=>(l.length : Int) - m.length
theorem cmpR_hit : ∀ (l m : List V) (i : Nat) (a b : V),(∀ (j : Nat) (x y : V),j < i → l[j]? = some x → m[j]? = some y → cmpV x y = 0) → l[i]? = some a → m[i]? = some b → ¬ cmpV a b = 0 → cmpR l m = cmpV a b
 | [],_,i,a,b,_,h,_,_=>by simp at h
 | _ :: _,[],i,a,b,_,_,h,_=>by simp at h
 | x :: l,y :: m,i,a,b,hz,h1,h2,h3=>by
  rcases i with _ | i
  ·cases h1; cases h2
   rw [cmpR,if_neg h3]
  ·rw [cmpR,if_pos (hz 0 x y (by omega) rfl rfl)]
   exact cmpR_hit l m i a b (fun j x' y' hj hx hy=>hz (j + 1) x' y' (by omega) (by simpa using hx) (by simpa using hy)) (by simpa using h1) (by simpa using h2) h3
theorem cmpR_end : ∀ (l m : List V),(∀ (j : Nat) (x y : V),l[j]? = some x → m[j]? = some y → cmpV x y = 0) → cmpR l m = (l.length : Int) - m.length
 | [],m,_=>by cases m <;> rfl
 | _ :: _,[],_=>rfl
 | x :: l,y :: m,hz=>by
  rw [cmpR,if_pos (hz 0 x y rfl rfl),cmpR_end l m (fun j x' y' hx hy=>hz (j + 1) x' y' (by simpa using hx) (by simpa using hy)),List.length_cons,List.length_cons]
  omega
end Go.Proofs.Ytedmegmhjmabcaa
