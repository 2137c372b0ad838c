/-
  The call of an exact law; structs that come in. No condition.
-/
import Derived.Test.YtedmegmhjmabcaaJSVSzV
import Derived.Test.YtedmegmhjmabcaaKSDca
import Derived.Test.YtedmegmhjmabcaaJSVLib
import Derived.Test.YtedmegmhjmabcaaSVGo
import Derived.Test.YtedmegmhjmabcaaKSDcb
import Derived.Test.YtedmegmhjmabcaaKSVVa
import Derived.Test.YtedmegmhjmabcaaJSVCol
set_option maxHeartbeats 4000000
set_option maxRecDepth 100000
namespace Go.Proofs.Ytedmegmhjmabcaa
open Go.ChangeShapes Go.WideShapes Go.ChangeAt Go.RowKit Go.Joins Go.Deep
theorem cells_int : Try.prog.cellsOf 3 = 1:=by kernel_rfl
section
variable {H : Type} {enc : TypeId × Value → H} {W : World} {base b0 : Nat} {held : Bool} {r : Reach} {v : Value} {d : DataW H} {p : List MemPlace}
theorem agg_fz {ds : List D} {cs : Array Value} (h : CellsOK W (allOf W) noNames ds cs.toList) : Fz W (allOf W) noNames (.agg ds) (.agg cs):=by
 have:=Fz.agg noNames ds cs.toList h.len h.one h.fz
 simpa using this
end
theorem calls_4 {f : FuncId} {d0 d1 d2 d3 : D} {v0 v1 v2 v3 : Value} {w : World} (h : Does Try.prog f [] [d0,d1,d2,d3] (Bo true) []) (h0 : Fz w (allOf w) noNames d0 v0) (h1 : Fz w (allOf w) noNames d1 v1) (h2 : Fz w (allOf w) noNames d2 v2) (h3 : Fz w (allOf w) noNames d3 v3) :
  Calls Try.prog f #[v0,v1,v2,v3] w fun e W'=>e = .returned (.bool true) ∧ Below w.heap.size w W':=by
 refine calls_of h w [v0,v1,v2,v3] rfl (fun i d x hd hx=>?_)
 rcases i with _ | _ | _ | _ | i
 ·obtain rfl : d0 = d:=by simpa using hd
  obtain rfl : v0 = x:=by simpa using hx
  exact h0
 ·obtain rfl : d1 = d:=by simpa using hd
  obtain rfl : v1 = x:=by simpa using hx
  exact h1
 ·obtain rfl : d2 = d:=by simpa using hd
  obtain rfl : v2 = x:=by simpa using hx
  exact h2
 ·obtain rfl : d3 = d:=by simpa using hd
  obtain rfl : v3 = x:=by simpa using hx
  exact h3
 ·simp at hd
end Go.Proofs.Ytedmegmhjmabcaa
set_option maxHeartbeats 4000000
set_option maxRecDepth 100000
namespace Go.Proofs.Ytedmegmhjmabcaa
open Go.RowKit
theorem toValue_ok (v : V) : Does Try.prog 125 [] [vD v] (vD v) []:=by
 exact Bg c_Z58 mixed (go0 trivial)
theorem eqValue_ok (v : V) : Does Try.prog 108 [] [vD v,vD v] (Bo true) []:=by
 exact Bg c_Z55 mixed (go0 trivial)
end Go.Proofs.Ytedmegmhjmabcaa
set_option maxHeartbeats 4000000
set_option maxRecDepth 100000
namespace Go.Proofs.Ytedmegmhjmabcaa
open Go.RowKit
def cmpV (a b : V) : Int:=if a.b = b.b ∧ a.n = b.n then 0 else if a.b = true ∨ (b.b = false ∧ a.n < b.n) then -1 else 1
theorem cmpV_0 {a b : V} (h : a.b = b.b ∧ a.n = b.n) : cmpV a b = 0:=if_pos h
theorem cmpV_l {a b : V} (h : ¬ (a.b = b.b ∧ a.n = b.n)) (h' : a.b = true ∨ (b.b = false ∧ a.n < b.n)) : cmpV a b = -1:=by unfold cmpV; rw [if_neg h,if_pos h']
theorem cmpV_g {a b : V} (h : ¬ (a.b = b.b ∧ a.n = b.n)) (h' : ¬ (a.b = true ∨ (b.b = false ∧ a.n < b.n))) : cmpV a b = 1:=by unfold cmpV; rw [if_neg h,if_neg h']
theorem compareValues_ok (a b : V) : Does Try.prog 129 [] [vD a,vD b] (I (cmpV a b)) []:=by
 by_cases h1 : a.b = b.b ∧ a.n = b.n
 ·have hq : (a.b == b.b && a.n == b.n) = true:=by rw [Bool.and_eq_true,beq_iff_eq,beq_iff_eq]; exact h1
  rw [cmpV_0 h1]
  exact Bg c_Z12 mixed (go0 @hq)
 ·have hq : (a.b == b.b && a.n == b.n) = false:=by rw [Bool.eq_false_iff,ne_eq,Bool.and_eq_true,beq_iff_eq,beq_iff_eq]; exact h1
  cases hab : a.b with
  | true=>
   rw [cmpV_l h1 (Or.inl hab)]
   rw [hab] at hq
   exact Bg c_Z12 mixed (go0 (cj2 @hab @hq))
  | false=>
   cases hbb : b.b with
   | true=>
    rw [cmpV_g h1 (fun h=>by simp [hab,hbb] at h)]
    rw [hab,hbb] at hq
    exact Bg c_Z12 mixed (go0 (cj3 @hab @hbb @hq))
   | false=>
    rw [hab,hbb] at hq
    by_cases hlt : a.n < b.n
    ·rw [cmpV_l h1 (Or.inr ⟨hbb,hlt⟩)]
     exact Bg c_Z12 mixed (go0 (cj3 @hab @hbb @hq))
    ·rw [cmpV_g h1 (fun h=>by simp [hab] at h; exact hlt h.2)]
     refine does0 c_Z12 mixed (Nat.le_of_ble_eq_true rfl) ?_
     conv=>arg 3; whnf
     repeat' (first|with_reducible refine acc_none ?_ | (conv in hold _=>simp (disch:=omega) only [go_sem,hab,hbb,hq])|refine Stp.go ?_|(with_reducible first|refine it_pos rfl ?_|refine it_neg (by decide) ?_|refine st_nil rfl ?_|refine s_op ?_ ?_|exact trivial)|((with_reducible first|refine dw_reg0 ?_|refine dw_regB ?_);(conv=>arg 3;whnf))|(refine Spl.go (fun hq he=>?_) (fun hq he=>?_)<;>first|(exfalso;clear hq;omega)|((try first|(conv=>arg 8;simp only [hq])|(conv=>arg 4;simp only [hq]));clear hq))|((with_reducible first|refine c_split (fun hq=>?_) (fun hq=>?_)|refine q_split (fun hq=>?_) (fun hq=>?_))<;>(try first|(conv=>arg 8;simp only [hq])|(conv=>arg 4;simp only [hq])))|(with_reducible refine fin_0 ?_ (by first|rfl|(conv=>lhs;simp only [go_sem,hab,hbb,hq])) ?_)|exact Sub.refl _|omega)
theorem Value_compare_ok (a b : V) (ha : a.ok) (hb : b.ok) : Does Try.prog 62 [] [vD a,vD b] (I (cmpV a b)) []:=by
 have hc:=Compare_ok a.n b.n
 cases hab : a.b with
 | true=>
  have ha0:=ha.nul hab
  cases hbb : b.b with
  | true=>
   have hb0:=hb.nul hbb
   rw [cmpV_0 ⟨by rw [hab,hbb],by omega⟩]
   exact Bg c_Z11 mixed (go0 (cj2 @hab @hbb))
  | false=>
   rw [cmpV_l (fun h=>by simp [hab,hbb] at h) (Or.inl hab)]
   exact Bg c_Z11 mixed (go0 (cj2 @hab @hbb))
 | false=>
  cases hbb : b.b with
  | true=>
   rw [cmpV_g (fun h=>by simp [hab,hbb] at h) (fun h=>by simp [hab,hbb] at h)]
   exact Bg c_Z11 mixed (go0 (cj2 @hab @hbb))
  | false=>
   have he : cmpV a b = if a.n < b.n then -1 else if b.n < a.n then 1 else 0:=by
    by_cases h1 : a.n = b.n
    ·rw [cmpV_0 ⟨by rw [hab,hbb],h1⟩,if_neg (by omega),if_neg (by omega)]
    ·by_cases h2 : a.n < b.n
     ·rw [cmpV_l (fun h=>h1 h.2) (Or.inr ⟨hbb,h2⟩),if_pos h2]
     ·rw [cmpV_g (fun h=>h1 h.2) (fun h=>by simp [hab] at h; exact h2 h.2),if_neg h2,if_pos (by omega)]
   rw [he]
   refine Bg c_Z11 mixed (go1 (cj2 @hab @hbb) ?_)
   exact Uc trivial (hc) (go0 trivial)
def cmpR : List V → List V → Int
 | a :: l,b :: m=>if cmpV a b = 0 then cmpR l m else cmpV a b
 | l,m=>(l.length : Int) - m.length
theorem cmpR_hit : ∀ (l m : List V) (i : Nat) (a b : V),(∀ (j : Nat) (x y : V),j < i → l[j]? = some x → m[j]? = some y → cmpV x y = 0) → l[i]? = some a → m[i]? = some b → ¬ cmpV a b = 0 → cmpR l m = cmpV a b
 | [],_,i,a,b,_,h,_,_=>by simp at h
 | _ :: _,[],i,a,b,_,_,h,_=>by simp at h
 | x :: l,y :: m,i,a,b,hz,h1,h2,h3=>by
  rcases i with _ | i
  ·cases h1; cases h2
   rw [cmpR,if_neg h3]
  ·rw [cmpR,if_pos (hz 0 x y (by omega) rfl rfl)]
   exact cmpR_hit l m i a b (fun j x' y' hj hx hy=>hz (j + 1) x' y' (by omega) (by simpa using hx) (by simpa using hy)) (by simpa using h1) (by simpa using h2) h3
theorem cmpR_end : ∀ (l m : List V),(∀ (j : Nat) (x y : V),l[j]? = some x → m[j]? = some y → cmpV x y = 0) → cmpR l m = (l.length : Int) - m.length
 | [],m,_=>by cases m <;> rfl
 | _ :: _,[],_=>rfl
 | x :: l,y :: m,hz=>by
  rw [cmpR,if_pos (hz 0 x y rfl rfl),cmpR_end l m (fun j x' y' hx hy=>hz (j + 1) x' y' (by simpa using hx) (by simpa using hy)),List.length_cons,List.length_cons]
  omega
end Go.Proofs.Ytedmegmhjmabcaa
set_option maxHeartbeats 4000000
set_option maxRecDepth 100000
set_option linter.unusedVariables false
set_option linter.unusedSimpArgs false
namespace Go.Proofs.Ytedmegmhjmabcaa
open Go.RowKit
instance vDec : DecidableEq V:=fun a b=>decidable_of_iff (a.b = b.b ∧ a.n = b.n) ⟨fun h=>by
 cases a
 cases b
 simp only at h
 rw [h.1,h.2],fun h=>by rw [h]; exact ⟨rfl,rfl⟩⟩
end Go.Proofs.Ytedmegmhjmabcaa
set_option maxHeartbeats 4000000
set_option maxRecDepth 100000
namespace Go.Proofs.Ytedmegmhjmabcaa
open Go.ChangeShapes Go.WideShapes Go.ChangeAt Go.RowKit Go.Joins Go.Deep
theorem cells_LV : Try.prog.cellsOf 147 = 2:=by kernel_rfl
section
variable {H : Type} {enc : TypeId × Value → H} {W : World} {base b0 : Nat} {held : Bool} {r : Reach} {v : Value} {d : DataW H} {p : List MemPlace}
set_option maxRecDepth 100000 in
theorem trod_Vx {fuel : Nat} {cs : List Value} {x : DataW H × List MemPlace} {spare : Nat → Bool} (h : DataW.trod enc Try.prog W base spare held fuel 147 cs = some x) :
  ∃ u : V,CellsOK W (allOf W) noNames [Bo u.b,I u.n] cs:=by
 obtain ⟨y0,y1,n,_,hl,h0,h1⟩:=trod_struct2 Try.underlying147 h
 rw [cells_LV] at hl
 match cs,hl with
 | [c0,c1],_=>
  have e0 : (Try.prog.cellsOf 4) = 1:=by kernel_rfl
  simp only [e0,cells_int,List.drop_zero,List.drop_succ_cons,List.take_succ_cons,List.take_zero] at h0 h1
  obtain ⟨b,q0,_⟩:=DataW.trod_bool Try.underlying4 h0
  obtain ⟨m,q1⟩:=int_fz Try.underlying3 h1
  simp only [List.cons.injEq,and_true] at q0
  subst q0
  have q : CellsOK W (allOf W) noNames [Bo b] [.bool b]:=CellsOK.intro1 rfl (.v _ _)
  exact ⟨⟨b,m⟩,q.append q1⟩
end
end Go.Proofs.Ytedmegmhjmabcaa
