/-
  Ascending lists of small numbers, a number added. No condition.
-/
import Derived.Test.YtefldihjbaodnaaGreatKSDca
import Derived.Test.YtefldihjbaodnaaGreatJSVLaw
import Derived.Test.YtefldihjbaodnaaGreatJSVGo
import Derived.Test.YtefldihjbaodnaaGreatJSVTbD
import Derived.Test.YtefldihjbaodnaaGreatKSVVa
import Derived.Test.YtefldihjbaodnaaGreatJSDcWPRowE
import Derived.Test.YtefldihjbaodnaaGreatJSVGateE
set_option maxHeartbeats 4000000
set_option maxRecDepth 100000
set_option linter.unusedVariables false
set_option linter.unusedSimpArgs false
namespace Go.Proofs.YtefldihjbaodnaaGreat
open Go.RowKit
def marked (u : Nat → Bool) (n : Nat) : List Nat:=(List.range n).filter u
def colsL (u : Nat → Bool) (n : Nat) : List D:=(marked u n).map fun j : Nat=>I (j : Int)
theorem marked_len (u : Nat → Bool) (n : Nat) : (marked u n).length ≤ n:=by
 unfold marked
 exact Nat.le_trans (List.length_filter_le _ _) (by rw [List.length_range]; exact Nat.le_refl _)
theorem nats_pur : ∀ l : List Nat,D.purL (l.map fun j : Nat=>I (j : Int)) = true
 | []=>rfl
 | j :: l=>by rw [List.map_cons,D.purL,nats_pur l]; rfl
theorem colsL_pur (u : Nat → Bool) (n : Nat) : D.purL (colsL u n) = true:=nats_pur _
theorem colsL_ren (L : List Nat) (u : Nat → Bool) (n : Nat) : D.renL L (colsL u n) = colsL u n:=ren_pure.renL_pure L _ (colsL_pur u n)
attribute [go_sem] colsL_ren colsL_pur
def intL (l : List Nat) : List D:=l.map fun j : Nat=>I (j : Int)
theorem intL_app (A B : List Nat) : intL (A ++ B) = intL A ++ intL B:=List.map_append
theorem intL_len (A : List Nat) : (intL A).length = A.length:=List.length_map _
theorem intL_pur (l : List Nat) : D.purL (intL l) = true:=nats_pur l
theorem intL_ren (L : List Nat) (l : List Nat) : D.renL L (intL l) = intL l:=ren_pure.renL_pure L _ (intL_pur l)
theorem intL_get {A : List Nat} {k a : Nat} (h : A[k]? = some a) (B : List Nat) : (intL (A ++ B))[k]? = some (I a):=by
 unfold intL
 rw [List.getElem?_map,List.getElem?_append_left (List.getElem?_eq_some_iff.1 h).1,h]
 rfl
theorem intL_mid (A : List Nat) (b : Nat) (B : List Nat) : (intL (A ++ b :: B))[A.length]? = some (I b):=by
 unfold intL
 rw [List.getElem?_map,List.getElem?_append_right (Nat.le_refl _),Nat.sub_self]
 rfl
theorem intL_take (A B : List Nat) : (intL (A ++ B)).take A.length = intL A:=by unfold intL; rw [← List.map_take,List.take_left']; rfl
theorem intL_drop (A B : List Nat) : (intL (A ++ B)).drop A.length = intL B:=by unfold intL; rw [← List.map_drop,List.drop_left']; rfl
theorem intL_all (A B : List Nat) : (intL (A ++ B)).take (A.length + B.length) = intL (A ++ B):=List.take_of_length_le (by rw [intL_len,List.length_append]; exact Nat.le_refl _)
theorem intL_all1 (A : List Nat) : (intL A).take A.length = intL A:=List.take_of_length_le (by rw [intL_len]; exact Nat.le_refl _)
attribute [go_sem] intL_len intL_pur intL_ren intL_mid intL_take intL_drop intL_all intL_all1
theorem intL_put (A B : List Nat) (n : Nat) : (intL A ++ [I n]).take (A.length + 1) ++ intL B = intL (A ++ n :: B):=by
 rw [List.take_of_length_le (by rw [List.length_append,intL_len]; exact Nat.le_refl _),List.append_assoc,intL_app]
 rfl
theorem intL_put0 (A : List Nat) (n : Nat) : (intL A ++ [I n]).take (A.length + 1) = intL (A ++ [n]):=by
 rw [List.take_of_length_le (by rw [List.length_append,intL_len]; exact Nat.le_refl _),intL_app]
 rfl
theorem intL_all2 (A B : List Nat) (b : Nat) : (intL (A ++ b :: B)).take (A.length + (B.length + 1)) = intL (A ++ b :: B):=intL_all A (b :: B)
theorem intL_drop0 (A : List Nat) : (intL A).drop A.length = []:=List.drop_eq_nil_of_le (by rw [intL_len]; exact Nat.le_refl _)
theorem intL_all3 (A : List Nat) (n : Nat) : (intL (A ++ [n])).take (A.length + 1) = intL (A ++ [n]):=intL_all A [n]
theorem intL_all4 (A B : List Nat) (n b : Nat) : (intL (A ++ n :: b :: B)).take (A.length + 1 + (B.length + 1)) = intL (A ++ n :: b :: B):=by
 have:=intL_all A (n :: b :: B)
 rw [show A.length + (n :: b :: B).length = A.length + 1 + (B.length + 1) by simp only [List.length_cons]; omega] at this
 exact this
theorem addNumber_split (A B : List Nat) (n : Nat) (hA : ∀ a,a ∈ A → a < n) (hB : ∀ b,B.head? = some b → n ≤ b) (hlen : A.length + B.length < 1000) :
  Does Tryz.prog 84 [] [.sl 1 (intL (A ++ B)),I n] (.sl 1 (intL (if B.head? = some n then A ++ B else A ++ n :: B))) []:=by
 refine Bg c_Z120 mixed (go1 trivial ?_)
 refine dw_for (c:=0) (l:=fun k=>[(0,.sl 1 (intL (A ++ B))),(1,I n),(5,I k)]) A.length (fun _=>True) 0 trivial (Wk.list [] rfl rfl ?_) (fun k hk _=>?_) (Nat.zero_le _)
 ·repeat' (first|(conv in hold _=>simp (disch:=omega) only [go_sem])|exact trivial|exact Sub.refl _|omega)
  exact rfl
 ·rcases at_or_end hk with ⟨a,ha,hlt⟩ | rfl
  ·have hget:=intL_get ha B
   have han:=hA a (List.mem_of_getElem? ha)
   refine go1 @hget ?_
   refine ⟨hlt,trivial,Wk.list [] rfl rfl ?_⟩
   repeat' (first|(conv in hold _=>simp (disch:=omega) only [go_sem])|exact trivial|exact Sub.refl _|omega)
  ·cases B with
   | nil=>
    rw [if_neg (by simp)]
    repeat' (first|with_reducible refine acc_none ?_ | (conv in hold _=>simp (disch:=omega) only [go_sem,intL_drop0,intL_put0,List.length_nil])|refine Stp.go ?_|(with_reducible first|refine it_pos rfl ?_|refine it_neg (by decide) ?_|refine st_nil rfl ?_|refine s_op ?_ ?_|exact trivial)|((with_reducible first|refine dw_reg0 ?_|refine dw_regB ?_);(conv=>arg 3;whnf))|(refine Spl.go (fun hq he=>?_) (fun hq he=>?_)<;>first|(exfalso;clear hq;omega)|((try first|(conv=>arg 8;simp only [hq])|(conv=>arg 4;simp only [hq]));clear hq))|((with_reducible first|refine c_split (fun hq=>?_) (fun hq=>?_)|refine q_split (fun hq=>?_) (fun hq=>?_))<;>(try first|(conv=>arg 8;simp only [hq])|(conv=>arg 4;simp only [hq])))|exact Sub.refl _|omega)
    refine fin_wk (wk_frz 4 2000047 (by decide) (by decide) rfl ?_) ?_
    rotate_left
    (conv in hold _=>simp (disch:=omega) only [go_sem,intL_drop0,intL_put0,List.length_nil,intL_all3])
    ·refine fin_L [] ?_ ?_ rfl ?_
     repeat' (first|(conv in hold _=>simp (disch:=omega) only [go_sem,intL_drop0,intL_put0,List.length_nil])|exact trivial|exact Sub.refl _|omega)
    ·exact intL_pur _
   | cons b B=>
    have hb:=hB b rfl
    rw [List.length_cons] at hlen
    by_cases e : b = n
    ·rw [if_pos (by rw [e]; rfl)]
     repeat' (first|with_reducible refine acc_none ?_ | (conv in hold _=>simp (disch:=omega) only [go_sem,intL_drop0,intL_put0,List.length_nil])|refine Stp.go ?_|(with_reducible first|refine it_pos rfl ?_|refine it_neg (by decide) ?_|refine st_nil rfl ?_|refine s_op ?_ ?_|exact trivial)|((with_reducible first|refine dw_reg0 ?_|refine dw_regB ?_);(conv=>arg 3;whnf))|(refine Spl.go (fun hq he=>?_) (fun hq he=>?_)<;>first|(exfalso;clear hq;omega)|((try first|(conv=>arg 8;simp only [hq])|(conv=>arg 4;simp only [hq]));clear hq))|((with_reducible first|refine c_split (fun hq=>?_) (fun hq=>?_)|refine q_split (fun hq=>?_) (fun hq=>?_))<;>(try first|(conv=>arg 8;simp only [hq])|(conv=>arg 4;simp only [hq])))|(with_reducible refine fin_0 ?_ (by first|rfl|(conv=>lhs;simp only [go_sem,intL_drop0,intL_put0,List.length_nil])) ?_)|exact Sub.refl _|omega)
    ·rw [if_neg (by simpa using e)]
     refine go1F (cj2 @intL_all2 @intL_put) ?_
     refine fin_wk (wk_frz 4 2000047 (by decide) (by decide) rfl ?_) ?_
     rotate_left
     (conv in hold _=>simp (disch:=omega) only [go_sem,intL_all2,intL_put,intL_all4])
     ·refine fin_L [] ?_ ?_ rfl ?_
      repeat' (first|(conv in hold _=>simp (disch:=omega) only [go_sem,intL_all2,intL_put])|exact trivial|exact Sub.refl _|omega)
      rw [if_pos (by omega)]
      exact Sub.refl _
     ·exact intL_pur _
theorem range_cut (c : Nat) (h : c < 6) : List.range 6 = List.range c ++ c :: List.range' (c + 1) (5 - c):=by
 match c,h with
 | 0,_=>rfl
 | 1,_=>rfl
 | 2,_=>rfl
 | 3,_=>rfl
 | 4,_=>rfl
 | 5,_=>rfl
theorem addNumber_ok (u : Nat → Bool) (c : Nat) (h : c < 6) : Does Tryz.prog 84 [] [.sl 1 (colsL u 6),I c] (.sl 1 (colsL (fun i=>u i || i == c) 6)) []:=by
 have hm : ∀ v : Nat → Bool,marked v 6 = (List.range c).filter v ++ (c :: List.range' (c + 1) (5 - c)).filter v:=fun v=>by unfold marked; rw [range_cut c h,List.filter_append]
 have hA : ∀ a,a ∈ (List.range c).filter u → a < c:=fun a ha=>List.mem_range.1 (List.mem_filter.1 ha).1
 have hR : ∀ a,a ∈ List.range' (c + 1) (5 - c) → c < a:=fun a ha=>by have:=List.mem_range'_1.1 ha; omega
 have hB : ∀ b,((c :: List.range' (c + 1) (5 - c)).filter u).head? = some b → c ≤ b:=fun b hb=>by
  rcases List.mem_cons.1 (List.mem_filter.1 (List.mem_of_head? hb)).1 with rfl | hb
  ·exact Nat.le_refl _
  ·exact Nat.le_of_lt (hR b hb)
 have key:=addNumber_split _ _ c hA hB (by rw [← List.length_append,← hm]; have:=marked_len u 6; omega)
 have hres : (if ((c :: List.range' (c + 1) (5 - c)).filter u).head? = some c then (List.range c).filter u ++ (c :: List.range' (c + 1) (5 - c)).filter u else (List.range c).filter u ++ c :: (c :: List.range' (c + 1) (5 - c)).filter u) = marked (fun i=>u i || i == c) 6:=by
  by_cases hu : u c = true
  ·have hu' : (fun i=>u i || i == c) = u:=funext fun i=>by
    by_cases e : i = c
    ·subst e; simp [hu]
    ·simp [e]
   rw [hu',hm u,List.filter_cons,if_pos hu,List.head?_cons,if_pos rfl]
  ·have hne : ¬ ((c :: List.range' (c + 1) (5 - c)).filter u).head? = some c:=fun hb=>by
    have:=(List.mem_filter.1 (List.mem_of_head? hb)).2
    exact hu this
   rw [if_neg hne,hm,List.filter_cons,if_neg hu,List.filter_cons,if_pos (by simp)]
   have e1 : (List.range c).filter (fun i=>u i || i == c) = (List.range c).filter u:=List.filter_congr (fun i hi=>by
    have:=List.mem_range.1 hi
    have : ¬ i = c:=by omega
    simp [this])
   have e2 : (List.range' (c + 1) (5 - c)).filter (fun i=>u i || i == c) = (List.range' (c + 1) (5 - c)).filter u:=List.filter_congr (fun i hi=>by
    have:=hR i hi
    have : ¬ i = c:=by omega
    simp [this])
   rw [e1,e2]
 rw [hres,← hm u] at key
 exact key
end Go.Proofs.YtefldihjbaodnaaGreat
set_option maxHeartbeats 4000000
set_option maxRecDepth 100000
namespace Go.Proofs.YtefldihjbaodnaaGreat
open Go.RowKit
def cmpV (a b : V) : Int:=if a.b = b.b ∧ a.n = b.n then 0 else if a.b = true ∨ (b.b = false ∧ a.n < b.n) then -1 else 1
theorem cmpV_0 {a b : V} (h : a.b = b.b ∧ a.n = b.n) : cmpV a b = 0:=if_pos h
theorem cmpV_l {a b : V} (h : ¬ (a.b = b.b ∧ a.n = b.n)) (h' : a.b = true ∨ (b.b = false ∧ a.n < b.n)) : cmpV a b = -1:=by unfold cmpV; rw [if_neg h,if_pos h']
theorem cmpV_g {a b : V} (h : ¬ (a.b = b.b ∧ a.n = b.n)) (h' : ¬ (a.b = true ∨ (b.b = false ∧ a.n < b.n))) : cmpV a b = 1:=by unfold cmpV; rw [if_neg h,if_neg h']
theorem compareValues_ok (a b : V) : Does Tryz.prog 185 [] [vD a,vD b] (I (cmpV a b)) []:=by
 by_cases h1 : a.b = b.b ∧ a.n = b.n
 ·have hq : (a.b == b.b && a.n == b.n) = true:=by rw [Bool.and_eq_true,beq_iff_eq,beq_iff_eq]; exact h1
  rw [cmpV_0 h1]
  exact Bg c_Z53 mixed (go0 @hq)
 ·have hq : (a.b == b.b && a.n == b.n) = false:=by rw [Bool.eq_false_iff,ne_eq,Bool.and_eq_true,beq_iff_eq,beq_iff_eq]; exact h1
  cases hab : a.b with
  | true=>
   rw [cmpV_l h1 (Or.inl hab)]
   rw [hab] at hq
   exact Bg c_Z53 mixed (go0 (cj2 @hab @hq))
  | false=>
   cases hbb : b.b with
   | true=>
    rw [cmpV_g h1 (fun h=>by simp [hab,hbb] at h)]
    rw [hab,hbb] at hq
    exact Bg c_Z53 mixed (go0 (cj3 @hab @hbb @hq))
   | false=>
    rw [hab,hbb] at hq
    by_cases hlt : a.n < b.n
    ·rw [cmpV_l h1 (Or.inr ⟨hbb,hlt⟩)]
     exact Bg c_Z53 mixed (go0 (cj3 @hab @hbb @hq))
    ·rw [cmpV_g h1 (fun h=>by simp [hab] at h; exact hlt h.2)]
     refine does0 c_Z53 mixed (Nat.le_of_ble_eq_true rfl) ?_
     conv=>arg 3; whnf
     repeat' (first|with_reducible refine acc_none ?_ | (conv in hold _=>simp (disch:=omega) only [go_sem,hab,hbb,hq])|refine Stp.go ?_|(with_reducible first|refine it_pos rfl ?_|refine it_neg (by decide) ?_|refine st_nil rfl ?_|refine s_op ?_ ?_|exact trivial)|((with_reducible first|refine dw_reg0 ?_|refine dw_regB ?_);(conv=>arg 3;whnf))|(refine Spl.go (fun hq he=>?_) (fun hq he=>?_)<;>first|(exfalso;clear hq;omega)|((try first|(conv=>arg 8;simp only [hq])|(conv=>arg 4;simp only [hq]));clear hq))|((with_reducible first|refine c_split (fun hq=>?_) (fun hq=>?_)|refine q_split (fun hq=>?_) (fun hq=>?_))<;>(try first|(conv=>arg 8;simp only [hq])|(conv=>arg 4;simp only [hq])))|(with_reducible refine fin_0 ?_ (by first|rfl|(conv=>lhs;simp only [go_sem,hab,hbb,hq])) ?_)|exact Sub.refl _|omega)
theorem Value_compare_ok (a b : V) (ha : a.ok) (hb : b.ok) : Does Tryz.prog 125 [] [vD a,vD b] (I (cmpV a b)) []:=by
 have hc:=Compare_ok a.n b.n
 cases hab : a.b with
 | true=>
  have ha0:=ha.nul hab
  cases hbb : b.b with
  | true=>
   have hb0:=hb.nul hbb
   rw [cmpV_0 ⟨by rw [hab,hbb],by omega⟩]
   exact Bg c_Z46 mixed (go0 (cj2 @hab @hbb))
  | false=>
   rw [cmpV_l (fun h=>by simp [hab,hbb] at h) (Or.inl hab)]
   exact Bg c_Z46 mixed (go0 (cj2 @hab @hbb))
 | false=>
  cases hbb : b.b with
  | true=>
   rw [cmpV_g (fun h=>by simp [hab,hbb] at h) (fun h=>by simp [hab,hbb] at h)]
   exact Bg c_Z46 mixed (go0 (cj2 @hab @hbb))
  | false=>
   have he : cmpV a b = if a.n < b.n then -1 else if b.n < a.n then 1 else 0:=by
    by_cases h1 : a.n = b.n
    ·rw [cmpV_0 ⟨by rw [hab,hbb],h1⟩,if_neg (by omega),if_neg (by omega)]
    ·by_cases h2 : a.n < b.n
     ·rw [cmpV_l (fun h=>h1 h.2) (Or.inr ⟨hbb,h2⟩),if_pos h2]
     ·rw [cmpV_g (fun h=>h1 h.2) (fun h=>by simp [hab] at h; exact h2 h.2),if_neg h2,if_pos (by omega)]
   rw [he]
   refine Bg c_Z46 mixed (go1 (cj2 @hab @hbb) ?_)
   exact Uc trivial (hc) (go0 trivial)
def cmpR : List V → List V → Int
 | a :: l,b :: m=>if cmpV a b = 0 then cmpR l m else cmpV a b
 | l,m=>(l.length : Int) - m.length
theorem cmpR_hit : ∀ (l m : List V) (i : Nat) (a b : V),(∀ (j : Nat) (x y : V),j < i → l[j]? = some x → m[j]? = some y → cmpV x y = 0) → l[i]? = some a → m[i]? = some b → ¬ cmpV a b = 0 → cmpR l m = cmpV a b
 | [],_,i,a,b,_,h,_,_=>by simp at h
 | _ :: _,[],i,a,b,_,_,h,_=>by simp at h
 | x :: l,y :: m,i,a,b,hz,h1,h2,h3=>by
  rcases i with _ | i
  ·cases h1; cases h2
   rw [cmpR,if_neg h3]
  ·rw [cmpR,if_pos (hz 0 x y (by omega) rfl rfl)]
   exact cmpR_hit l m i a b (fun j x' y' hj hx hy=>hz (j + 1) x' y' (by omega) (by simpa using hx) (by simpa using hy)) (by simpa using h1) (by simpa using h2) h3
theorem cmpR_end : ∀ (l m : List V),(∀ (j : Nat) (x y : V),l[j]? = some x → m[j]? = some y → cmpV x y = 0) → cmpR l m = (l.length : Int) - m.length
 | [],m,_=>by cases m <;> rfl
 | _ :: _,[],_=>rfl
 | x :: l,y :: m,hz=>by
  rw [cmpR,if_pos (hz 0 x y rfl rfl),cmpR_end l m (fun j x' y' hx hy=>hz (j + 1) x' y' (by simpa using hx) (by simpa using hy)),List.length_cons,List.length_cons]
  omega
end Go.Proofs.YtefldihjbaodnaaGreat
set_option maxHeartbeats 4000000
set_option maxRecDepth 100000
set_option linter.unusedVariables false
set_option linter.unusedSimpArgs false
namespace Go.Proofs.YtefldihjbaodnaaGreat
open Go.RowKit
instance vDec : DecidableEq V:=fun a b=>decidable_of_iff (a.b = b.b ∧ a.n = b.n) ⟨fun h=>by
 cases a
 cases b
 simp only at h
 rw [h.1,h.2],fun h=>by rw [h]; exact ⟨rfl,rfl⟩⟩
theorem equalRows_gen (a b : List V) (hl : a.length = b.length) (hlen : a.length < 1000000) : Does Tryz.prog 81 [] [rowD a,rowD b] (Bo (decide (a = b))) []:=by
 refine Bg c_Z118 mixed (go1 trivial ?_)
 refine dw_for (c:=0) (l:=fun i=>[(0,rowD a),(1,rowD b),(5,I i)]) a.length (fun i=>∀ (j : Nat) (x : V),j < i → a[j]? = some x → b[j]? = some x) 0 (by omega) (Wk.list [] rfl rfl ?_) (fun i hi hJ=>?_) (Nat.zero_le _)
 ·repeat' (first|(conv in hold _=>simp (disch:=omega) only [go_sem])|exact trivial|exact Sub.refl _|omega)
  exact rfl
 ·rcases at_or_end hi with ⟨x,hx,hlt⟩ | rfl
  ·obtain ⟨y,hy⟩ : ∃ y,b[i]? = some y:=⟨_,List.getElem?_eq_getElem (by omega)⟩
   by_cases hxy : x = y
   ·subst hxy
    refine go1 (cj4 @hx @hy @Bool.and_self @Bool.not_true) ?_
    refine ⟨hlt,fun j z hj hz=>?_,Wk.list [] rfl rfl ?_⟩
    ·by_cases e : j = i
     ·subst e
      rw [hx] at hz
      cases hz
      exact hy
     ·exact hJ j z (by omega) hz
    ·repeat' (first|(conv in hold _=>simp (disch:=omega) only [go_sem])|exact trivial|exact Sub.refl _|omega)
   ·have hne : (x.b == y.b && x.n == y.n) = false:=by
     rw [Bool.eq_false_iff,ne_eq,Bool.and_eq_true,beq_iff_eq,beq_iff_eq]
     intro h
     refine hxy ?_
     cases x
     cases y
     simp only at h
     rw [h.1,h.2]
    refine go1 (cj4 @hx @hy @hne @Bool.not_false) ?_
    exact sub_f (fun e=>by
     rw [e,hy] at hx
     exact hxy (by simpa using hx.symm))
  ·refine go1 trivial ?_
   exact sub_t (List.ext_getElem? (fun j=>by
    by_cases hj : j < a.length
    ·have hx:=List.getElem?_eq_getElem hj
     rw [hJ j _ hj hx,hx]
    ·rw [List.getElem?_eq_none (by omega),List.getElem?_eq_none (by omega)]))
end Go.Proofs.YtefldihjbaodnaaGreat
set_option maxHeartbeats 4000000
set_option maxRecDepth 100000
set_option linter.unusedVariables false
set_option linter.unusedSimpArgs false
namespace Go.Proofs.YtefldihjbaodnaaGreat
open Go.RowKit
theorem firstRows_s {f : FuncId} (hf : enters Tryz.prog f = true) {caps : List D} (hcp : D.purL caps = true) (rs : List (List V)) (hl : rs.length ≤ 400) (hY : Yields Tryz.prog f caps (rs.map tupR)) :
  Does Tryz.prog 111 [] [.fn f caps] (rowsD rs) []:=by
 have hren:=fun L=>ren_pure.renL_pure L caps hcp
 have htk : (rs.map rowD).take rs.length = rs.map rowD:=take_all rowD rs
 refine Bg c_Z112 mixed (go1 trivial ?_)
 refine dw_rng f caps (rs.map tupR) 1 2 [(3,.ref 1000000 0),(5,.fn f caps)] (fun i=>[(1000000,.obj [.own 1000001 1 i]),(1000001,.row 1 ((rs.take i).map rowD))]) hY hf hcp (Nat.zero_le _) (by decide) (by decide) ?_ (fun i=>namesOK_of rfl) ((wk_rowO 2000003 3000000 1 0 (by decide) (by decide) (by decide) rfl rfl rfl).trans (Wk.list [2000003,3000000] rfl rfl ?_)) rfl (fun i es h=>by obtain ⟨_,_,rfl⟩:=tupR_at h; rfl) (fun i es h hp=>?_) ?_
 ·simp (disch:=omega) only [go_sem,hren,and_self,Nat.reduceLT]
 ·repeat' (first|(conv in hold _=>simp (disch:=omega) only [go_sem,hren])|exact trivial|exact Sub.refl _|omega)
 ·obtain ⟨r,hr,rfl⟩:=tupR_at h
  have hlt:=(List.getElem?_eq_some_iff.1 hr).1
  have hmk : ((rs.take i).map rowD).take i = (rs.take i).map rowD:=take_map rowD (by omega)
  have hnx:=take_next hr
  have htl:=take_len (vs:=rs) (i:=i) (by omega)
  refine go1 @htl ?_
  refine Wk.list [1000000,2000010] rfl rfl ?_
  repeat' (first|(conv in hold _=>simp (disch:=omega) only [go_sem,List.length_map,htl])|exact trivial|exact Sub.refl _|omega)
  rw [hmk,hnx,List.map_append]
  rfl
 ·have e1 : rs.take rs.length = rs:=List.take_length
  refine go1F @e1 ?_
  refine fin_wk (wk_frz 2 1000001 (by decide) (by decide) rfl ?_) ?_
  rotate_left
  (conv in hold _=>simp (disch:=omega) only [go_sem,e1,htk,List.length_map,Nat.le_refl])
  ·refine fin_L [] ?_ ?_ rfl ?_
   repeat' (first|(conv in hold _=>simp (disch:=omega) only [go_sem,e1,htk,List.length_map])|exact trivial|exact Sub.refl _|omega)
  ·exact rows_pur rs
theorem firstRows_n {f : FuncId} (hf : enters Tryz.prog f = true) {caps : List D} (hcp : D.purL caps = true) (rs : List (List V)) (hl : 400 < rs.length) (hl2 : rs.length ≤ 1000000) (hY : Yields Tryz.prog f caps (rs.map tupR)) :
  Does Tryz.prog 111 [] [.fn f caps] (rowsD (rs.take 401)) []:=by
 have hren:=fun L=>ren_pure.renL_pure L caps hcp
 have hl4 : (rs.take 401).length = 401:=take_len (by omega)
 have htk : ((rs.take 401).map rowD).take 401 = (rs.take 401).map rowD:=take_map rowD (by omega)
 refine Bg c_Z112 mixed (go1 trivial ?_)
 refine dw_rngX f caps (rs.map tupR) 400 1 2 [(3,.ref 1000000 0),(5,.fn f caps)] (fun i=>[(1000000,.obj [.own 1000001 1 i]),(1000001,.row 1 ((rs.take i).map rowD))]) hY hf hcp (Nat.zero_le _) (by decide) (by decide) ?_ (fun i=>namesOK_of rfl) ((wk_rowO 2000003 3000000 1 0 (by decide) (by decide) (by decide) rfl rfl rfl).trans (Wk.list [2000003,3000000] rfl rfl ?_)) rfl (fun i es h=>by obtain ⟨_,_,rfl⟩:=tupR_at h; rfl) (by rw [List.length_map]; exact hl) (fun i es hi h hp=>?_) (fun es h hp=>?_)
 ·simp (disch:=omega) only [go_sem,hren,and_self,Nat.reduceLT]
 ·repeat' (first|(conv in hold _=>simp (disch:=omega) only [go_sem,hren])|exact trivial|exact Sub.refl _|omega)
 ·obtain ⟨r,hr,rfl⟩:=tupR_at h
  have hlt:=(List.getElem?_eq_some_iff.1 hr).1
  have hmk : ((rs.take i).map rowD).take i = (rs.take i).map rowD:=take_map rowD (by omega)
  have hnx:=take_next hr
  have htl:=take_len (vs:=rs) (i:=i) (by omega)
  refine go1 @htl ?_
  refine Wk.list [1000000,2000010] rfl rfl ?_
  repeat' (first|(conv in hold _=>simp (disch:=omega) only [go_sem,List.length_map,htl])|exact trivial|exact Sub.refl _|omega)
  rw [hmk,hnx,List.map_append]
  rfl
 ·obtain ⟨r,hr,rfl⟩:=tupR_at h
  have hmk : ((rs.take 400).map rowD).take 400 = (rs.take 400).map rowD:=take_map rowD (by omega)
  have hnx : rs.take 401 = rs.take 400 ++ [r]:=take_next hr
  have htl : (rs.take 400).length = 400:=take_len (by omega)
  refine go1 @htl ?_
  refine ⟨[(1000000,.obj [.own 1000001 1 401]),(1000001,.row 1 ((rs.take 401).map rowD))],namesOK_of rfl,Wk.list [1000000,2000010] rfl rfl ?_,?_⟩
  ·repeat' (first|(conv in hold _=>simp (disch:=omega) only [go_sem,List.length_map,htl])|exact trivial|exact Sub.refl _|omega)
   rw [hmk,hnx,List.map_append]
   rfl
  ·refine go1F @hl4 ?_
   refine fin_wk (wk_frz 2 1000001 (by decide) (by decide) rfl ?_) ?_
   rotate_left
   (conv in hold _=>simp (disch:=omega) only [go_sem,htk,hl4,List.length_map,Nat.le_refl])
   ·refine fin_L [] ?_ ?_ rfl ?_
    repeat' (first|(conv in hold _=>simp (disch:=omega) only [go_sem,htk,hl4,List.length_map])|exact trivial|exact Sub.refl _|omega)
   ·exact rows_pur _
theorem rowsOrNone_s (rs : List (List V)) (hl : rs.length ≤ 400) : Does Tryz.prog 110 [] [rowsD rs] (rowsD rs) []:=by
 have h : ¬ (400 : Int) < rs.length:=by omega
 exact Bg c_Z96 mixed (go0 trivial)
theorem rowsOrNone_n (rs : List (List V)) (hl : 400 < rs.length) : Does Tryz.prog 110 [] [rowsD rs] (rowsD []) []:=by
 have h : (400 : Int) < rs.length:=by omega
 refine Bg c_Z96 mixed (go1 trivial ?_)
 exact Sub.nul 1
def colL (rs : List (List V)) : List (List V):=if rs.length ≤ 400 then rs else []
theorem collectRows_ok {f : FuncId} (hf : enters Tryz.prog f = true) {caps : List D} (hcp : D.purL caps = true) (rs : List (List V)) (hl : rs.length ≤ 1000000) (hY : Yields Tryz.prog f caps (rs.map tupR)) :
  Does Tryz.prog 66 [] [.fn f caps] (rowsD (colL rs)) []:=by
 have hren:=fun L=>ren_pure.renL_pure L caps hcp
 unfold colL
 by_cases h : rs.length ≤ 400
 ·rw [if_pos h]
  have h1:=firstRows_s hf hcp rs h hY
  have h2:=rowsOrNone_s rs h
  refine Bg c_Z74 mixed (go1 (cj2 @hcp @hren) ?_)
  refine Uc (cj2 @hcp @hren) (h1) (go1 (cj2 @hcp @hren) ?_)
  exact Uc trivial (h2) (go0 trivial)
 ·rw [if_neg h]
  have h1:=firstRows_n hf hcp rs (by omega) hl hY
  have h2:=rowsOrNone_n (rs.take 401) (by rw [take_len (by omega)]; omega)
  refine Bg c_Z74 mixed (go1 (cj2 @hcp @hren) ?_)
  refine Uc (cj2 @hcp @hren) (h1) (go1 (cj2 @hcp @hren) ?_)
  exact Uc trivial (h2) (go0 trivial)
end Go.Proofs.YtefldihjbaodnaaGreat
