/-
  Small functions of the expression seat do what they say.
-/
import Derived.Test.YtefldihjbaodnaaGreatKSDca
import Derived.Test.YtefldihjbaodnaaGreatKSDcc
import Derived.Test.YtefldihjbaodnaaGreatJSVGo
import Derived.Test.YtefldihjbaodnaaGreatJSVTbD
import Derived.Test.YtefldihjbaodnaaGreatJSDcWNlP
import Derived.Test.YtefldihjbaodnaaGreatJSDcVWidD
import Derived.Test.YtefldihjbaodnaaGreatKSVVa
import Derived.Test.YtefldihjbaodnaaGreatJSDcWPRowE
import Derived.Test.YtefldihjbaodnaaGreatJSVRead
namespace Go.Proofs.YtefldihjbaodnaaGreat
open Go.RowKit
theorem does_toInt (b : Bool) : Does Tryz.prog 189 [] [.v (.bool b)] (.v (.int .i64 (if b then 1 else 0))) []:=by
 refine does0 c_Z199 mixed (Nat.le_of_ble_eq_true rfl) ?_
 conv=>arg 3; whnf
 repeat' (first|with_reducible refine acc_none ?_ | (conv in hold _=>simp (disch:=omega) only [go_sem])|refine Stp.go ?_|(with_reducible first|refine it_pos rfl ?_|refine it_neg (by decide) ?_|refine st_nil rfl ?_|refine s_op ?_ ?_|exact trivial)|((with_reducible first|refine dw_reg0 ?_|refine dw_regB ?_);(conv=>arg 3;whnf))|(refine Spl.go (fun hq he=>?_) (fun hq he=>?_)<;>first|(exfalso;clear hq;omega)|((try first|(conv=>arg 8;simp only [hq])|(conv=>arg 4;simp only [hq]));clear hq))|((with_reducible first|refine c_split (fun hq=>?_) (fun hq=>?_)|refine q_split (fun hq=>?_) (fun hq=>?_))<;>(try first|(conv=>arg 8;simp only [hq])|(conv=>arg 4;simp only [hq])))|(with_reducible refine fin_0 ?_ (by first|rfl|(conv=>lhs;simp only [go_sem])) ?_)|exact Sub.refl _|omega)
 ·subst hq; exact Sub.refl _
 ·subst hq; exact Sub.refl _
theorem does_kidsOf (k : Int) : Does Tryz.prog 195 [] [I k] (I (kidsN k)) []:=by
 refine does0 c_Z194 mixed (Nat.le_of_ble_eq_true rfl) ?_
 conv=>arg 3; whnf
 repeat' (first|with_reducible refine acc_none ?_ | (conv in hold _=>simp (disch:=omega) only [go_sem])|refine Stp.go ?_|(with_reducible first|refine it_pos rfl ?_|refine it_neg (by decide) ?_|refine st_nil rfl ?_|refine s_op ?_ ?_|exact trivial)|((with_reducible first|refine dw_reg0 ?_|refine dw_regB ?_);(conv=>arg 3;whnf))|(refine Spl.go (fun hq he=>?_) (fun hq he=>?_)<;>first|(exfalso;clear hq;omega)|((try first|(conv=>arg 8;simp only [hq])|(conv=>arg 4;simp only [hq]));clear hq))|((with_reducible first|refine c_split (fun hq=>?_) (fun hq=>?_)|refine q_split (fun hq=>?_) (fun hq=>?_))<;>(try first|(conv=>arg 8;simp only [hq])|(conv=>arg 4;simp only [hq])))|(with_reducible refine fin_0 ?_ (by first|rfl|(conv=>lhs;simp only [go_sem])) ?_)|exact Sub.refl _|omega)
 all_goals (refine Sub.of_eq ?_; unfold kidsN; congr 2; omega)
end Go.Proofs.YtefldihjbaodnaaGreat
set_option maxHeartbeats 4000000
set_option maxRecDepth 100000
namespace Go.Proofs.YtefldihjbaodnaaGreat
open Go.ChangeShapes Go.WideShapes Go.ChangeAt Go.RowKit Go.Joins Go.Deep
inductive Most : E → Prop
 | mk {k c : Int} {v : V} {ks : List E} (h : ks.length ≤ big) (hk : ∀ x,x ∈ ks → Most x) : Most (.mk k c v ks)
theorem Most.len {e : E} (h : Most e) : e.ks.length ≤ big:=by cases h; assumption
section
variable {H : Type} {enc : TypeId × Value → H} {W : World} {base b0 : Nat} {held : Bool} {r : Reach} {v : Value} {d : DataW H} {p : List MemPlace}
end
end Go.Proofs.YtefldihjbaodnaaGreat
set_option maxHeartbeats 4000000
set_option maxRecDepth 100000
namespace Go.Proofs.YtefldihjbaodnaaGreat
open Go.RowKit
def cmpV (a b : V) : Int:=if a.b = b.b ∧ a.n = b.n then 0 else if a.b = true ∨ (b.b = false ∧ a.n < b.n) then -1 else 1
theorem cmpV_0 {a b : V} (h : a.b = b.b ∧ a.n = b.n) : cmpV a b = 0:=if_pos h
theorem cmpV_l {a b : V} (h : ¬ (a.b = b.b ∧ a.n = b.n)) (h' : a.b = true ∨ (b.b = false ∧ a.n < b.n)) : cmpV a b = -1:=by unfold cmpV; rw [if_neg h,if_pos h']
theorem cmpV_g {a b : V} (h : ¬ (a.b = b.b ∧ a.n = b.n)) (h' : ¬ (a.b = true ∨ (b.b = false ∧ a.n < b.n))) : cmpV a b = 1:=by unfold cmpV; rw [if_neg h,if_neg h']
theorem compareValues_ok (a b : V) : Does Tryz.prog 185 [] [vD a,vD b] (I (cmpV a b)) []:=by
 by_cases h1 : a.b = b.b ∧ a.n = b.n
 ·have hq : (a.b == b.b && a.n == b.n) = true:=by rw [Bool.and_eq_true,beq_iff_eq,beq_iff_eq]; exact h1
  rw [cmpV_0 h1]
  exact Bg c_Z74 mixed (go0 @hq)
 ·have hq : (a.b == b.b && a.n == b.n) = false:=by rw [Bool.eq_false_iff,ne_eq,Bool.and_eq_true,beq_iff_eq,beq_iff_eq]; exact h1
  cases hab : a.b with
  | true=>
   rw [cmpV_l h1 (Or.inl hab)]
   rw [hab] at hq
   exact Bg c_Z74 mixed (go0 (cj2 @hab @hq))
  | false=>
   cases hbb : b.b with
   | true=>
    rw [cmpV_g h1 (fun h=>by simp [hab,hbb] at h)]
    rw [hab,hbb] at hq
    exact Bg c_Z74 mixed (go0 (cj3 @hab @hbb @hq))
   | false=>
    rw [hab,hbb] at hq
    by_cases hlt : a.n < b.n
    ·rw [cmpV_l h1 (Or.inr ⟨hbb,hlt⟩)]
     exact Bg c_Z74 mixed (go0 (cj3 @hab @hbb @hq))
    ·rw [cmpV_g h1 (fun h=>by simp [hab] at h; exact hlt h.2)]
     refine does0 c_Z74 mixed (Nat.le_of_ble_eq_true rfl) ?_
     conv=>arg 3; whnf
     repeat' (first|with_reducible refine acc_none ?_ | (conv in hold _=>simp (disch:=omega) only [go_sem,hab,hbb,hq])|refine Stp.go ?_|(with_reducible first|refine it_pos rfl ?_|refine it_neg (by decide) ?_|refine st_nil rfl ?_|refine s_op ?_ ?_|exact trivial)|((with_reducible first|refine dw_reg0 ?_|refine dw_regB ?_);(conv=>arg 3;whnf))|(refine Spl.go (fun hq he=>?_) (fun hq he=>?_)<;>first|(exfalso;clear hq;omega)|((try first|(conv=>arg 8;simp only [hq])|(conv=>arg 4;simp only [hq]));clear hq))|((with_reducible first|refine c_split (fun hq=>?_) (fun hq=>?_)|refine q_split (fun hq=>?_) (fun hq=>?_))<;>(try first|(conv=>arg 8;simp only [hq])|(conv=>arg 4;simp only [hq])))|(with_reducible refine fin_0 ?_ (by first|rfl|(conv=>lhs;simp only [go_sem,hab,hbb,hq])) ?_)|exact Sub.refl _|omega)
theorem Value_compare_ok (a b : V) (ha : a.ok) (hb : b.ok) : Does Tryz.prog 125 [] [vD a,vD b] (I (cmpV a b)) []:=by
 have hc:=Compare_ok a.n b.n
 cases hab : a.b with
 | true=>
  have ha0:=ha.nul hab
  cases hbb : b.b with
  | true=>
   have hb0:=hb.nul hbb
   rw [cmpV_0 ⟨by rw [hab,hbb],by omega⟩]
   exact Bg c_Z66 mixed (go0 (cj2 @hab @hbb))
  | false=>
   rw [cmpV_l (fun h=>by simp [hab,hbb] at h) (Or.inl hab)]
   exact Bg c_Z66 mixed (go0 (cj2 @hab @hbb))
 | false=>
  cases hbb : b.b with
  | true=>
   rw [cmpV_g (fun h=>by simp [hab,hbb] at h) (fun h=>by simp [hab,hbb] at h)]
   exact Bg c_Z66 mixed (go0 (cj2 @hab @hbb))
  | false=>
   have he : cmpV a b = if a.n < b.n then -1 else if b.n < a.n then 1 else 0:=by
    by_cases h1 : a.n = b.n
    ·rw [cmpV_0 ⟨by rw [hab,hbb],h1⟩,if_neg (by omega),if_neg (by omega)]
    ·by_cases h2 : a.n < b.n
     ·rw [cmpV_l (fun h=>h1 h.2) (Or.inr ⟨hbb,h2⟩),if_pos h2]
     ·rw [cmpV_g (fun h=>h1 h.2) (fun h=>by simp [hab] at h; exact h2 h.2),if_neg h2,if_pos (by omega)]
   rw [he]
   refine Bg c_Z66 mixed (go1 (cj2 @hab @hbb) ?_)
   exact Uc trivial (hc) (go0 trivial)
def cmpR : List V → List V → Int
 | a :: l,b :: m=>if cmpV a b = 0 then cmpR l m else cmpV a b
 | l,m=>(l.length : Int) - m.length
theorem cmpR_hit : ∀ (l m : List V) (i : Nat) (a b : V),(∀ (j : Nat) (x y : V),j < i → l[j]? = some x → m[j]? = some y → cmpV x y = 0) → l[i]? = some a → m[i]? = some b → ¬ cmpV a b = 0 → cmpR l m = cmpV a b
 | [],_,i,a,b,_,h,_,_=>by simp at h
 | _ :: _,[],i,a,b,_,_,h,_=>by simp at h
 | x :: l,y :: m,i,a,b,hz,h1,h2,h3=>by
  rcases i with _ | i
  ·cases h1; cases h2
   rw [cmpR,if_neg h3]
  ·rw [cmpR,if_pos (hz 0 x y (by omega) rfl rfl)]
   exact cmpR_hit l m i a b (fun j x' y' hj hx hy=>hz (j + 1) x' y' (by omega) (by simpa using hx) (by simpa using hy)) (by simpa using h1) (by simpa using h2) h3
theorem cmpR_end : ∀ (l m : List V),(∀ (j : Nat) (x y : V),l[j]? = some x → m[j]? = some y → cmpV x y = 0) → cmpR l m = (l.length : Int) - m.length
 | [],m,_=>by cases m <;> rfl
 | _ :: _,[],_=>rfl
 | x :: l,y :: m,hz=>by
  rw [cmpR,if_pos (hz 0 x y rfl rfl),cmpR_end l m (fun j x' y' hx hy=>hz (j + 1) x' y' (by simpa using hx) (by simpa using hy)),List.length_cons,List.length_cons]
  omega
end Go.Proofs.YtefldihjbaodnaaGreat
set_option maxHeartbeats 4000000
set_option maxRecDepth 100000
set_option linter.unusedVariables false
set_option linter.unusedSimpArgs false
namespace Go.Proofs.YtefldihjbaodnaaGreat
open Go.RowKit
instance vDec : DecidableEq V:=fun a b=>decidable_of_iff (a.b = b.b ∧ a.n = b.n) ⟨fun h=>by
 cases a
 cases b
 simp only at h
 rw [h.1,h.2],fun h=>by rw [h]; exact ⟨rfl,rfl⟩⟩
theorem equalRows_gen (a b : List V) (hl : a.length = b.length) (hlen : a.length < 1000000) : Does Tryz.prog 81 [] [rowD a,rowD b] (Bo (decide (a = b))) []:=by
 refine Bg c_Z142 mixed (go1 trivial ?_)
 refine dw_for (c:=0) (l:=fun i=>[(0,rowD a),(1,rowD b),(5,I i)]) a.length (fun i=>∀ (j : Nat) (x : V),j < i → a[j]? = some x → b[j]? = some x) 0 (by omega) (Wk.list [] rfl rfl ?_) (fun i hi hJ=>?_) (Nat.zero_le _)
 ·repeat' (first|(conv in hold _=>simp (disch:=omega) only [go_sem])|exact trivial|exact Sub.refl _|omega)
  exact rfl
 ·rcases at_or_end hi with ⟨x,hx,hlt⟩ | rfl
  ·obtain ⟨y,hy⟩ : ∃ y,b[i]? = some y:=⟨_,List.getElem?_eq_getElem (by omega)⟩
   by_cases hxy : x = y
   ·subst hxy
    refine go1 (cj4 @hx @hy @Bool.and_self @Bool.not_true) ?_
    refine ⟨hlt,fun j z hj hz=>?_,Wk.list [] rfl rfl ?_⟩
    ·by_cases e : j = i
     ·subst e
      rw [hx] at hz
      cases hz
      exact hy
     ·exact hJ j z (by omega) hz
    ·repeat' (first|(conv in hold _=>simp (disch:=omega) only [go_sem])|exact trivial|exact Sub.refl _|omega)
   ·have hne : (x.b == y.b && x.n == y.n) = false:=by
     rw [Bool.eq_false_iff,ne_eq,Bool.and_eq_true,beq_iff_eq,beq_iff_eq]
     intro h
     refine hxy ?_
     cases x
     cases y
     simp only at h
     rw [h.1,h.2]
    refine go1 (cj4 @hx @hy @hne @Bool.not_false) ?_
    exact sub_f (fun e=>by
     rw [e,hy] at hx
     exact hxy (by simpa using hx.symm))
  ·refine go1 trivial ?_
   exact sub_t (List.ext_getElem? (fun j=>by
    by_cases hj : j < a.length
    ·have hx:=List.getElem?_eq_getElem hj
     rw [hJ j _ hj hx,hx]
    ·rw [List.getElem?_eq_none (by omega),List.getElem?_eq_none (by omega)]))
end Go.Proofs.YtefldihjbaodnaaGreat
set_option maxHeartbeats 4000000
set_option maxRecDepth 100000
set_option linter.unusedVariables false
set_option linter.unusedSimpArgs false
namespace Go.Proofs.YtefldihjbaodnaaGreat
open Go.RowKit
theorem firstRows_s {f : FuncId} (hf : enters Tryz.prog f = true) {caps : List D} (hcp : D.purL caps = true) (rs : List (List V)) (hl : rs.length ≤ 400) (hY : Yields Tryz.prog f caps (rs.map tupR)) :
  Does Tryz.prog 111 [] [.fn f caps] (rowsD rs) []:=by
 have hren:=fun L=>ren_pure.renL_pure L caps hcp
 have htk : (rs.map rowD).take rs.length = rs.map rowD:=take_all rowD rs
 refine Bg c_Z136 mixed (go1 trivial ?_)
 refine dw_rng f caps (rs.map tupR) 1 2 [(3,.ref 1000000 0),(5,.fn f caps)] (fun i=>[(1000000,.obj [.own 1000001 1 i]),(1000001,.row 1 ((rs.take i).map rowD))]) hY hf hcp (Nat.zero_le _) (by decide) (by decide) ?_ (fun i=>namesOK_of rfl) ((wk_rowO 2000003 3000000 1 0 (by decide) (by decide) (by decide) rfl rfl rfl).trans (Wk.list [2000003,3000000] rfl rfl ?_)) rfl (fun i es h=>by obtain ⟨_,_,rfl⟩:=tupR_at h; rfl) (fun i es h hp=>?_) ?_
 ·simp (disch:=omega) only [go_sem,hren,and_self,Nat.reduceLT]
 ·repeat' (first|(conv in hold _=>simp (disch:=omega) only [go_sem,hren])|exact trivial|exact Sub.refl _|omega)
 ·obtain ⟨r,hr,rfl⟩:=tupR_at h
  have hlt:=(List.getElem?_eq_some_iff.1 hr).1
  have hmk : ((rs.take i).map rowD).take i = (rs.take i).map rowD:=take_map rowD (by omega)
  have hnx:=take_next hr
  have htl:=take_len (vs:=rs) (i:=i) (by omega)
  refine go1 @htl ?_
  refine Wk.list [1000000,2000010] rfl rfl ?_
  repeat' (first|(conv in hold _=>simp (disch:=omega) only [go_sem,List.length_map,htl])|exact trivial|exact Sub.refl _|omega)
  rw [hmk,hnx,List.map_append]
  rfl
 ·have e1 : rs.take rs.length = rs:=List.take_length
  refine go1F @e1 ?_
  refine fin_wk (wk_frz 2 1000001 (by decide) (by decide) rfl ?_) ?_
  rotate_left
  (conv in hold _=>simp (disch:=omega) only [go_sem,e1,htk,List.length_map,Nat.le_refl])
  ·refine fin_L [] ?_ ?_ rfl ?_
   repeat' (first|(conv in hold _=>simp (disch:=omega) only [go_sem,e1,htk,List.length_map])|exact trivial|exact Sub.refl _|omega)
  ·exact rows_pur rs
theorem firstRows_n {f : FuncId} (hf : enters Tryz.prog f = true) {caps : List D} (hcp : D.purL caps = true) (rs : List (List V)) (hl : 400 < rs.length) (hl2 : rs.length ≤ 1000000) (hY : Yields Tryz.prog f caps (rs.map tupR)) :
  Does Tryz.prog 111 [] [.fn f caps] (rowsD (rs.take 401)) []:=by
 have hren:=fun L=>ren_pure.renL_pure L caps hcp
 have hl4 : (rs.take 401).length = 401:=take_len (by omega)
 have htk : ((rs.take 401).map rowD).take 401 = (rs.take 401).map rowD:=take_map rowD (by omega)
 refine Bg c_Z136 mixed (go1 trivial ?_)
 refine dw_rngX f caps (rs.map tupR) 400 1 2 [(3,.ref 1000000 0),(5,.fn f caps)] (fun i=>[(1000000,.obj [.own 1000001 1 i]),(1000001,.row 1 ((rs.take i).map rowD))]) hY hf hcp (Nat.zero_le _) (by decide) (by decide) ?_ (fun i=>namesOK_of rfl) ((wk_rowO 2000003 3000000 1 0 (by decide) (by decide) (by decide) rfl rfl rfl).trans (Wk.list [2000003,3000000] rfl rfl ?_)) rfl (fun i es h=>by obtain ⟨_,_,rfl⟩:=tupR_at h; rfl) (by rw [List.length_map]; exact hl) (fun i es hi h hp=>?_) (fun es h hp=>?_)
 ·simp (disch:=omega) only [go_sem,hren,and_self,Nat.reduceLT]
 ·repeat' (first|(conv in hold _=>simp (disch:=omega) only [go_sem,hren])|exact trivial|exact Sub.refl _|omega)
 ·obtain ⟨r,hr,rfl⟩:=tupR_at h
  have hlt:=(List.getElem?_eq_some_iff.1 hr).1
  have hmk : ((rs.take i).map rowD).take i = (rs.take i).map rowD:=take_map rowD (by omega)
  have hnx:=take_next hr
  have htl:=take_len (vs:=rs) (i:=i) (by omega)
  refine go1 @htl ?_
  refine Wk.list [1000000,2000010] rfl rfl ?_
  repeat' (first|(conv in hold _=>simp (disch:=omega) only [go_sem,List.length_map,htl])|exact trivial|exact Sub.refl _|omega)
  rw [hmk,hnx,List.map_append]
  rfl
 ·obtain ⟨r,hr,rfl⟩:=tupR_at h
  have hmk : ((rs.take 400).map rowD).take 400 = (rs.take 400).map rowD:=take_map rowD (by omega)
  have hnx : rs.take 401 = rs.take 400 ++ [r]:=take_next hr
  have htl : (rs.take 400).length = 400:=take_len (by omega)
  refine go1 @htl ?_
  refine ⟨[(1000000,.obj [.own 1000001 1 401]),(1000001,.row 1 ((rs.take 401).map rowD))],namesOK_of rfl,Wk.list [1000000,2000010] rfl rfl ?_,?_⟩
  ·repeat' (first|(conv in hold _=>simp (disch:=omega) only [go_sem,List.length_map,htl])|exact trivial|exact Sub.refl _|omega)
   rw [hmk,hnx,List.map_append]
   rfl
  ·refine go1F @hl4 ?_
   refine fin_wk (wk_frz 2 1000001 (by decide) (by decide) rfl ?_) ?_
   rotate_left
   (conv in hold _=>simp (disch:=omega) only [go_sem,htk,hl4,List.length_map,Nat.le_refl])
   ·refine fin_L [] ?_ ?_ rfl ?_
    repeat' (first|(conv in hold _=>simp (disch:=omega) only [go_sem,htk,hl4,List.length_map])|exact trivial|exact Sub.refl _|omega)
   ·exact rows_pur _
theorem rowsOrNone_s (rs : List (List V)) (hl : rs.length ≤ 400) : Does Tryz.prog 110 [] [rowsD rs] (rowsD rs) []:=by
 have h : ¬ (400 : Int) < rs.length:=by omega
 exact Bg c_Z121 mixed (go0 trivial)
theorem rowsOrNone_n (rs : List (List V)) (hl : 400 < rs.length) : Does Tryz.prog 110 [] [rowsD rs] (rowsD []) []:=by
 have h : (400 : Int) < rs.length:=by omega
 refine Bg c_Z121 mixed (go1 trivial ?_)
 exact Sub.nul 1
def colL (rs : List (List V)) : List (List V):=if rs.length ≤ 400 then rs else []
theorem collectRows_ok {f : FuncId} (hf : enters Tryz.prog f = true) {caps : List D} (hcp : D.purL caps = true) (rs : List (List V)) (hl : rs.length ≤ 1000000) (hY : Yields Tryz.prog f caps (rs.map tupR)) :
  Does Tryz.prog 66 [] [.fn f caps] (rowsD (colL rs)) []:=by
 have hren:=fun L=>ren_pure.renL_pure L caps hcp
 unfold colL
 by_cases h : rs.length ≤ 400
 ·rw [if_pos h]
  have h1:=firstRows_s hf hcp rs h hY
  have h2:=rowsOrNone_s rs h
  refine Bg c_Z95 mixed (go1 (cj2 @hcp @hren) ?_)
  refine Uc (cj2 @hcp @hren) (h1) (go1 (cj2 @hcp @hren) ?_)
  exact Uc trivial (h2) (go0 trivial)
 ·rw [if_neg h]
  have h1:=firstRows_n hf hcp rs (by omega) hl hY
  have h2:=rowsOrNone_n (rs.take 401) (by rw [take_len (by omega)]; omega)
  refine Bg c_Z95 mixed (go1 (cj2 @hcp @hren) ?_)
  refine Uc (cj2 @hcp @hren) (h1) (go1 (cj2 @hcp @hren) ?_)
  exact Uc trivial (h2) (go0 trivial)
end Go.Proofs.YtefldihjbaodnaaGreat
set_option maxHeartbeats 4000000
set_option maxRecDepth 100000
namespace Go.Proofs.YtefldihjbaodnaaGreat
open Go.RowKit
theorem randomValue_ok {bs : List Nat} (hs : Src bs) (p : Nat) (hp : p < 900000000) : ∃ (v : V) (q : Nat),(Does Tryz.prog 194 [rdD bs p] [.ref 1000000 0] (vD v) [rdD bs q] ∧ v.ok) ∧ p ≤ q ∧ q ≤ p + 2:=by
 obtain ⟨k,hk,k0,k1,_⟩:=pick_ok hs p (by omega) 5 (by omega)
 by_cases h : k = 0
 ·refine ⟨⟨true,0⟩,p + 1,⟨?_,okV (by omega) (by omega) fun _=>rfl⟩,by omega,by omega⟩
  refine Bk c_Z113 mixed 1 (go1 trivial ?_)
  refine UcR [1000000] trivial (hk) (go1 trivial ?_)
  refine fin_L [1000000] ?_ ?_ rfl ?_
  repeat' (first|(conv in hold _=>simp (disch:=omega) only [go_sem])|exact trivial|exact Sub.refl _|omega)
 ·obtain ⟨n,hn,hm⟩:=one_ok hs (p + 1) (by omega) [0,1,2,3,-1] (by decide) (by decide)
  have hr : -1 ≤ n ∧ n ≤ 3:=by simp at hm; omega
  refine ⟨⟨false,n⟩,p + 2,⟨?_,okV (by omega) (by omega) fun e=>by cases e⟩,by omega,by omega⟩
  refine Bk c_Z113 mixed 1 (go1 trivial ?_)
  refine UcR [1000000] trivial (hk) (go1 trivial ?_)
  refine UcR [1000000] trivial (hn) (go1 trivial ?_)
  refine fin_L [1000000] ?_ ?_ rfl ?_
  repeat' (first|(conv in hold _=>simp (disch:=omega) only [go_sem])|exact trivial|exact Sub.refl _|omega)
structure V.near (v : V) : Prop where
 lo : -10000 ≤ v.n
 hi : v.n ≤ 10000
theorem anyValue_ok {bs : List Nat} (hs : Src bs) (p : Nat) (hp : p < 800000000) : ∃ (v : V) (q : Nat),(Does Tryz.prog 149 [rdD bs p] [.ref 1000000 0] (vD v) [rdD bs q] ∧ v.near) ∧ p ≤ q ∧ q ≤ p + 4:=by
 obtain ⟨v,q,⟨hv,hvo⟩,hq0,hq1⟩:=randomValue_ok hs p (by omega)
 obtain ⟨k,hk,k0,k1,_⟩:=pick_ok hs q (by omega) 14 (by omega)
 by_cases h : k = 0
 ·refine ⟨⟨true,1⟩,q + 1,⟨?_,⟨by decide,by decide⟩⟩,by omega,by omega⟩
  refine Bk c_Z167 mixed 1 (go1 trivial ?_)
  refine UcR [1000000] trivial (hv) (go1 trivial ?_)
  refine UcR [1000000] trivial (hk) (go1 trivial ?_)
  refine fin_L [1000000] ?_ ?_ rfl ?_
  repeat' (first|(conv in hold _=>simp (disch:=omega) only [go_sem])|exact trivial|exact Sub.refl _|omega)
 ·by_cases h1 : k = 1
  ·obtain ⟨n,hn,hm⟩:=one_ok hs (q + 1) (by omega) [10000,-10000,9999,-9999] (by decide) (by decide)
   have hr : -10000 ≤ n ∧ n ≤ 10000:=by simp at hm; omega
   refine ⟨⟨false,n⟩,q + 2,⟨?_,⟨hr.1,hr.2⟩⟩,by omega,by omega⟩
   refine Bk c_Z167 mixed 1 (go1 trivial ?_)
   refine UcR [1000000] trivial (hv) (go1 trivial ?_)
   refine UcR [1000000] trivial (hk) (go1 trivial ?_)
   refine UcR [1000000] trivial (hn) (go1 trivial ?_)
   refine fin_L [1000000] ?_ ?_ rfl ?_
   repeat' (first|(conv in hold _=>simp (disch:=omega) only [go_sem])|exact trivial|exact Sub.refl _|omega)
  ·have:=hvo.lo
   have:=hvo.hi
   refine ⟨v,q + 1,⟨?_,⟨by omega,by omega⟩⟩,by omega,by omega⟩
   refine Bk c_Z167 mixed 1 (go1 trivial ?_)
   refine UcR [1000000] trivial (hv) (go1 trivial ?_)
   refine UcR [1000000] trivial (hk) (go1 trivial ?_)
   refine fin_L [1000000] ?_ ?_ rfl ?_
   repeat' (first|(conv in hold _=>simp (disch:=omega) only [go_sem])|exact trivial|exact Sub.refl _|omega)
theorem randomRow_ok {bs : List Nat} (hs : Src bs) (n : Nat) (hn : n < 1000) (p : Nat) (hp : p < 800000000) : ∃ (vs : List V) (q : Nat),
  (Does Tryz.prog 150 [rdD bs p] [.ref 1000000 0,I n] (.own 1000001 2 vs.length) [rdD bs q,.row 2 (vs.map vD)] ∧ vs.length = n ∧ ∀ v,v ∈ vs → v.ok) ∧ p ≤ q ∧ q ≤ p + n * 2:=by
 obtain ⟨vs,ps,hl,h0,hd,hp0,hp1⟩:=draws (fun p v q=>Does Tryz.prog 194 [rdD bs p] [.ref 1000000 0] (vD v) [rdD bs q] ∧ v.ok) 900000000 2 (fun p hp=>randomValue_ok hs p hp) n p (by omega)
 refine ⟨vs,ps n,⟨?_,hl,fun v hv=>?_⟩,hp0,hp1⟩
 ·rw [hl]
  refine Bk c_Z149 mixed 1 (go1 trivial ?_)
  refine dw_for (c:=2) (l:=fun i=>[(0,.ref 1000000 0),(1,I n),(5,.own 1000001 2 i),(6,I i),(1000000,rdD bs (ps i)),(1000001,.row 2 ((vs.take i).map vD))]) n (fun _=>True) 0 trivial ((wk_row 5 2000005 2 (by decide) (by decide) rfl rfl).trans (Wk.list [1000000,2000005] rfl rfl ?_)) (fun i hi _=>?_) (Nat.zero_le n)
  ·rw [h0]
   repeat' (first|(conv in hold _=>simp (disch:=omega) only [go_sem])|exact trivial|exact Sub.refl _|omega)
   exact rfl
  ·have hlt:=take_len (vs:=vs) (i:=i) (by omega)
   have hmt:=take_map vD (vs:=vs) (i:=i) (by omega)
   skip
   repeat' (first|with_reducible refine acc_none ?_ | (conv in hold _=>simp (disch:=omega) only [go_sem])|refine Stp.go ?_|(with_reducible first|refine it_pos rfl ?_|refine it_neg (by decide) ?_|refine st_nil rfl ?_|refine s_op ?_ ?_|exact trivial)|((with_reducible first|refine dw_reg0 ?_|refine dw_regB ?_);(conv=>arg 3;whnf))|(refine Spl.go (fun hq he=>?_) (fun hq he=>?_)<;>first|(exfalso;clear hq;omega)|((try first|(conv=>arg 8;simp only [hq])|(conv=>arg 4;simp only [hq]));clear hq))|((with_reducible first|refine c_split (fun hq=>?_) (fun hq=>?_)|refine q_split (fun hq=>?_) (fun hq=>?_))<;>(try first|(conv=>arg 8;simp only [hq])|(conv=>arg 4;simp only [hq])))|(with_reducible refine fin_0 ?_ (by first|rfl|(conv=>lhs;simp only [go_sem])) ?_)|exact Sub.refl _|omega)
   ·obtain ⟨v,hv⟩ : ∃ v,vs[i]? = some v:=⟨vs[i],List.getElem?_eq_getElem (by omega)⟩
    have hnx:=take_next hv
    refine c_doesR [1000000] ((hd i v hv).1) (callOK_of rfl (Nat.le_of_ble_eq_true rfl) rfl ?_ ?_) ?_ ?_
    ·repeat' (first|(conv in hold _=>simp (disch:=omega) only [go_sem])|exact trivial|exact Sub.refl _|omega)
    ·repeat' (first|(conv in hold _=>simp (disch:=omega) only [go_sem])|exact trivial|exact Sub.refl _|omega)
    ·((conv=>rhs;simp (disch:=omega) only [go_sem]); try rfl)
    repeat' (first|with_reducible refine acc_none ?_ | (conv in hold _=>simp (disch:=omega) only [go_sem])|refine Stp.go ?_|(with_reducible first|refine it_pos rfl ?_|refine it_neg (by decide) ?_|refine st_nil rfl ?_|refine s_op ?_ ?_|exact trivial)|((with_reducible first|refine dw_reg0 ?_|refine dw_regB ?_);(conv=>arg 3;whnf))|(refine Spl.go (fun hq he=>?_) (fun hq he=>?_)<;>first|(exfalso;clear hq;omega)|((try first|(conv=>arg 8;simp only [hq])|(conv=>arg 4;simp only [hq]));clear hq))|((with_reducible first|refine c_split (fun hq=>?_) (fun hq=>?_)|refine q_split (fun hq=>?_) (fun hq=>?_))<;>(try first|(conv=>arg 8;simp only [hq])|(conv=>arg 4;simp only [hq])))|(with_reducible refine fin_0 ?_ (by first|rfl|(conv=>lhs;simp only [go_sem])) ?_)|exact Sub.refl _|omega)
    ·refine ⟨by omega,trivial,Wk.list [1000000,2000017] rfl rfl ?_⟩
     repeat' (first|(conv in hold _=>simp (disch:=omega) only [go_sem])|exact trivial|exact Sub.refl _|omega)
     rw [hmt,hnx,List.map_append]
     rfl
   ·obtain rfl : i = n:=by omega
    refine fin_L [1000000,1000001] ?_ ?_ rfl ?_
    repeat' (first|(conv in hold _=>simp (disch:=omega) only [go_sem])|exact trivial|exact Sub.refl _|omega)
    rw [List.take_of_length_le (by omega)]
 ·obtain ⟨i,hi⟩:=List.mem_iff_getElem?.1 hv
  exact (hd i v hi).2
theorem anyRow_ok {bs : List Nat} (hs : Src bs) (n : Nat) (h0 : 0 < n) (hn : n < 1000) (p : Nat) (hp : p < 700000000) : ∃ (vs : List V) (q : Nat),
  (Does Tryz.prog 103 [rdD bs p] [.ref 1000000 0,I n] (rowD vs) [rdD bs q] ∧ vs.length ≤ 7 + n ∧ ∀ v,v ∈ vs → v.near) ∧ p ≤ q ∧ q ≤ p + 19 + n * 2:=by
 obtain ⟨vs,q,⟨hv,hvl,hvo⟩,hq0,hq1⟩:=randomRow_ok hs n hn p (by omega)
 obtain ⟨k,hk,k0,k1,_⟩:=pick_ok hs q (by omega) 18 (by omega)
 have near : ∀ {v : V},v.ok → v.near:=fun h=>⟨by have:=h.lo; omega,by have:=h.hi; omega⟩
 by_cases h : k = 0
 ·refine ⟨[],q + 1,⟨?_,by simp,fun v hv=>by cases hv⟩,by omega,by omega⟩
  refine Bk c_Z192 mixed 1 (go1 trivial ?_)
  refine UcR [1000000,3000001] trivial (hv) (go1 trivial ?_)
  refine UcR [1000000] trivial (hk) (go1 trivial ?_)
  refine fin_L [1000000] ?_ ?_ rfl ?_
  repeat' (first|(conv in hold _=>simp (disch:=omega) only [go_sem])|exact trivial|exact Sub.refl _|omega)
  exact Sub.nul 2
 ·by_cases h1 : k = 1
  ·obtain ⟨us,q',⟨hu,hul,huo⟩,hq0',hq1'⟩:=randomRow_ok hs 7 (by omega) (q + 1) (by omega)
   refine ⟨us,q',⟨?_,by omega,fun v hv=>near (huo v hv)⟩,by omega,by omega⟩
   refine Bk c_Z192 mixed 1 (go1 trivial ?_)
   refine UcR [1000000,3000001] trivial (hv) (go1 trivial ?_)
   refine UcR [1000000] trivial (hk) (go1 trivial ?_)
   refine UcR [1000000,3000002] trivial (hu) (go1 trivial ?_)
   refine fin_wk (wk_frz 4 3000002 (by decide) (by decide) rfl ?_) ?_
   rotate_left
   (conv in hold _=>simp (disch:=omega) only [go_sem])
   ·refine fin_L [1000000] ?_ ?_ rfl ?_
    repeat' (first|(conv in hold _=>simp (disch:=omega) only [go_sem])|exact trivial|exact Sub.refl _|omega)
   ·exact vals_pur _
  ·by_cases h2 : k = 2
   ·obtain ⟨j,hj,j0,j1,_⟩:=pick_ok hs (q + 1) (by omega) vs.length (by omega)
    obtain ⟨v,q',⟨ha,hao⟩,hq0',hq1'⟩:=anyValue_ok hs (q + 2) (by omega)
    refine ⟨vs.set j.toNat v,q',⟨?_,by rw [List.length_set]; omega,fun u hu=>?_⟩,by omega,by omega⟩
    ·refine Bk c_Z192 mixed 1 (go1 trivial ?_)
     refine UcR [1000000,3000001] trivial (hv) (go1 trivial ?_)
     refine UcR [1000000] trivial (hk) (go1 trivial ?_)
     refine UcR [1000000] trivial (hj) (go1 trivial ?_)
     obtain ⟨u,hju⟩ : ∃ u,vs[j.toNat]? = some u:=⟨vs[j.toNat],List.getElem?_eq_getElem (by omega)⟩
     refine UcR [1000000] @hju (ha) (go1 @hju ?_)
     refine fin_wk (wk_frz 4 3000001 (by decide) (by decide) rfl ?_) ?_
     rotate_left
     (conv in hold _=>simp (disch:=omega) only [go_sem,List.getElem?_map,hju,Option.map_some])
     ·refine fin_L [1000000] ?_ ?_ rfl ?_
      repeat' (first|(conv in hold _=>simp (disch:=omega) only [go_sem])|exact trivial|exact Sub.refl _|omega)
      rw [List.map_set]
      exact Sub.refl _
     ·show D.purL ((vs.map vD).set j.toNat (vD v)) = true
      rw [← List.map_set]
      exact vals_pur _
    ·rcases List.mem_or_eq_of_mem_set hu with hu | rfl
     ·exact near (hvo u hu)
     ·exact hao
   ·refine ⟨vs,q + 1,⟨?_,by omega,fun v hv=>near (hvo v hv)⟩,by omega,by omega⟩
    refine Bk c_Z192 mixed 1 (go1 trivial ?_)
    refine UcR [1000000,3000001] trivial (hv) (go1 trivial ?_)
    refine UcR [1000000] trivial (hk) (go1 trivial ?_)
    refine fin_wk (wk_frz 4 3000001 (by decide) (by decide) rfl ?_) ?_
    rotate_left
    (conv in hold _=>simp (disch:=omega) only [go_sem])
    ·refine fin_L [1000000] ?_ ?_ rfl ?_
     repeat' (first|(conv in hold _=>simp (disch:=omega) only [go_sem])|exact trivial|exact Sub.refl _|omega)
    ·exact vals_pur _
end Go.Proofs.YtefldihjbaodnaaGreat
