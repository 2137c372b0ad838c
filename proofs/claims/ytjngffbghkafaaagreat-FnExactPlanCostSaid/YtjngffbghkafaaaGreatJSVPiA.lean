/-
  How values and rows compare, in both packages. No condition.
-/
import Derived.Test.YtjngffbghkafaaaGreatKSDca
import Derived.Test.YtjngffbghkafaaaGreatKSDcb
import Derived.Test.YtjngffbghkafaaaGreatKSVVa
import Derived.Test.YtjngffbghkafaaaGreatJSVTbD
import Derived.Test.YtjngffbghkafaaaGreatJSVGo
import Derived.Test.YtjngffbghkafaaaGreatRows
import Derived.Test.YtjngffbghkafaaaGreatKSDcc
import Derived.Test.YtjngffbghkafaaaGreatJSVSzW
set_option maxHeartbeats 4000000
set_option maxRecDepth 100000
namespace Go.Proofs.YtjngffbghkafaaaGreat
open Go.RowKit
def cmpV (a b : V) : Int:=if a.b = b.b ∧ a.n = b.n then 0 else if a.b = true ∨ (b.b = false ∧ a.n < b.n) then -1 else 1
theorem cmpV_0 {a b : V} (h : a.b = b.b ∧ a.n = b.n) : cmpV a b = 0:=if_pos h
theorem cmpV_l {a b : V} (h : ¬ (a.b = b.b ∧ a.n = b.n)) (h' : a.b = true ∨ (b.b = false ∧ a.n < b.n)) : cmpV a b = -1:=by unfold cmpV; rw [if_neg h,if_pos h']
theorem cmpV_g {a b : V} (h : ¬ (a.b = b.b ∧ a.n = b.n)) (h' : ¬ (a.b = true ∨ (b.b = false ∧ a.n < b.n))) : cmpV a b = 1:=by unfold cmpV; rw [if_neg h,if_neg h']
theorem compareValues_ok (a b : V) : Does Tryz.prog 170 [] [vD a,vD b] (I (cmpV a b)) []:=by
 by_cases h1 : a.b = b.b ∧ a.n = b.n
 ·have hq : (a.b == b.b && a.n == b.n) = true:=by rw [Bool.and_eq_true,beq_iff_eq,beq_iff_eq]; exact h1
  rw [cmpV_0 h1]
  exact Bg c_Z51 mixed (go0 @hq)
 ·have hq : (a.b == b.b && a.n == b.n) = false:=by rw [Bool.eq_false_iff,ne_eq,Bool.and_eq_true,beq_iff_eq,beq_iff_eq]; exact h1
  cases hab : a.b with
  | true=>
   rw [cmpV_l h1 (Or.inl hab)]
   rw [hab] at hq
   exact Bg c_Z51 mixed (go0 (cj2 @hab @hq))
  | false=>
   cases hbb : b.b with
   | true=>
    rw [cmpV_g h1 (fun h=>by simp [hab,hbb] at h)]
    rw [hab,hbb] at hq
    exact Bg c_Z51 mixed (go0 (cj3 @hab @hbb @hq))
   | false=>
    rw [hab,hbb] at hq
    by_cases hlt : a.n < b.n
    ·rw [cmpV_l h1 (Or.inr ⟨hbb,hlt⟩)]
     exact Bg c_Z51 mixed (go0 (cj3 @hab @hbb @hq))
    ·rw [cmpV_g h1 (fun h=>by simp [hab] at h; exact hlt h.2)]
     refine does0 c_Z51 mixed (Nat.le_of_ble_eq_true rfl) ?_
     conv=>arg 3; whnf
     repeat' (first|with_reducible refine acc_none ?_ | (conv in hold _=>simp (disch:=omega) only [go_sem,hab,hbb,hq])|refine Stp.go ?_|(with_reducible first|refine it_pos rfl ?_|refine it_neg (by decide) ?_|refine st_nil rfl ?_|refine s_op ?_ ?_|exact trivial)|((with_reducible first|refine dw_reg0 ?_|refine dw_regB ?_);(conv=>arg 3;whnf))|(refine Spl.go (fun hq he=>?_) (fun hq he=>?_)<;>first|(exfalso;clear hq;omega)|((try first|(conv=>arg 8;simp only [hq])|(conv=>arg 4;simp only [hq]));clear hq))|((with_reducible first|refine c_split (fun hq=>?_) (fun hq=>?_)|refine q_split (fun hq=>?_) (fun hq=>?_))<;>(try first|(conv=>arg 8;simp only [hq])|(conv=>arg 4;simp only [hq])))|(with_reducible refine fin_0 ?_ (by first|rfl|(conv=>lhs;simp only [go_sem,hab,hbb,hq])) ?_)|exact Sub.refl _|omega)
theorem Value_compare_ok (a b : V) (ha : a.ok) (hb : b.ok) : Does Tryz.prog 159 [] [vD a,vD b] (I (cmpV a b)) []:=by
 have hc:=Compare_ok a.n b.n
 cases hab : a.b with
 | true=>
  have ha0:=ha.nul hab
  cases hbb : b.b with
  | true=>
   have hb0:=hb.nul hbb
   rw [cmpV_0 ⟨by rw [hab,hbb],by omega⟩]
   exact Bg c_Z44 mixed (go0 (cj2 @hab @hbb))
  | false=>
   rw [cmpV_l (fun h=>by simp [hab,hbb] at h) (Or.inl hab)]
   exact Bg c_Z44 mixed (go0 (cj2 @hab @hbb))
 | false=>
  cases hbb : b.b with
  | true=>
   rw [cmpV_g (fun h=>by simp [hab,hbb] at h) (fun h=>by simp [hab,hbb] at h)]
   exact Bg c_Z44 mixed (go0 (cj2 @hab @hbb))
  | false=>
   have he : cmpV a b = if a.n < b.n then -1 else if b.n < a.n then 1 else 0:=by
    by_cases h1 : a.n = b.n
    ·rw [cmpV_0 ⟨by rw [hab,hbb],h1⟩,if_neg (by omega),if_neg (by omega)]
    ·by_cases h2 : a.n < b.n
     ·rw [cmpV_l (fun h=>h1 h.2) (Or.inr ⟨hbb,h2⟩),if_pos h2]
     ·rw [cmpV_g (fun h=>h1 h.2) (fun h=>by simp [hab] at h; exact h2 h.2),if_neg h2,if_pos (by omega)]
   rw [he]
   refine Bg c_Z44 mixed (go1 (cj2 @hab @hbb) ?_)
   exact Uc trivial (hc) (go0 trivial)
def cmpR : List V → List V → Int
 | a :: l,b :: m=>if cmpV a b = 0 then cmpR l m else cmpV a b
 | l,m=>(l.length : Int) - m.length
theorem cmpR_hit : ∀ (l m : List V) (i : Nat) (a b : V),(∀ (j : Nat) (x y : V),j < i → l[j]? = some x → m[j]? = some y → cmpV x y = 0) → l[i]? = some a → m[i]? = some b → ¬ cmpV a b = 0 → cmpR l m = cmpV a b
 | [],_,i,a,b,_,h,_,_=>by simp at h
 | _ :: _,[],i,a,b,_,_,h,_=>by simp at h
 | x :: l,y :: m,i,a,b,hz,h1,h2,h3=>by
  rcases i with _ | i
  ·cases h1; cases h2
   rw [cmpR,if_neg h3]
  ·rw [cmpR,if_pos (hz 0 x y (by omega) rfl rfl)]
   exact cmpR_hit l m i a b (fun j x' y' hj hx hy=>hz (j + 1) x' y' (by omega) (by simpa using hx) (by simpa using hy)) (by simpa using h1) (by simpa using h2) h3
theorem cmpR_end : ∀ (l m : List V),(∀ (j : Nat) (x y : V),l[j]? = some x → m[j]? = some y → cmpV x y = 0) → cmpR l m = (l.length : Int) - m.length
 | [],m,_=>by cases m <;> rfl
 | _ :: _,[],_=>rfl
 | x :: l,y :: m,hz=>by
  rw [cmpR,if_pos (hz 0 x y rfl rfl),cmpR_end l m (fun j x' y' hx hy=>hz (j + 1) x' y' (by simpa using hx) (by simpa using hy)),List.length_cons,List.length_cons]
  omega
end Go.Proofs.YtjngffbghkafaaaGreat
set_option maxHeartbeats 4000000
set_option maxRecDepth 100000
set_option linter.unusedVariables false
set_option linter.unusedSimpArgs false
namespace Go.Proofs.YtjngffbghkafaaaGreat
open Go.RowKit
instance vDec : DecidableEq V:=fun a b=>decidable_of_iff (a.b = b.b ∧ a.n = b.n) ⟨fun h=>by
 cases a
 cases b
 simp only at h
 rw [h.1,h.2],fun h=>by rw [h]; exact ⟨rfl,rfl⟩⟩
end Go.Proofs.YtjngffbghkafaaaGreat
set_option maxHeartbeats 4000000
set_option maxRecDepth 100000
set_option linter.unusedVariables false
set_option linter.unusedSimpArgs false
namespace Go.Proofs.YtjngffbghkafaaaGreat
open Go.RowKit
theorem firstRows_s {f : FuncId} (hf : enters Tryz.prog f = true) {caps : List D} (hcp : D.purL caps = true) (rs : List (List V)) (hl : rs.length ≤ 400) (hY : Yields Tryz.prog f caps (rs.map tupR)) :
  Does Tryz.prog 145 [] [.fn f caps] (rowsD rs) []:=by
 have hren:=fun L=>ren_pure.renL_pure L caps hcp
 have htk : (rs.map rowD).take rs.length = rs.map rowD:=take_all rowD rs
 refine Bg c_Z97 mixed (go1 trivial ?_)
 refine dw_rng f caps (rs.map tupR) 1 2 [(3,.ref 1000000 0),(5,.fn f caps)] (fun i=>[(1000000,.obj [.own 1000001 1 i]),(1000001,.row 1 ((rs.take i).map rowD))]) hY hf hcp (Nat.zero_le _) (by decide) (by decide) ?_ (fun i=>namesOK_of rfl) ((wk_rowO 2000003 3000000 1 0 (by decide) (by decide) (by decide) rfl rfl rfl).trans (Wk.list [2000003,3000000] rfl rfl ?_)) rfl (fun i es h=>by obtain ⟨_,_,rfl⟩:=tupR_at h; rfl) (fun i es h hp=>?_) ?_
 ·simp (disch:=omega) only [go_sem,hren,and_self,Nat.reduceLT]
 ·repeat' (first|(conv in hold _=>simp (disch:=omega) only [go_sem,hren])|exact trivial|exact Sub.refl _|omega)
 ·obtain ⟨r,hr,rfl⟩:=tupR_at h
  have hlt:=(List.getElem?_eq_some_iff.1 hr).1
  have hmk : ((rs.take i).map rowD).take i = (rs.take i).map rowD:=take_map rowD (by omega)
  have hnx:=take_next hr
  have htl:=take_len (vs:=rs) (i:=i) (by omega)
  refine go1 @htl ?_
  refine Wk.list [1000000,2000010] rfl rfl ?_
  repeat' (first|(conv in hold _=>simp (disch:=omega) only [go_sem,List.length_map,htl])|exact trivial|exact Sub.refl _|omega)
  rw [hmk,hnx,List.map_append]
  rfl
 ·have e1 : rs.take rs.length = rs:=List.take_length
  refine go1F @e1 ?_
  refine fin_wk (wk_frz 2 1000001 (by decide) (by decide) rfl ?_) ?_
  rotate_left
  (conv in hold _=>simp (disch:=omega) only [go_sem,e1,htk,List.length_map,Nat.le_refl])
  ·refine fin_L [] ?_ ?_ rfl ?_
   repeat' (first|(conv in hold _=>simp (disch:=omega) only [go_sem,e1,htk,List.length_map])|exact trivial|exact Sub.refl _|omega)
  ·exact rows_pur rs
theorem firstRows_n {f : FuncId} (hf : enters Tryz.prog f = true) {caps : List D} (hcp : D.purL caps = true) (rs : List (List V)) (hl : 400 < rs.length) (hl2 : rs.length ≤ 1000000) (hY : Yields Tryz.prog f caps (rs.map tupR)) :
  Does Tryz.prog 145 [] [.fn f caps] (rowsD (rs.take 401)) []:=by
 have hren:=fun L=>ren_pure.renL_pure L caps hcp
 have hl4 : (rs.take 401).length = 401:=take_len (by omega)
 have htk : ((rs.take 401).map rowD).take 401 = (rs.take 401).map rowD:=take_map rowD (by omega)
 refine Bg c_Z97 mixed (go1 trivial ?_)
 refine dw_rngX f caps (rs.map tupR) 400 1 2 [(3,.ref 1000000 0),(5,.fn f caps)] (fun i=>[(1000000,.obj [.own 1000001 1 i]),(1000001,.row 1 ((rs.take i).map rowD))]) hY hf hcp (Nat.zero_le _) (by decide) (by decide) ?_ (fun i=>namesOK_of rfl) ((wk_rowO 2000003 3000000 1 0 (by decide) (by decide) (by decide) rfl rfl rfl).trans (Wk.list [2000003,3000000] rfl rfl ?_)) rfl (fun i es h=>by obtain ⟨_,_,rfl⟩:=tupR_at h; rfl) (by rw [List.length_map]; exact hl) (fun i es hi h hp=>?_) (fun es h hp=>?_)
 ·simp (disch:=omega) only [go_sem,hren,and_self,Nat.reduceLT]
 ·repeat' (first|(conv in hold _=>simp (disch:=omega) only [go_sem,hren])|exact trivial|exact Sub.refl _|omega)
 ·obtain ⟨r,hr,rfl⟩:=tupR_at h
  have hlt:=(List.getElem?_eq_some_iff.1 hr).1
  have hmk : ((rs.take i).map rowD).take i = (rs.take i).map rowD:=take_map rowD (by omega)
  have hnx:=take_next hr
  have htl:=take_len (vs:=rs) (i:=i) (by omega)
  refine go1 @htl ?_
  refine Wk.list [1000000,2000010] rfl rfl ?_
  repeat' (first|(conv in hold _=>simp (disch:=omega) only [go_sem,List.length_map,htl])|exact trivial|exact Sub.refl _|omega)
  rw [hmk,hnx,List.map_append]
  rfl
 ·obtain ⟨r,hr,rfl⟩:=tupR_at h
  have hmk : ((rs.take 400).map rowD).take 400 = (rs.take 400).map rowD:=take_map rowD (by omega)
  have hnx : rs.take 401 = rs.take 400 ++ [r]:=take_next hr
  have htl : (rs.take 400).length = 400:=take_len (by omega)
  refine go1 @htl ?_
  refine ⟨[(1000000,.obj [.own 1000001 1 401]),(1000001,.row 1 ((rs.take 401).map rowD))],namesOK_of rfl,Wk.list [1000000,2000010] rfl rfl ?_,?_⟩
  ·repeat' (first|(conv in hold _=>simp (disch:=omega) only [go_sem,List.length_map,htl])|exact trivial|exact Sub.refl _|omega)
   rw [hmk,hnx,List.map_append]
   rfl
  ·refine go1F @hl4 ?_
   refine fin_wk (wk_frz 2 1000001 (by decide) (by decide) rfl ?_) ?_
   rotate_left
   (conv in hold _=>simp (disch:=omega) only [go_sem,htk,hl4,List.length_map,Nat.le_refl])
   ·refine fin_L [] ?_ ?_ rfl ?_
    repeat' (first|(conv in hold _=>simp (disch:=omega) only [go_sem,htk,hl4,List.length_map])|exact trivial|exact Sub.refl _|omega)
   ·exact rows_pur _
theorem rowsOrNone_s (rs : List (List V)) (hl : rs.length ≤ 400) : Does Tryz.prog 144 [] [rowsD rs] (rowsD rs) []:=by
 have h : ¬ (400 : Int) < rs.length:=by omega
 exact Bg c_Z85 mixed (go0 trivial)
theorem rowsOrNone_n (rs : List (List V)) (hl : 400 < rs.length) : Does Tryz.prog 144 [] [rowsD rs] (rowsD []) []:=by
 have h : (400 : Int) < rs.length:=by omega
 refine Bg c_Z85 mixed (go1 trivial ?_)
 exact Sub.nul 1
def colL (rs : List (List V)) : List (List V):=if rs.length ≤ 400 then rs else []
theorem collectRows_ok {f : FuncId} (hf : enters Tryz.prog f = true) {caps : List D} (hcp : D.purL caps = true) (rs : List (List V)) (hl : rs.length ≤ 1000000) (hY : Yields Tryz.prog f caps (rs.map tupR)) :
  Does Tryz.prog 93 [] [.fn f caps] (rowsD (colL rs)) []:=by
 have hren:=fun L=>ren_pure.renL_pure L caps hcp
 unfold colL
 by_cases h : rs.length ≤ 400
 ·rw [if_pos h]
  have h1:=firstRows_s hf hcp rs h hY
  have h2:=rowsOrNone_s rs h
  refine Bg c_Z68 mixed (go1 (cj2 @hcp @hren) ?_)
  refine Uc (cj2 @hcp @hren) (h1) (go1 (cj2 @hcp @hren) ?_)
  exact Uc trivial (h2) (go0 trivial)
 ·rw [if_neg h]
  have h1:=firstRows_n hf hcp rs (by omega) hl hY
  have h2:=rowsOrNone_n (rs.take 401) (by rw [take_len (by omega)]; omega)
  refine Bg c_Z68 mixed (go1 (cj2 @hcp @hren) ?_)
  refine Uc (cj2 @hcp @hren) (h1) (go1 (cj2 @hcp @hren) ?_)
  exact Uc trivial (h2) (go0 trivial)
end Go.Proofs.YtjngffbghkafaaaGreat
