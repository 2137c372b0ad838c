/-
  The program's terms, and their values. No condition.
-/
import Derived.Test.YtjngffbghkafaaaGreatKSDca
import Derived.Test.YtjngffbghkafaaaGreatKSDcc
import Derived.Test.YtjngffbghkafaaaGreatKSDcd
import Derived.Test.YtjngffbghkafaaaGreatKSVVa
import Derived.Test.YtjngffbghkafaaaGreatJSVPl
import Derived.Test.YtjngffbghkafaaaGreatJSVGo
set_option maxHeartbeats 4000000
set_option maxRecDepth 100000
namespace Go.Proofs.YtjngffbghkafaaaGreat
open Go.RowKit
theorem truth_not_ok (n : Int) (h : 0 ≤ n ∧ n ≤ 2) : Does Tryz.prog 283 [] [I n] (I (2 - n)) []:=by
 exact Bg c_Z98 mixed (go0 trivial)
theorem truth_value_ok (n : Int) : Does Tryz.prog 284 [] [I n] (vD (itv n)) []:=by
 refine does0 c_Z73 mixed (Nat.le_of_ble_eq_true rfl) ?_
 conv=>arg 3; whnf
 repeat' (first|with_reducible refine acc_none ?_ | (conv in hold _=>simp (disch:=omega) only [go_sem])|refine Stp.go ?_|(with_reducible first|refine it_pos rfl ?_|refine it_neg (by decide) ?_|refine st_nil rfl ?_|refine s_op ?_ ?_|exact trivial)|((with_reducible first|refine dw_reg0 ?_|refine dw_regB ?_);(conv=>arg 3;whnf))|(refine Spl.go (fun hq he=>?_) (fun hq he=>?_)<;>first|(exfalso;clear hq;omega)|((try first|(conv=>arg 8;simp only [hq])|(conv=>arg 4;simp only [hq]));clear hq))|((with_reducible first|refine c_split (fun hq=>?_) (fun hq=>?_)|refine q_split (fun hq=>?_) (fun hq=>?_))<;>(try first|(conv=>arg 8;simp only [hq])|(conv=>arg 4;simp only [hq])))|(with_reducible refine fin_0 ?_ (by first|rfl|(conv=>lhs;simp only [go_sem])) ?_)|exact Sub.refl _|omega)
 ·rw [show itv n = ⟨false,0⟩ from if_pos he]; exact Sub.refl _
 ·rw [show itv n = ⟨false,1⟩ by unfold itv; rw [if_neg (by omega),if_pos he]]; exact Sub.refl _
 ·rw [show itv n = ⟨true,0⟩ by unfold itv; rw [if_neg (by omega),if_neg he]]; exact Sub.refl _
theorem truthOf_ok (b : Bool) : Does Tryz.prog 309 [] [Bo b] (I (if b then 2 else 0)) []:=by
 refine does0 c_Z135 mixed (Nat.le_of_ble_eq_true rfl) ?_
 conv=>arg 3; whnf
 repeat' (first|with_reducible refine acc_none ?_ | (conv in hold _=>simp (disch:=omega) only [go_sem])|refine Stp.go ?_|(with_reducible first|refine it_pos rfl ?_|refine it_neg (by decide) ?_|refine st_nil rfl ?_|refine s_op ?_ ?_|exact trivial)|((with_reducible first|refine dw_reg0 ?_|refine dw_regB ?_);(conv=>arg 3;whnf))|(refine Spl.go (fun hq he=>?_) (fun hq he=>?_)<;>first|(exfalso;clear hq;omega)|((try first|(conv=>arg 8;simp only [hq])|(conv=>arg 4;simp only [hq]));clear hq))|((with_reducible first|refine c_split (fun hq=>?_) (fun hq=>?_)|refine q_split (fun hq=>?_) (fun hq=>?_))<;>(try first|(conv=>arg 8;simp only [hq])|(conv=>arg 4;simp only [hq])))|(with_reducible refine fin_0 ?_ (by first|rfl|(conv=>lhs;simp only [go_sem])) ?_)|exact Sub.refl _|omega)
 all_goals (rw [hq]; exact Sub.refl _)
def TV (d : D) (row : List V) (v : V) : Prop:=∃ t e f,d = .ifc t e ∧ e.pur = true ∧ methOf Tryz.prog t name_impl_value = some f ∧ Does Tryz.prog f [] [e,rowD row] (vD v) []
theorem columnTerm_ok {row : List V} {c : Int} {v : V} (h0 : 0 ≤ c) (hv : row[c.toNat]? = some v) : TV (.ifc 226 (.agg [I c])) row v:=by
 refine ⟨_,_,305,rfl,rfl,by kernel_rfl,?_⟩
 have hlt:=(List.getElem?_eq_some_iff.1 hv).1
 exact Bg c_Z30 mixed (go0 @hv)
theorem constantTerm_ok (row : List V) (v : V) : TV (.ifc 228 (.agg [Bo v.b,I v.n])) row v:=by
 refine ⟨_,_,306,rfl,rfl,by kernel_rfl,?_⟩
 exact Bg c_Z26 mixed (go0 trivial)
theorem notTerm_ok {row : List V} {d : D} {v : V} (h : TV d row v) : TV (.ifc 230 (.agg [d])) row (ofTr (notTr (tr v))):=by
 obtain ⟨t,e,f,rfl,hp,hm,hd⟩:=h
 refine ⟨_,_,307,rfl,by simp [D.pur,D.purL,hp],by kernel_rfl,?_⟩
 refine Bg c_Z48 mixed (go1 trivial ?_)
 refine i_meth (hm) ?_
 refine Uc @hp (hd) (go1 @hp ?_)
 have:=itr_range v
 refine Uc trivial (truth_of_ok v) (go1 trivial ?_)
 refine Uc trivial (truth_not_ok (itr v) (by omega)) (go1 trivial ?_)
 refine Uc trivial (truth_value_ok (2 - itr v)) (go1 trivial ?_)
 rw [itv_not]; exact Sub.refl _
theorem nullTerm_ok {row : List V} {d : D} {v : V} (h : TV d row v) : TV (.ifc 231 (.agg [d])) row ⟨false,b2i v.b⟩:=by
 obtain ⟨t,e,f,rfl,hp,hm,hd⟩:=h
 refine ⟨_,_,308,rfl,by simp [D.pur,D.purL,hp],by kernel_rfl,?_⟩
 refine Bg c_Z43 mixed (go1 trivial ?_)
 refine i_meth (hm) ?_
 refine Uc @hp (hd) (go1 @hp ?_)
 refine Uc trivial (truthOf_ok v.b) (go1 trivial ?_)
 refine Uc trivial (truth_value_ok (if v.b then 2 else 0)) (go1 trivial ?_)
 rw [itv_b2i]; exact Sub.refl _
theorem numbers_ok {row : List V} {d1 d2 : D} {a b : V} (h1 : TV d1 row a) (h2 : TV d2 row b) : Does Tryz.prog 310 [] [.agg [d1,d2],rowD row] (.tup [I a.n,I b.n,Bo (!a.b && !b.b)]) []:=by
 obtain ⟨t,e,f,rfl,hp,hm,hd⟩:=h1
 obtain ⟨t',e',f',rfl,hp',hm',hd'⟩:=h2
 refine Bg c_Z60 mixed (go1 trivial ?_)
 refine i_meth (hm) ?_
 refine Uc @hp (hd) (go1 @hp ?_)
 refine i_meth (hm') ?_
 refine c_doesE (hd') ?_ ?_ ?_
 ·((try (conv=>rhs;simp (disch:=omega) only [go_sem,hp'])); try rfl)
 ·first|rfl|(conv=>lhs;simp only [go_sem,hp'])
 repeat' (first|with_reducible refine acc_none ?_ | (conv in hold _=>simp (disch:=omega) only [go_sem,hp'])|refine Stp.go ?_|(with_reducible first|refine it_pos rfl ?_|refine it_neg (by decide) ?_|refine st_nil rfl ?_|refine s_op ?_ ?_|exact trivial)|((with_reducible first|refine dw_reg0 ?_|refine dw_regB ?_);(conv=>arg 3;whnf))|(refine Spl.go (fun hq he=>?_) (fun hq he=>?_)<;>first|(exfalso;clear hq;omega)|((try first|(conv=>arg 8;simp only [hq])|(conv=>arg 4;simp only [hq]));clear hq))|((with_reducible first|refine c_split (fun hq=>?_) (fun hq=>?_)|refine q_split (fun hq=>?_) (fun hq=>?_))<;>(try first|(conv=>arg 8;simp only [hq])|(conv=>arg 4;simp only [hq])))|(with_reducible refine fin_0 ?_ (by first|rfl|(conv=>lhs;simp only [go_sem,hp'])) ?_)|exact Sub.refl _|omega)
 all_goals (refine Sub.of_eq ?_; cases ha : a.b <;> simp [ha] at hq ⊢)
theorem truths_ok {row : List V} {d1 d2 : D} {a b : V} (h1 : TV d1 row a) (h2 : TV d2 row b) : Does Tryz.prog 325 [] [.agg [d1,d2],rowD row] (.tup [I (itr a),I (itr b)]) []:=by
 obtain ⟨t,e,f,rfl,hp,hm,hd⟩:=h1
 obtain ⟨t',e',f',rfl,hp',hm',hd'⟩:=h2
 refine Bg c_Z71 mixed (go1 trivial ?_)
 refine i_meth (hm) ?_
 refine Uc @hp (hd) (go1 @hp ?_)
 refine Uc trivial (truth_of_ok a) (go1 trivial ?_)
 refine i_meth (hm') ?_
 refine Uc @hp' (hd') (go1 @hp' ?_)
 exact Uc trivial (truth_of_ok b) (go0 trivial)
theorem arithmetic_ok {row : List V} {d1 d2 : D} {a b : V} (h1 : TV d1 row a) (h2 : TV d2 row b) {g : Nat} {r : Int} (hg : enters Tryz.prog g = true) (hr : Does Tryz.prog g [] [I a.n,I b.n] (I r) []) :
  Does Tryz.prog 312 [] [.agg [d1,d2],rowD row,.fn g []] (vD (if a.b = true ∨ b.b = true then ⟨true,0⟩ else num r)) []:=by
 have hn:=numbers_ok h1 h2
 obtain ⟨t,e,f,rfl,hp,hm,hd⟩:=h1
 obtain ⟨t',e',f',rfl,hp',hm',hd'⟩:=h2
 refine Bg c_Z34 mixed (go1 trivial ?_)
 refine c_doesE (hn) ?_ ?_ ?_
 ·((try (conv=>rhs;simp (disch:=omega) only [go_sem,hp,hp'])); try rfl)
 ·first|rfl|(conv=>lhs;simp only [go_sem,hp,hp'])
 repeat' (first|with_reducible refine acc_none ?_ | (conv in hold _=>simp (disch:=omega) only [go_sem,hp,hp'])|refine Stp.go ?_|(with_reducible first|refine it_pos rfl ?_|refine it_neg (by decide) ?_|refine st_nil rfl ?_|refine s_op ?_ ?_|exact trivial)|((with_reducible first|refine dw_reg0 ?_|refine dw_regB ?_);(conv=>arg 3;whnf))|(refine Spl.go (fun hq he=>?_) (fun hq he=>?_)<;>first|(exfalso;clear hq;omega)|((try first|(conv=>arg 8;simp only [hq])|(conv=>arg 4;simp only [hq]));clear hq))|((with_reducible first|refine c_split (fun hq=>?_) (fun hq=>?_)|refine q_split (fun hq=>?_) (fun hq=>?_))<;>(try first|(conv=>arg 8;simp only [hq])|(conv=>arg 4;simp only [hq])))|(with_reducible refine fin_0 ?_ (by first|rfl|(conv=>lhs;simp only [go_sem,hp,hp'])) ?_)|exact Sub.refl _|omega)
 ·refine v_fn (hg) ?_
  refine Uc trivial (hr) (go1 trivial ?_)
  refine Uc trivial (numberOrNull_ok r) (go1 trivial ?_)
  rw [if_neg (by simp at hq; simp [hq])]; exact Sub.refl _
 ·rw [if_pos (by cases ha : a.b <;> simp [ha] at hq ⊢; exact hq)]; exact Sub.refl _
theorem comparison_ok {row : List V} {d1 d2 : D} {a b : V} (h1 : TV d1 row a) (h2 : TV d2 row b) {g : Nat} {r : Bool} (hg : enters Tryz.prog g = true) (hr : Does Tryz.prog g [] [I a.n,I b.n] (Bo r) []) :
  Does Tryz.prog 320 [] [.agg [d1,d2],rowD row,.fn g []] (vD (if a.b = true ∨ b.b = true then ⟨true,0⟩ else ⟨false,b2i r⟩)) []:=by
 have hn:=numbers_ok h1 h2
 obtain ⟨t,e,f,rfl,hp,hm,hd⟩:=h1
 obtain ⟨t',e',f',rfl,hp',hm',hd'⟩:=h2
 refine Bg c_Z35 mixed (go1 trivial ?_)
 refine c_doesE (hn) ?_ ?_ ?_
 ·((try (conv=>rhs;simp (disch:=omega) only [go_sem,hp,hp'])); try rfl)
 ·first|rfl|(conv=>lhs;simp only [go_sem,hp,hp'])
 repeat' (first|with_reducible refine acc_none ?_ | (conv in hold _=>simp (disch:=omega) only [go_sem,hp,hp'])|refine Stp.go ?_|(with_reducible first|refine it_pos rfl ?_|refine it_neg (by decide) ?_|refine st_nil rfl ?_|refine s_op ?_ ?_|exact trivial)|((with_reducible first|refine dw_reg0 ?_|refine dw_regB ?_);(conv=>arg 3;whnf))|(refine Spl.go (fun hq he=>?_) (fun hq he=>?_)<;>first|(exfalso;clear hq;omega)|((try first|(conv=>arg 8;simp only [hq])|(conv=>arg 4;simp only [hq]));clear hq))|((with_reducible first|refine c_split (fun hq=>?_) (fun hq=>?_)|refine q_split (fun hq=>?_) (fun hq=>?_))<;>(try first|(conv=>arg 8;simp only [hq])|(conv=>arg 4;simp only [hq])))|(with_reducible refine fin_0 ?_ (by first|rfl|(conv=>lhs;simp only [go_sem,hp,hp'])) ?_)|exact Sub.refl _|omega)
 ·refine v_fn (hg) ?_
  refine Uc trivial (hr) (go1 trivial ?_)
  refine Uc trivial (truthOf_ok r) (go1 trivial ?_)
  refine Uc trivial (truth_value_ok (if r then 2 else 0)) (go1 trivial ?_)
  rw [itv_b2i,if_neg (by simp at hq; simp [hq])]; exact Sub.refl _
 ·rw [if_pos (by cases ha : a.b <;> simp [ha] at hq ⊢; exact hq)]; exact Sub.refl _
theorem add_ok {x y : Int} (hx : -9999 ≤ x ∧ x ≤ 9999) (hy : -9999 ≤ y ∧ y ≤ 9999) : Does Tryz.prog 313 [] [I x,I y] (I (x + y)) []:=by
 exact Bg c_Z37 mixed (go0 trivial)
theorem sub_ok {x y : Int} (hx : -9999 ≤ x ∧ x ≤ 9999) (hy : -9999 ≤ y ∧ y ≤ 9999) : Does Tryz.prog 316 [] [I x,I y] (I (x - y)) []:=by
 exact Bg c_Z22 mixed (go0 trivial)
theorem mul_ok {x y : Int} (hx : -9999 ≤ x ∧ x ≤ 9999) (hy : -9999 ≤ y ∧ y ≤ 9999) : Does Tryz.prog 318 [] [I x,I y] (I (x * y)) []:=by
 have h : (x * y).natAbs ≤ 9999 * 9999:=by
  rw [Int.natAbs_mul]
  exact Nat.mul_le_mul (by omega) (by omega)
 exact Bg c_Z25 mixed (go0 trivial)
theorem eql_ok (x y : Int) : Does Tryz.prog 321 [] [I x,I y] (Bo (x == y)) []:=by
 exact Bg c_Z27 mixed (go0 trivial)
theorem lss_ok (x y : Int) : Does Tryz.prog 323 [] [I x,I y] (Bo (decide (x < y))) []:=by
 exact Bg c_Z31 mixed (go0 trivial)
def pt (k : Int) : Nat:=if k = 3 then 263 else if k = 4 then 264 else if k = 5 then 265 else if k = 6 then 266 else if k = 7 then 267 else if k = 8 then 268 else 269
theorem pairTerm_ok (k : Int) (t1 t2 : Nat) (e1 e2 : D) (h1 : e1.pur = true) (h2 : e2.pur = true) : Does Tryz.prog 182 [] [I k,.agg [.ifc t1 e1,.ifc t2 e2]] (.ifc (pt k) (.agg [.ifc t1 e1,.ifc t2 e2])) []:=by
 refine does0 c_Z113 mixed (Nat.le_of_ble_eq_true rfl) ?_
 conv=>arg 3; whnf
 repeat' (first|with_reducible refine acc_none ?_ | (conv in hold _=>simp (disch:=omega) only [go_sem,h1,h2,Bool.and_self])|refine Stp.go ?_|(with_reducible first|refine it_pos rfl ?_|refine it_neg (by decide) ?_|refine st_nil rfl ?_|refine s_op ?_ ?_|exact trivial)|((with_reducible first|refine dw_reg0 ?_|refine dw_regB ?_);(conv=>arg 3;whnf))|(refine Spl.go (fun hq he=>?_) (fun hq he=>?_)<;>first|(exfalso;clear hq;omega)|((try first|(conv=>arg 8;simp only [hq])|(conv=>arg 4;simp only [hq]));clear hq))|((with_reducible first|refine c_split (fun hq=>?_) (fun hq=>?_)|refine q_split (fun hq=>?_) (fun hq=>?_))<;>(try first|(conv=>arg 8;simp only [hq])|(conv=>arg 4;simp only [hq])))|(with_reducible refine fin_0 ?_ (by first|rfl|(conv=>lhs;simp only [go_sem,h1,h2,Bool.and_self])) ?_)|exact Sub.refl _|omega)
 all_goals (refine Sub.of_eq ?_; simp [pt, *])
mutual
def tD : E → D
 | .mk k c v ks=>if k = 1 then .ifc 226 (.agg [I c]) else if k = 2 then .ifc 228 (.agg [Bo v.b,I v.n]) else
  match tL ks with
  | []=>.any
  | a :: l=>if k = 10 then .ifc 230 (.agg [a]) else if k = 11 then .ifc 231 (.agg [a]) else .ifc (pt k) (.agg [a,l.headD .any])
def tL : List E → List D
 | []=>[]
 | e :: l=>tD e :: tL l
end
theorem tL_map : ∀ l : List E,tL l = l.map tD
 | []=>by rw [tL]; rfl
 | e :: l=>by rw [tL,tL_map l]; rfl
theorem tD_col {e : E} (h : e.k = 1) : tD e = .ifc 226 (.agg [I e.c]):=by
 cases e with
 | mk k c v ks=>have h : k = 1:=h; rw [tD,if_pos h]; rfl
theorem tD_const {e : E} (h : e.k = 2) : tD e = .ifc 228 (.agg [Bo e.v.b,I e.v.n]):=by
 cases e with
 | mk k c v ks=>have h : k = 2:=h; rw [tD,if_neg (by omega),if_pos h]; rfl
theorem tD_not {e a : E} (h : e.k = 10) (hk : e.ks = [a]) : tD e = .ifc 230 (.agg [tD a]):=by
 cases e with
 | mk k c v ks=>
  have h : k = 10:=h
  have hk : ks = [a]:=hk
  subst hk
  rw [tD,if_neg (by omega),if_neg (by omega),tL_map]
  exact if_pos h
theorem tD_null {e a : E} (h : e.k = 11) (hk : e.ks = [a]) : tD e = .ifc 231 (.agg [tD a]):=by
 cases e with
 | mk k c v ks=>
  have h' : k = 11:=h
  have hk : ks = [a]:=hk
  subst hk
  rw [tD,if_neg (by omega),if_neg (by omega),tL_map]
  show (if k = 10 then _ else if k = 11 then _ else _) = _
  rw [if_neg (by omega),if_pos h']
theorem tD_two {e a b : E} (h1 : ¬ e.k = 1) (h2 : ¬ e.k = 2) (h10 : ¬ e.k = 10) (h11 : ¬ e.k = 11) (hk : e.ks = [a,b]) : tD e = .ifc (pt e.k) (.agg [tD a,tD b]):=by
 cases e with
 | mk k c v ks=>
  have hk : ks = [a,b]:=hk
  subst hk
  have h1 : ¬ k = 1:=h1
  have h2 : ¬ k = 2:=h2
  have h10 : ¬ k = 10:=h10
  have h11 : ¬ k = 11:=h11
  rw [tD,if_neg h1,if_neg h2,tL_map]
  show (if k = 10 then _ else if k = 11 then _ else _) = _
  rw [if_neg h10,if_neg h11]
  rfl
theorem two_ok {row : List V} {d1 d2 : D} {a b : V} {k : Int} (hk : 3 ≤ k ∧ k ≤ 9) (ha : a.ok) (hb : b.ok) (h1 : TV d1 row a) (h2 : TV d2 row b) : TV (.ifc (pt k) (.agg [d1,d2])) row (comb k a b):=by
 have hx : -9999 ≤ a.n ∧ a.n ≤ 9999:=⟨ha.lo,ha.hi⟩
 have hy : -9999 ≤ b.n ∧ b.n ≤ 9999:=⟨hb.lo,hb.hi⟩
 have hpur : (D.agg [d1,d2]).pur = true:=by
  obtain ⟨t,e,f,rfl,hp,_⟩:=id h1
  obtain ⟨t',e',f',rfl,hp',_⟩:=id h2
  simp [D.pur,D.purL,hp,hp']
 have hcx : ∀ {v : V},¬ k = 8 → ¬ k = 9 → (¬ (a.b = true ∨ b.b = true) → comb k a b = v) → comb k a b = if a.b = true ∨ b.b = true then ⟨true,0⟩ else v:=by
  intro v h8 h9 h
  split
  ·exact combN h8 h9 ‹_›
  ·exact h ‹_›
 have hx' : ¬ (a.b = true ∨ b.b = true) → a.b = false ∧ b.b = false:=fun h=>⟨by simpa using fun e=>h (.inl e),by simpa using fun e=>h (.inr e)⟩
 obtain h | h | h | h | h | h | h : k = 3 ∨ k = 4 ∨ k = 5 ∨ k = 6 ∨ k = 7 ∨ k = 8 ∨ k = 9:=by omega
 ·subst h
  rw [hcx (v:=num (a.n + b.n)) (by decide) (by decide) (fun h=>combX (by decide) (by decide) (hx' h).1 (hx' h).2)]
  have har:=arithmetic_ok h1 h2 (by kernel_rfl) (add_ok hx hy)
  refine ⟨_,_,311,rfl,hpur,by kernel_rfl,?_⟩
  obtain ⟨t,e,f,rfl,hp,hm,hd⟩:=h1
  obtain ⟨t',e',f',rfl,hp',hm',hd'⟩:=h2
  refine Bg c_Z50 mixed (go1 trivial ?_)
  exact Uc (cj3 @hp @hp' @Bool.and_self) (har) (go0 (cj3 @hp @hp' @Bool.and_self))
 ·subst h
  rw [hcx (v:=num (a.n - b.n)) (by decide) (by decide) (fun h=>combX (by decide) (by decide) (hx' h).1 (hx' h).2)]
  have har:=arithmetic_ok h1 h2 (by kernel_rfl) (sub_ok hx hy)
  refine ⟨_,_,315,rfl,hpur,by kernel_rfl,?_⟩
  obtain ⟨t,e,f,rfl,hp,hm,hd⟩:=h1
  obtain ⟨t',e',f',rfl,hp',hm',hd'⟩:=h2
  refine Bg c_Z24 mixed (go1 trivial ?_)
  exact Uc (cj3 @hp @hp' @Bool.and_self) (har) (go0 (cj3 @hp @hp' @Bool.and_self))
 ·subst h
  rw [hcx (v:=num (a.n * b.n)) (by decide) (by decide) (fun h=>combX (by decide) (by decide) (hx' h).1 (hx' h).2)]
  have har:=arithmetic_ok h1 h2 (by kernel_rfl) (mul_ok hx hy)
  refine ⟨_,_,317,rfl,hpur,by kernel_rfl,?_⟩
  obtain ⟨t,e,f,rfl,hp,hm,hd⟩:=h1
  obtain ⟨t',e',f',rfl,hp',hm',hd'⟩:=h2
  refine Bg c_Z29 mixed (go1 trivial ?_)
  exact Uc (cj3 @hp @hp' @Bool.and_self) (har) (go0 (cj3 @hp @hp' @Bool.and_self))
 ·subst h
  rw [hcx (v:=⟨false,b2i (a.n == b.n)⟩) (by decide) (by decide) (fun h=>combX (by decide) (by decide) (hx' h).1 (hx' h).2)]
  have har:=comparison_ok h1 h2 (by kernel_rfl) (eql_ok a.n b.n)
  refine ⟨_,_,319,rfl,hpur,by kernel_rfl,?_⟩
  obtain ⟨t,e,f,rfl,hp,hm,hd⟩:=h1
  obtain ⟨t',e',f',rfl,hp',hm',hd'⟩:=h2
  refine Bg c_Z32 mixed (go1 trivial ?_)
  exact Uc (cj3 @hp @hp' @Bool.and_self) (har) (go0 (cj3 @hp @hp' @Bool.and_self))
 ·subst h
  rw [hcx (v:=⟨false,b2i (decide (a.n < b.n))⟩) (by decide) (by decide) (fun h=>combX (by decide) (by decide) (hx' h).1 (hx' h).2)]
  have har:=comparison_ok h1 h2 (by kernel_rfl) (lss_ok a.n b.n)
  refine ⟨_,_,322,rfl,hpur,by kernel_rfl,?_⟩
  obtain ⟨t,e,f,rfl,hp,hm,hd⟩:=h1
  obtain ⟨t',e',f',rfl,hp',hm',hd'⟩:=h2
  refine Bg c_Z42 mixed (go1 trivial ?_)
  exact Uc (cj3 @hp @hp' @Bool.and_self) (har) (go0 (cj3 @hp @hp' @Bool.and_self))
 ·subst h
  have htr:=truths_ok h1 h2
  refine ⟨_,_,324,rfl,hpur,by kernel_rfl,?_⟩
  obtain ⟨t,e,f,rfl,hp,hm,hd⟩:=h1
  obtain ⟨t',e',f',rfl,hp',hm',hd'⟩:=h2
  refine Bg c_Z45 mixed (go1 trivial ?_)
  refine Uc (cj3 @hp @hp' @Bool.and_self) (htr) (go1 (cj3 @hp @hp' @Bool.and_self) ?_)
  refine Uc trivial (truth_value_ok (min (itr a) (itr b))) (go1 trivial ?_)
  rw [comb8 rfl,← itv_and]; exact Sub.refl _
 ·subst h
  have htr:=truths_ok h1 h2
  refine ⟨_,_,326,rfl,hpur,by kernel_rfl,?_⟩
  obtain ⟨t,e,f,rfl,hp,hm,hd⟩:=h1
  obtain ⟨t',e',f',rfl,hp',hm',hd'⟩:=h2
  refine Bg c_Z59 mixed (go1 trivial ?_)
  refine Uc (cj3 @hp @hp' @Bool.and_self) (htr) (go1 (cj3 @hp @hp' @Bool.and_self) ?_)
  refine Uc trivial (truth_value_ok (max (itr a) (itr b))) (go1 trivial ?_)
  rw [comb9 rfl,← itv_or]; exact Sub.refl _
theorem termOf_ok {row : List V} (hr : ∀ v,v ∈ row → v.ok) : ∀ (e : E) (d : Nat),eOk e row.length d → Does Tryz.prog 147 [] [eD e] (tD e) [] ∧ TV (tD e) row (ev e row):=by
 refine E.ind (fun e ih d h=>?_)
 have hl:=((eOk_iff e _ d).1 h).2.2.2
 rcases eOk_kids h with ⟨h1,_⟩ | ⟨h1,a,hks,hao⟩ | ⟨h1,a,b,hks,hao,hbo⟩
 ·unfold leafOk at hl
  rcases h1 with h1 | h1
  ·rw [if_pos h1] at hl
   obtain ⟨v,hv⟩ : ∃ v,row[e.c.toNat]? = some v:=⟨_,List.getElem?_eq_getElem (show e.c.toNat < row.length by omega)⟩
   rw [tD_col h1,ev_col h1 hv]
   refine ⟨?_,columnTerm_ok hl.1 hv⟩
   exact Bg c_Z153 mixed (go0 trivial)
  ·rw [tD_const h1,ev_const h1]
   refine ⟨?_,constantTerm_ok row e.v⟩
   exact Bg c_Z153 mixed (go0 trivial)
 ·obtain ⟨iha,tva⟩:=ih a (by rw [hks]; exact List.mem_cons_self ..) (d - 1) hao
  rcases h1 with h1 | h1
  ·rw [tD_not h1 hks,ev_not h1 hks]
   refine ⟨?_,notTerm_ok tva⟩
   obtain ⟨t,x,f,ht,hp,_⟩:=tva
   rw [ht] at iha ⊢
   refine Bg c_Z153 mixed (go1 (cj2 @hks @hp) ?_)
   exact Uc @hp (iha) (go0 @hp)
  ·rw [tD_null h1 hks,ev_null h1 hks]
   refine ⟨?_,nullTerm_ok tva⟩
   obtain ⟨t,x,f,ht,hp,_⟩:=tva
   rw [ht] at iha ⊢
   refine Bg c_Z153 mixed (go1 (cj2 @hks @hp) ?_)
   exact Uc @hp (iha) (go0 @hp)
 ·obtain ⟨iha,tva⟩:=ih a (by rw [hks]; exact List.mem_cons_self ..) (d - 1) hao
  obtain ⟨ihb,tvb⟩:=ih b (by rw [hks]; exact List.mem_cons_of_mem _ (List.mem_cons_self ..)) (d - 1) hbo
  rw [tD_two (by omega) (by omega) (by omega) (by omega) hks,ev_two (by omega) (by omega) (by omega) (by omega) hks]
  refine ⟨?_,two_ok h1 (ev_ok hr a _ hao) (ev_ok hr b _ hbo) tva tvb⟩
  obtain ⟨t,x,f,ht,hp,_⟩:=tva
  obtain ⟨t',x',f',ht',hp',_⟩:=tvb
  rw [ht] at iha ⊢
  rw [ht'] at ihb ⊢
  refine Bg c_Z153 mixed (go1 (cj3 @hks @hp @hp') ?_)
  refine Uc (cj3 @hks @hp @hp') (iha) (go1 (cj3 @hks @hp @hp') ?_)
  refine Uc (cj4 @hks @hp @hp' @Bool.and_self) (ihb) (go1 (cj4 @hks @hp @hp' @Bool.and_self) ?_)
  exact Uc (cj3 @hp @hp' @Bool.and_self) (pairTerm_ok e.k t t' x x' hp hp') (go0 (cj3 @hp @hp' @Bool.and_self))
end Go.Proofs.YtjngffbghkafaaaGreat
