/-
  Functions of the program read as code on plain data. Closed facts of the program alone.
-/
import Derived.KernelRfl
import Derived.Test.YtgpdmgaemhelgaaGreatRows
import Derived.Test.YtgpdmgaemhelgaaGreatJSVBox
import Derived.Test.YtgpdmgaemhelgaaGreatJSVYld
import Derived.Test.YtgpdmgaemhelgaaGreatJSVClA
import Derived.Test.YtgpdmgaemhelgaaGreatJSVEsz
import Derived.Test.YtgpdmgaemhelgaaGreatKSDca
import Derived.Test.YtgpdmgaemhelgaaGreatKSDcc
import Derived.Test.YtgpdmgaemhelgaaGreatJSDce
namespace Go.Proofs.YtgpdmgaemhelgaaGreat
open Go.RowKit
noncomputable section
def r_Z45_0 : List GI:=[gi 2 (.alloc 2 2000002 [I 0,I 0,.nul,.nul,.nul]),gi 3 (.mov 3 (.k .nul))]
def r_Z45_1 : List GI:=[gt 4 0,gc 5 48 [.t 4],gc 6 49 [.t 5],gi 7 (.ext 7 6 0),gi 8 (.ext 8 6 1),g0 (.sto 2 (.t 7) (some 5)),gt 3 8]
def dc_Z45 : DC:=.seq (.z r_Z45_0) (.seq (.z r_Z45_1) .ret)
theorem c_Z45 : cfun Tryz.prog [] 25 = some (9,dc_Z45,[(Res.cell 2 (some 5)),(Res.tmp 3)]):=by kernel_rfl
end
end Go.Proofs.YtgpdmgaemhelgaaGreat
set_option maxHeartbeats 4000000
set_option maxRecDepth 100000
namespace Go.Proofs.YtgpdmgaemhelgaaGreat
open Go.ChangeShapes Go.WideShapes Go.ChangeAt Go.RowKit Go.Joins Go.Deep
inductive Most : E → Prop
 | mk {k c : Int} {v : V} {ks : List E} (h : ks.length ≤ big) (hk : ∀ x,x ∈ ks → Most x) : Most (.mk k c v ks)
theorem Most.len {e : E} (h : Most e) : e.ks.length ≤ big:=by cases h; assumption
section
variable {H : Type} {enc : TypeId × Value → H} {W : World} {base b0 : Nat} {held : Bool} {r : Reach} {v : Value} {d : DataW H} {p : List MemPlace}
end
end Go.Proofs.YtgpdmgaemhelgaaGreat
set_option maxHeartbeats 4000000
set_option maxRecDepth 100000
set_option linter.unusedVariables false
set_option linter.unusedSimpArgs false
namespace Go.Proofs.YtgpdmgaemhelgaaGreat
open Go.RowKit
theorem inRange_ok (n lo hi : Int) : Does Tryz.prog 136 [] [I n,I lo,I hi] (Bo (decide (lo ≤ n ∧ n ≤ hi))) []:=by
 refine does0 c_Z136 mixed (Nat.le_of_ble_eq_true rfl) ?_
 conv=>arg 3; whnf
 repeat' (first|with_reducible refine acc_none ?_ | (conv in hold _=>simp (disch:=omega) only [go_sem])|refine Stp.go ?_|(with_reducible first|refine it_pos rfl ?_|refine it_neg (by decide) ?_|refine st_nil rfl ?_|refine s_op ?_ ?_|exact trivial)|((with_reducible first|refine dw_reg0 ?_|refine dw_regB ?_);(conv=>arg 3;whnf))|(refine Spl.go (fun hq he=>?_) (fun hq he=>?_)<;>first|(exfalso;clear hq;omega)|((try first|(conv=>arg 8;simp only [hq])|(conv=>arg 4;simp only [hq]));clear hq))|((with_reducible first|refine c_split (fun hq=>?_) (fun hq=>?_)|refine q_split (fun hq=>?_) (fun hq=>?_))<;>(try first|(conv=>arg 8;simp only [hq])|(conv=>arg 4;simp only [hq])))|(with_reducible refine fin_0 ?_ (by first|rfl|(conv=>lhs;simp only [go_sem])) ?_)|exact Sub.refl _|omega)
 ·exact sub_iff (by simp [he])
 ·exact sub_f (fun h=>he h.1)
theorem validValue_ok (v : V) : Does Tryz.prog 185 [] [vD v] (Bo (decide v.ok)) []:=by
 refine Bg c_Z85 mixed (go1 trivial ?_)
 refine c_doesE (inRange_ok v.n (-9999) 9999) ?_ ?_ ?_
 ·((try (conv=>rhs;simp (disch:=omega) only [go_sem])); try rfl)
 ·first|rfl|(conv=>lhs;simp only [go_sem])
 repeat' (first|with_reducible refine acc_none ?_ | (conv in hold _=>simp (disch:=omega) only [go_sem])|refine Stp.go ?_|(with_reducible first|refine it_pos rfl ?_|refine it_neg (by decide) ?_|refine st_nil rfl ?_|refine s_op ?_ ?_|exact trivial)|((with_reducible first|refine dw_reg0 ?_|refine dw_regB ?_);(conv=>arg 3;whnf))|(refine Spl.go (fun hq he=>?_) (fun hq he=>?_)<;>first|(exfalso;clear hq;omega)|((try first|(conv=>arg 8;simp only [hq])|(conv=>arg 4;simp only [hq]));clear hq))|((with_reducible first|refine c_split (fun hq=>?_) (fun hq=>?_)|refine q_split (fun hq=>?_) (fun hq=>?_))<;>(try first|(conv=>arg 8;simp only [hq])|(conv=>arg 4;simp only [hq])))|(with_reducible refine fin_0 ?_ (by first|rfl|(conv=>lhs;simp only [go_sem])) ?_)|exact Sub.refl _|omega)
 ·have hb : v.b = true:=by simpa using hq
  refine sub_iff ?_
  rw [V.ok_iff,beq_iff_eq]
  exact ⟨fun h=>⟨he.1,he.2,fun _=>h⟩,fun h=>h.2.2 hb⟩
 ·have hb : v.b = false:=by simpa using hq
  exact sub_t ⟨he.1,he.2,fun h=>by rw [hb] at h; cases h⟩
 ·exact sub_f (fun h=>he ⟨h.lo,h.hi⟩)
theorem number_ok (n : Int) : Does Tryz.prog 215 [] [I n] (vD (num n)) []:=by
 refine Bg c_Z144 mixed (go1 trivial ?_)
 refine c_doesE (inRange_ok n (-9999) 9999) ?_ ?_ ?_
 ·((try (conv=>rhs;simp (disch:=omega) only [go_sem])); try rfl)
 ·first|rfl|(conv=>lhs;simp only [go_sem])
 repeat' (first|with_reducible refine acc_none ?_ | (conv in hold _=>simp (disch:=omega) only [go_sem])|refine Stp.go ?_|(with_reducible first|refine it_pos rfl ?_|refine it_neg (by decide) ?_|refine st_nil rfl ?_|refine s_op ?_ ?_|exact trivial)|((with_reducible first|refine dw_reg0 ?_|refine dw_regB ?_);(conv=>arg 3;whnf))|(refine Spl.go (fun hq he=>?_) (fun hq he=>?_)<;>first|(exfalso;clear hq;omega)|((try first|(conv=>arg 8;simp only [hq])|(conv=>arg 4;simp only [hq]));clear hq))|((with_reducible first|refine c_split (fun hq=>?_) (fun hq=>?_)|refine q_split (fun hq=>?_) (fun hq=>?_))<;>(try first|(conv=>arg 8;simp only [hq])|(conv=>arg 4;simp only [hq])))|(with_reducible refine fin_0 ?_ (by first|rfl|(conv=>lhs;simp only [go_sem])) ?_)|exact Sub.refl _|omega)
 ·rw [show num n = ⟨true,0⟩ from if_neg he]; exact Sub.refl _
 ·rw [show num n = ⟨false,n⟩ from if_pos he]; exact Sub.refl _
theorem Value_valid_ok (v : V) : Does Tryz.prog 191 [] [vD v] (Bo (decide v.ok)) []:=by
 refine does0 c_Z50 mixed (Nat.le_of_ble_eq_true rfl) ?_
 conv=>arg 3; whnf
 repeat' (first|with_reducible refine acc_none ?_ | (conv in hold _=>simp (disch:=omega) only [go_sem])|refine Stp.go ?_|(with_reducible first|refine it_pos rfl ?_|refine it_neg (by decide) ?_|refine st_nil rfl ?_|refine s_op ?_ ?_|exact trivial)|((with_reducible first|refine dw_reg0 ?_|refine dw_regB ?_);(conv=>arg 3;whnf))|(refine Spl.go (fun hq he=>?_) (fun hq he=>?_)<;>first|(exfalso;clear hq;omega)|((try first|(conv=>arg 8;simp only [hq])|(conv=>arg 4;simp only [hq]));clear hq))|((with_reducible first|refine c_split (fun hq=>?_) (fun hq=>?_)|refine q_split (fun hq=>?_) (fun hq=>?_))<;>(try first|(conv=>arg 8;simp only [hq])|(conv=>arg 4;simp only [hq])))|(with_reducible refine fin_0 ?_ (by first|rfl|(conv=>lhs;simp only [go_sem])) ?_)|exact Sub.refl _|omega)
 ·refine sub_iff ?_
  rw [V.ok_iff,beq_iff_eq]
  exact ⟨fun h=>⟨by omega,by omega,fun _=>h⟩,fun h=>h.2.2 hq⟩
 ·refine sub_iff ?_
  rw [V.ok_iff,decide_eq_true_iff]
  exact ⟨fun h=>⟨he,h,fun e=>by rw [hq] at e; cases e⟩,fun h=>h.2.1⟩
 ·exact sub_f (fun h=>he h.lo)
theorem validWidth_ok (w : Int) : Does Tryz.prog 99 [] [I w] (Bo (decide (1 ≤ w ∧ w ≤ 6))) []:=by
 refine does0 c_Z74 mixed (Nat.le_of_ble_eq_true rfl) ?_
 conv=>arg 3; whnf
 repeat' (first|with_reducible refine acc_none ?_ | (conv in hold _=>simp (disch:=omega) only [go_sem])|refine Stp.go ?_|(with_reducible first|refine it_pos rfl ?_|refine it_neg (by decide) ?_|refine st_nil rfl ?_|refine s_op ?_ ?_|exact trivial)|((with_reducible first|refine dw_reg0 ?_|refine dw_regB ?_);(conv=>arg 3;whnf))|(refine Spl.go (fun hq he=>?_) (fun hq he=>?_)<;>first|(exfalso;clear hq;omega)|((try first|(conv=>arg 8;simp only [hq])|(conv=>arg 4;simp only [hq]));clear hq))|((with_reducible first|refine c_split (fun hq=>?_) (fun hq=>?_)|refine q_split (fun hq=>?_) (fun hq=>?_))<;>(try first|(conv=>arg 8;simp only [hq])|(conv=>arg 4;simp only [hq])))|(with_reducible refine fin_0 ?_ (by first|rfl|(conv=>lhs;simp only [go_sem])) ?_)|exact Sub.refl _|omega)
 ·exact sub_iff (by simp [he])
 ·exact sub_f (fun h=>he h.1)
def valsOk (vs : List V) : Prop:=∀ v,v ∈ vs → v.ok
noncomputable instance valsOkDec (vs : List V) : Decidable (valsOk vs):=Classical.propDecidable _
theorem isColumn_ok (n w : Int) : Does Tryz.prog 190 [] [I n,I w] (Bo (decide (0 ≤ n ∧ n < w))) []:=by
 refine does0 c_Z112 mixed (Nat.le_of_ble_eq_true rfl) ?_
 conv=>arg 3; whnf
 repeat' (first|with_reducible refine acc_none ?_ | (conv in hold _=>simp (disch:=omega) only [go_sem])|refine Stp.go ?_|(with_reducible first|refine it_pos rfl ?_|refine it_neg (by decide) ?_|refine st_nil rfl ?_|refine s_op ?_ ?_|exact trivial)|((with_reducible first|refine dw_reg0 ?_|refine dw_regB ?_);(conv=>arg 3;whnf))|(refine Spl.go (fun hq he=>?_) (fun hq he=>?_)<;>first|(exfalso;clear hq;omega)|((try first|(conv=>arg 8;simp only [hq])|(conv=>arg 4;simp only [hq]));clear hq))|((with_reducible first|refine c_split (fun hq=>?_) (fun hq=>?_)|refine q_split (fun hq=>?_) (fun hq=>?_))<;>(try first|(conv=>arg 8;simp only [hq])|(conv=>arg 4;simp only [hq])))|(with_reducible refine fin_0 ?_ (by first|rfl|(conv=>lhs;simp only [go_sem])) ?_)|exact Sub.refl _|omega)
 ·exact sub_iff (by simp [he])
 ·exact sub_f (fun h=>he h.1)
end Go.Proofs.YtgpdmgaemhelgaaGreat
namespace Go.Proofs.YtgpdmgaemhelgaaGreat
open Go.RowKit
theorem does_toInt (b : Bool) : Does Tryz.prog 216 [] [.v (.bool b)] (.v (.int .i64 (if b then 1 else 0))) []:=by
 refine does0 c_Z148 mixed (Nat.le_of_ble_eq_true rfl) ?_
 conv=>arg 3; whnf
 repeat' (first|with_reducible refine acc_none ?_ | (conv in hold _=>simp (disch:=omega) only [go_sem])|refine Stp.go ?_|(with_reducible first|refine it_pos rfl ?_|refine it_neg (by decide) ?_|refine st_nil rfl ?_|refine s_op ?_ ?_|exact trivial)|((with_reducible first|refine dw_reg0 ?_|refine dw_regB ?_);(conv=>arg 3;whnf))|(refine Spl.go (fun hq he=>?_) (fun hq he=>?_)<;>first|(exfalso;clear hq;omega)|((try first|(conv=>arg 8;simp only [hq])|(conv=>arg 4;simp only [hq]));clear hq))|((with_reducible first|refine c_split (fun hq=>?_) (fun hq=>?_)|refine q_split (fun hq=>?_) (fun hq=>?_))<;>(try first|(conv=>arg 8;simp only [hq])|(conv=>arg 4;simp only [hq])))|(with_reducible refine fin_0 ?_ (by first|rfl|(conv=>lhs;simp only [go_sem])) ?_)|exact Sub.refl _|omega)
 ·subst hq; exact Sub.refl _
 ·subst hq; exact Sub.refl _
theorem does_kidsOf (k : Int) : Does Tryz.prog 181 [] [I k] (I (kidsN k)) []:=by
 refine does0 c_Z143 mixed (Nat.le_of_ble_eq_true rfl) ?_
 conv=>arg 3; whnf
 repeat' (first|with_reducible refine acc_none ?_ | (conv in hold _=>simp (disch:=omega) only [go_sem])|refine Stp.go ?_|(with_reducible first|refine it_pos rfl ?_|refine it_neg (by decide) ?_|refine st_nil rfl ?_|refine s_op ?_ ?_|exact trivial)|((with_reducible first|refine dw_reg0 ?_|refine dw_regB ?_);(conv=>arg 3;whnf))|(refine Spl.go (fun hq he=>?_) (fun hq he=>?_)<;>first|(exfalso;clear hq;omega)|((try first|(conv=>arg 8;simp only [hq])|(conv=>arg 4;simp only [hq]));clear hq))|((with_reducible first|refine c_split (fun hq=>?_) (fun hq=>?_)|refine q_split (fun hq=>?_) (fun hq=>?_))<;>(try first|(conv=>arg 8;simp only [hq])|(conv=>arg 4;simp only [hq])))|(with_reducible refine fin_0 ?_ (by first|rfl|(conv=>lhs;simp only [go_sem])) ?_)|exact Sub.refl _|omega)
 all_goals (refine Sub.of_eq ?_; unfold kidsN; congr 2; omega)
end Go.Proofs.YtgpdmgaemhelgaaGreat
set_option maxHeartbeats 4000000
set_option maxRecDepth 100000
set_option linter.unusedVariables false
set_option linter.unusedSimpArgs false
namespace Go.Proofs.YtgpdmgaemhelgaaGreat
open Go.RowKit
def zE : E:=.mk 0 0 ⟨false,0⟩ []
mutual
def subE (bs : List E) : E → E
 | .mk k c v ks=>if k = 1 then bs.getD c.toNat zE else .mk k c v (subL bs ks)
def subL (bs : List E) : List E → List E
 | []=>[]
 | e :: l=>subE bs e :: subL bs l
end
def visE (bs : List E) (e : E) : E:=if e.k = 1 then bs.getD e.c.toNat zE else e
theorem subL_map (bs : List E) : ∀ l : List E,subL bs l = l.map (subE bs)
 | []=>rfl
 | e :: l=>by rw [subL,subL_map bs l]; rfl
theorem subE_vis (bs : List E) (e : E) : subE bs e = visE bs (.mk e.k e.c e.v (subL bs e.ks)):=by cases e; rfl
theorem subE_col {bs : List E} {e b : E} (hk : e.k = 1) (hb : bs[e.c.toNat]? = some b) : subE bs e = b:=by
 rw [subE_vis,visE,E.k_mk,if_pos hk,E.c_mk,List.getD_eq_getElem?_getD,hb]
 rfl
theorem subE_no {bs : List E} {e : E} (hk : ¬ e.k = 1) : subE bs e = .mk e.k e.c e.v (subL bs e.ks):=by
 rw [subE_vis,visE,E.k_mk,if_neg hk]
theorem esz_pos (e : E) : 1 ≤ esz e:=by rw [esz_eq]; omega
theorem eszL_mul {M : Nat} {f : E → E} : ∀ l : List E,(∀ x,x ∈ l → esz (f x) ≤ esz x * M) → eszL (l.map f) ≤ eszL l * M
 | [],_=>Nat.zero_le _
 | e :: l,h=>by
  have h1:=h e (List.mem_cons_self ..)
  have h2:=eszL_mul l (fun x hx=>h x (List.mem_cons_of_mem _ hx))
  rw [List.map_cons,eszL,eszL,Nat.add_mul]
  omega
theorem esz_subE {bs : List E} {M : Nat} (hM : 1 ≤ M) (hb : ∀ b,b ∈ bs → esz b ≤ M) : ∀ e : E,esz (subE bs e) ≤ esz e * M:=by
 refine E.ind (fun e ih=>?_)
 by_cases hk : e.k = 1
 ·have h1 : esz (subE bs e) ≤ M:=by
   rw [subE_vis,visE,E.k_mk,if_pos hk,E.c_mk,List.getD_eq_getElem?_getD]
   cases hc : bs[e.c.toNat]? with
   | none=>exact hM
   | some b=>exact hb b (List.mem_of_getElem? hc)
  have h2:=Nat.mul_le_mul_right M (esz_pos e)
  omega
 ·rw [subE_no hk,esz_eq,E.ks_mk,esz_eq,subL_map,Nat.add_mul]
  have:=eszL_mul e.ks ih
  omega
end Go.Proofs.YtgpdmgaemhelgaaGreat
set_option maxHeartbeats 4000000
set_option maxRecDepth 100000
namespace Go.Proofs.YtgpdmgaemhelgaaGreat
open Go.RowKit
theorem newReader_ok (bs : List Nat) : Does Tryz.prog 48 [] [bytesD bs] (.ref 1000000 0) [rdD (bs.take 2000) 0]:=by
 refine does c_Z103 mixed (Nat.le_of_ble_eq_true rfl) 0 rfl ?_
 conv=>arg 3; whnf
 repeat' (first|with_reducible refine acc_none ?_ | (conv in hold _=>simp (disch:=omega) only [go_sem,bytesD])|refine Stp.go ?_|(with_reducible first|refine it_pos rfl ?_|refine it_neg (by decide) ?_|refine st_nil rfl ?_|refine s_op ?_ ?_|exact trivial)|((with_reducible first|refine dw_reg0 ?_|refine dw_regB ?_);(conv=>arg 3;whnf))|(refine Spl.go (fun hq he=>?_) (fun hq he=>?_)<;>first|(exfalso;clear hq;omega)|((try first|(conv=>arg 8;simp only [hq])|(conv=>arg 4;simp only [hq]));clear hq))|((with_reducible first|refine c_split (fun hq=>?_) (fun hq=>?_)|refine q_split (fun hq=>?_) (fun hq=>?_))<;>(try first|(conv=>arg 8;simp only [hq])|(conv=>arg 4;simp only [hq])))|(with_reducible refine fin_0 ?_ (by first|rfl|(conv=>lhs;simp only [go_sem,bytesD])) ?_)|exact Sub.refl _|omega)
 ·refine fin_L [2000010] ?_ ?_ rfl ?_
  repeat' (first|(conv in hold _=>simp (disch:=omega) only [go_sem,bytesD])|exact trivial|exact Sub.refl _|omega)
  rw [List.map_take]; rfl
 ·have e : bs.take 2000 = bs:=List.take_of_length_le (by omega)
  rw [e]
  refine fin_L [2000010] ?_ ?_ rfl ?_
  repeat' (first|(conv in hold _=>simp (disch:=omega) only [go_sem,bytesD])|exact trivial|exact Sub.refl _|omega)
  rfl
theorem pick_ok {bs : List Nat} (hs : Src bs) (p : Nat) (hp : p < 1000000000) (n : Int) (hn : n < 1000000000) :
  ∃ v : Int,Does Tryz.prog 65 [rdD bs p] [.ref 1000000 0,I n] (I v) [rdD bs (p + 1)] ∧ 0 ≤ v ∧ (1 ≤ n → v < n) ∧ (n < 1 → v = 0):=by
 have hbs:=hs.byte
 have hl:=hs.len
 have hat : ∀ k : Nat,k < bs.length → ∃ b : Nat,bs[k]? = some b ∧ b < 256:=fun k hk=>⟨bs[k],List.getElem?_eq_getElem hk,hbs _ (List.getElem_mem hk)⟩
 by_cases hn1 : n < 1
 ·refine ⟨0,?_,by omega,by omega,fun _=>rfl⟩
  refine Bk c_Z46 mixed 1 (go1 (cj2 @bytesD.eq_1 @rdD.eq_1) ?_)
  refine fin_L [1000000] ?_ ?_ rfl ?_
  all_goals exact Ag @bytesD.eq_1
 ·by_cases hb : bs.length = 0
  ·refine ⟨0,?_,by omega,by omega,fun _=>rfl⟩
   refine Bk c_Z46 mixed 1 (go1 (cj2 @bytesD.eq_1 @rdD.eq_1) ?_)
   refine fin_L [1000000] ?_ ?_ rfl ?_
   all_goals exact Ag @bytesD.eq_1
  ·have e : (p : Int) + 1 - 1 = p:=by omega
   by_cases hpl : p < bs.length
   ·obtain ⟨b,hb,hb2⟩:=hat p hpl
    have h1:=Int.tmod_lt_of_pos (b : Int) (show 0 < n by omega)
    have h2:=Int.tmod_nonneg n (show (0 : Int) ≤ (b : Int) by omega)
    refine ⟨(b : Int).tmod n,?_,by omega,by omega,by omega⟩
    refine Bk c_Z46 mixed 1 (go1 (cj5 @bytesD.eq_1 @rdD.eq_1 @e @hb @byteD.eq_1) ?_)
    refine fin_L [1000000] ?_ ?_ rfl ?_
    all_goals exact Ag @bytesD.eq_1
   ·have hl1:=Int.tmod_lt_of_pos (p : Int) (show (0 : Int) < bs.length by omega)
    have hl2:=Int.tmod_nonneg bs.length (show (0 : Int) ≤ p by omega)
    have hm1:=Int.tmod_lt_of_pos ((p : Int) * 7 + 3) (show (0 : Int) < bs.length by omega)
    have hm2:=Int.tmod_nonneg bs.length (show (0 : Int) ≤ (p : Int) * 7 + 3 by omega)
    obtain ⟨b1,hb1,hb1'⟩:=hat ((p : Int).tmod bs.length).toNat (by omega)
    obtain ⟨b2,hb2,hb2'⟩:=hat (((p : Int) * 7 + 3).tmod bs.length).toNat (by omega)
    have hd1 : (0 : Int) ≤ (p : Int).tdiv bs.length:=Int.tdiv_nonneg (by omega) (by omega)
    have hd2 : (p : Int).tdiv bs.length ≤ p:=Int.tdiv_le_self _ (by omega)
    have hx0 : (0 : Int) ≤ (b1 : Int) * 131 + (b2 : Int) * 1117 + (p : Int) * 29 + (p : Int).tdiv bs.length * 53:=by omega
    have hx1 : (b1 : Int) * 131 + (b2 : Int) * 1117 + (p : Int) * 29 + (p : Int).tdiv bs.length * 53 < 1099511627776:=by omega
    have hy0 : (0 : Int) ≤ ((b1 : Int) * 131 + (b2 : Int) * 1117 + (p : Int) * 29 + (p : Int).tdiv bs.length * 53).tdiv 64:=Int.tdiv_nonneg hx0 (by omega)
    have hy1 : ((b1 : Int) * 131 + (b2 : Int) * 1117 + (p : Int) * 29 + (p : Int).tdiv bs.length * 53).tdiv 64 ≤ (b1 : Int) * 131 + (b2 : Int) * 1117 + (p : Int) * 29 + (p : Int).tdiv bs.length * 53:=Int.tdiv_le_self _ hx0
    have hw : IntKind.i64.wrap (((b1 : Int) * 131 + (b2 : Int) * 1117 + (p : Int) * 29 + (p : Int).tdiv bs.length * 53).tdiv 64) = ((b1 : Int) * 131 + (b2 : Int) * 1117 + (p : Int) * 29 + (p : Int).tdiv bs.length * 53).tdiv 64:=wrap64 (by omega) (by omega)
    have hxr:=xor_range hx0 hx1 hy0 (by omega)
    refine ⟨(intBit .xor .i64 ((b1 : Int) * 131 + (b2 : Int) * 1117 + (p : Int) * 29 + (p : Int).tdiv bs.length * 53) (((b1 : Int) * 131 + (b2 : Int) * 1117 + (p : Int) * 29 + (p : Int).tdiv bs.length * 53).tdiv 64)).tmod n,?_,Int.tmod_nonneg n hxr,fun h=>Int.tmod_lt_of_pos _ (by omega),fun h=>by omega⟩
    refine Bk c_Z46 mixed 1 (go1 (cj7 @bytesD.eq_1 @rdD.eq_1 @e @hb1 @hb2 @byteD.eq_1 @hw) ?_)
    refine fin_L [1000000] ?_ ?_ rfl ?_
    all_goals exact Ag @bytesD.eq_1
theorem one_ok {bs : List Nat} (hs : Src bs) (p : Nat) (hp : p < 1000000000) (xs : List Int) (hx : 0 < xs.length) (hxl : xs.length < 1000) :
  ∃ v : Int,Does Tryz.prog 82 [rdD bs p] [.ref 1000000 0,.sl 1 (xs.map I)] (I v) [rdD bs (p + 1)] ∧ v ∈ xs:=by
 obtain ⟨k,hk,h0,h1,_⟩:=pick_ok hs p hp xs.length (by omega)
 have h1:=h1 (by omega)
 have hkx : k.toNat < xs.length:=by omega
 have e:=List.getElem?_eq_getElem hkx
 refine ⟨xs[k.toNat],?_,List.getElem_mem hkx⟩
 refine Bk c_Z66 mixed 1 (go1 trivial ?_)
 refine c_doesR [1000000] (hk) (callOK_of rfl (Nat.le_of_ble_eq_true rfl) rfl ?_ ?_) ?_ ?_
 ·repeat' (first|(conv in hold _=>simp (disch:=omega) only [go_sem,rdD,List.getElem?_map,e,Option.map_some])|exact trivial|exact Sub.refl _|omega)
 ·repeat' (first|(conv in hold _=>simp (disch:=omega) only [go_sem,rdD,List.getElem?_map,e,Option.map_some])|exact trivial|exact Sub.refl _|omega)
 ·((conv=>rhs;simp (disch:=omega) only [go_sem,rdD,List.getElem?_map,e,Option.map_some]); try rfl)
 repeat' (first|with_reducible refine acc_none ?_ | (conv in hold _=>simp (disch:=omega) only [go_sem,rdD,List.getElem?_map,e,Option.map_some])|refine Stp.go ?_|(with_reducible first|refine it_pos rfl ?_|refine it_neg (by decide) ?_|refine st_nil rfl ?_|refine s_op ?_ ?_|exact trivial)|((with_reducible first|refine dw_reg0 ?_|refine dw_regB ?_);(conv=>arg 3;whnf))|(refine Spl.go (fun hq he=>?_) (fun hq he=>?_)<;>first|(exfalso;clear hq;omega)|((try first|(conv=>arg 8;simp only [hq])|(conv=>arg 4;simp only [hq]));clear hq))|((with_reducible first|refine c_split (fun hq=>?_) (fun hq=>?_)|refine q_split (fun hq=>?_) (fun hq=>?_))<;>(try first|(conv=>arg 8;simp only [hq])|(conv=>arg 4;simp only [hq])))|(with_reducible refine fin_0 ?_ (by first|rfl|(conv=>lhs;simp only [go_sem,rdD,List.getElem?_map,e,Option.map_some])) ?_)|exact Sub.refl _|omega)
 refine fin_L [1000000] ?_ ?_ rfl ?_
 all_goals exact Ag trivial
end Go.Proofs.YtgpdmgaemhelgaaGreat
set_option maxHeartbeats 4000000
set_option maxRecDepth 100000
set_option linter.unusedVariables false
set_option linter.unusedSimpArgs false
namespace Go.Proofs.YtgpdmgaemhelgaaGreat
open Go.RowKit
theorem eszL_sum : ∀ l : List E,eszL l = (l.map esz).sum
 | []=>rfl
 | e :: l=>by rw [eszL,eszL_sum l]; rfl
def holeE (e : E) (g n : Nat) : D:=.agg [I e.k,I e.c,Bo e.v.b,I e.v.n,.own g 5 n]
theorem holeE_ren (e : E) (g n : Nat) (L : List Nat) (g' : Nat) (h : nameOf L g = some g') : (holeE e g n).ren L = holeE e g' n:=by
 unfold holeE
 simp only [D.ren,D.renL,h]
def trE : Tr where
 α:=E
 s:=5
 d:=eD
 ks:=E.ks
 hole:=holeE
 size:=esz
 pur e:=by rw [eD_eq]; rfl
 fr e g:=by
  unfold holeE
  simp only [D.frz,D.frzL,List.length_map,Nat.le_refl,and_self,if_true]
  rw [take_all,eD_eq]
 ren:=holeE_ren
 one e:=by rw [esz_eq]; omega
 sum e:=by rw [esz_eq,eszL_sum]; exact Nat.le_refl _
theorem set_ren (R : List Nat) (es : List E) (i : Nat) (d : D) : D.renL R ((es.map eD).set i d) = (es.map eD).set i (d.ren R):=by
 rw [D.renL_map,List.map_set,← D.renL_map,exprs_ren]
theorem cloneKids_ok (es : List E) (h0 : 0 < es.length) (hl : es.length < 1000000) : Does Tryz.prog 90 [] [.sl 5 (es.map eD)] (.own 1000000 5 es.length) [.row 5 (es.map eD)]:=by
 refine Bk c_Z1 mixed 0 (go1 trivial ?_)
 refine fin_L [2000007] ?_ ?_ rfl ?_
 all_goals exact Ag trivial
theorem pre_raw {σ : Env} {t : Nat} {a : Option Addr} {c : Nat} (s : Nat) (ht : t < nb) (hr : σ t = .v (.slice a 0 c)) : PreOK σ [(t,.sl s [])] [t] [t]:=by
 refine ⟨fun p hpp=>by obtain rfl:=List.mem_singleton.1 hpp; exact List.mem_singleton.2 rfl,fun G τ ac x hag hR=>?_⟩
 obtain ⟨hd,F,m,h⟩:=hR
 have h1:=h.slots t ht
 rw [hag t (List.mem_singleton.2 rfl),hr] at h1
 refine ⟨hd,F,m,h.recast ht (fun _ _ _ _ he=>by cases he) ?_⟩
 generalize ac.tmps.getD t undef = y at h1
 cases h1 with
 | v _ _=>exact .sl0 m s a c
theorem bne_tf : (true != false) = true:=rfl
theorem bne_ff : (false != false) = false:=rfl
theorem cloneRaw_ok (a : Option Addr) (c : Nat) : Does Tryz.prog 90 [] [.v (.slice a 0 c)] (.sl 5 []) []:=by
 cases a with
 | none=>
  refine does0 c_Z1 mixed (Nat.le_of_ble_eq_true rfl) ?_
  conv=>arg 3; whnf
  repeat' (first|with_reducible refine acc_none ?_ | (conv in hold _=>simp (disch:=omega) only [go_sem,Option.isNone_none,bne_tf])|refine Stp.go ?_|(with_reducible first|refine it_pos rfl ?_|refine it_neg (by decide) ?_|refine st_nil rfl ?_|refine s_op ?_ ?_|exact trivial)|((with_reducible first|refine dw_reg0 ?_|refine dw_regB ?_);(conv=>arg 3;whnf))|(refine Spl.go (fun hq he=>?_) (fun hq he=>?_)<;>first|(exfalso;clear hq;omega)|((try first|(conv=>arg 8;simp only [hq])|(conv=>arg 4;simp only [hq]));clear hq))|((with_reducible first|refine c_split (fun hq=>?_) (fun hq=>?_)|refine q_split (fun hq=>?_) (fun hq=>?_))<;>(try first|(conv=>arg 8;simp only [hq])|(conv=>arg 4;simp only [hq])))|(with_reducible refine fin_0 ?_ (by first|rfl|(conv=>lhs;simp only [go_sem,Option.isNone_none,bne_tf])) ?_)|exact Sub.refl _|omega)
  exact Sub.nul 5
 | some A=>
  refine Bg c_Z1 mixed (go1R trivial ?_)
  (with_reducible first | refine dw_reg0 ?_ | refine dw_regB ?_)
  conv=>arg 3; whnf
  refine go1R trivial ?_
  (with_reducible first | refine dw_reg0 ?_ | refine dw_regB ?_)
  conv=>arg 3; whnf
  repeat' ((fail_if_success (with_reducible first | refine dw_reg0 ?_ | refine dw_regB ?_)); first | with_reducible refine acc_none ?_ | (conv in hold _=>simp (disch:=omega) only [go_sem,Option.isNone_some,bne_ff])|refine Stp.go ?_|(with_reducible first|refine it_pos rfl ?_|refine it_neg (by decide) ?_|refine st_nil rfl ?_|refine s_op ?_ ?_|exact trivial)|((with_reducible first|refine dw_reg0 ?_|refine dw_regB ?_);(conv=>arg 3;whnf))|(refine Spl.go (fun hq he=>?_) (fun hq he=>?_)<;>first|(exfalso;clear hq;omega)|((try first|(conv=>arg 8;simp only [hq])|(conv=>arg 4;simp only [hq]));clear hq))|((with_reducible first|refine c_split (fun hq=>?_) (fun hq=>?_)|refine q_split (fun hq=>?_) (fun hq=>?_))<;>(try first|(conv=>arg 8;simp only [hq])|(conv=>arg 4;simp only [hq])))|(with_reducible refine fin_0 ?_ (by first|rfl|(conv=>lhs;simp only [go_sem,Option.isNone_some,bne_ff])) ?_)|exact Sub.refl _|omega)
  (with_reducible first | refine dw_reg0 ?_ | refine dw_regB ?_)
  conv=>arg 3; whnf
  refine Stp.go ?_
  refine s_pre (pre_raw (t:=0) 5 (by decide) rfl) ?_
  refine go1F trivial ?_
  refine fin_wk (wk_frz 2 2000007 (by decide) (by decide) rfl ?_) ?_
  rotate_left
  (conv in hold _=>simp (disch:=omega) only [go_sem])
  ·refine fin_L [] ?_ ?_ rfl ?_
   all_goals exact Ag trivial
  ·rfl
theorem cloneNone_ok : Does Tryz.prog 90 [] [.sl 5 []] (.sl 5 []) []:=by
 intro w F m xs hxl hHle hwf hfz hblk hnone hinj
 match xs,hxl with
 | [x],_=>
  have h0:=hfz 0 _ x rfl rfl
  have hx : ∃ a c,x = .slice a 0 c:=by
   cases h0 with
   | sl0 _ _ a c=>exact ⟨_,_,rfl⟩
   | sl _ _ _ b off c=>exact ⟨_,_,rfl⟩
  obtain ⟨a,c,rfl⟩:=hx
  refine cloneRaw_ok a c w F m [.slice a 0 c] rfl hHle hwf (fun i d y hd hy=>?_) hblk hnone hinj
  match i with
  | 0=>
   obtain rfl : D.v (.slice a 0 c) = d:=by simpa using hd
   obtain rfl : Value.slice a 0 c = y:=by simpa using hy
   exact .v m _
  | i + 1=>simp at hd
theorem ck_ok (es : List E) (i : Nat) (e : E) (hi : es[i]? = some e) (h0 : 0 < e.ks.length) (hl : e.ks.length < 1000000) : Does Tryz.prog 135 [.row 5 (es.map eD)] [.eref 1000000 5 i 0] (.own 1000001 5 e.ks.length) [.row 5 ((es.map eD).set i (holeE e 1000001 e.ks.length)),.row 5 (e.ks.map eD)]:=by
 have hc:=cloneKids_ok e.ks h0 hl
 have hlt:=(List.getElem?_eq_some_iff.1 hi).1
 have hset : ∀ x : D,((es.map eD).set i x)[i]? = some x:=fun x=>by rw [List.getElem?_set_self (by rw [List.length_map]; exact hlt)]
 refine Bk c_Z51 mixed 1 (go1 @hi ?_)
 refine UcR [3000001] (cj2 @hi @hset) (hc) (go1 (cj2 @hi @hset) ?_)
 refine fin_L [1000000,3000001] ?_ ?_ rfl ?_
 all_goals exact Ag (cj2 @set_ren @holeE.eq_1)
theorem ck0_ok (es : List E) (i : Nat) (e : E) (hi : es[i]? = some e) (h0 : e.ks = []) : Does Tryz.prog 135 [.row 5 (es.map eD)] [.eref 1000000 5 i 0] (.sl 5 []) [.row 5 (es.map eD)]:=by
 have hc:=cloneNone_ok
 have hlt:=(List.getElem?_eq_some_iff.1 hi).1
 have hset : ∀ x : D,((es.map eD).set i x)[i]? = some x:=fun x=>by rw [List.getElem?_set_self (by rw [List.length_map]; exact hlt)]
 have hes : (es.map eD).set i (.agg [I e.k,I e.c,Bo e.v.b,I e.v.n,.sl 5 []]) = es.map eD:=by
  refine List.ext_getElem? fun j=>?_
  rw [List.getElem?_set]
  split
  ·rename_i h
   subst h
   rw [List.length_map,if_pos hlt,List.getElem?_map,hi,Option.map_some,eD_eq,h0]
   rfl
  ·rfl
 refine does c_Z51 mixed (Nat.le_of_ble_eq_true rfl) 1 rfl ?_
 conv=>arg 3; whnf
 repeat' (first|with_reducible refine acc_none ?_ | (conv in hold _=>simp (disch:=omega) only [go_sem,List.getElem?_map,hi,Option.map_some,List.length_map,h0,List.map_nil])|refine Stp.go ?_|(with_reducible first|refine it_pos rfl ?_|refine it_neg (by decide) ?_|refine st_nil rfl ?_|refine s_op ?_ ?_|exact trivial)|((with_reducible first|refine dw_reg0 ?_|refine dw_regB ?_);(conv=>arg 3;whnf))|(refine Spl.go (fun hq he=>?_) (fun hq he=>?_)<;>first|(exfalso;clear hq;omega)|((try first|(conv=>arg 8;simp only [hq])|(conv=>arg 4;simp only [hq]));clear hq))|((with_reducible first|refine c_split (fun hq=>?_) (fun hq=>?_)|refine q_split (fun hq=>?_) (fun hq=>?_))<;>(try first|(conv=>arg 8;simp only [hq])|(conv=>arg 4;simp only [hq])))|(with_reducible refine fin_0 ?_ (by first|rfl|(conv=>lhs;simp only [go_sem,List.getElem?_map,hi,Option.map_some,List.length_map,h0,List.map_nil])) ?_)|exact Sub.refl _|omega)
 refine Uc (cj2 @hi @hset) (hc) (go1 (cj2 @hi @hset) ?_)
 refine fin_L [1000000] ?_ ?_ rfl ?_
 all_goals exact Ag @hes
end Go.Proofs.YtgpdmgaemhelgaaGreat
