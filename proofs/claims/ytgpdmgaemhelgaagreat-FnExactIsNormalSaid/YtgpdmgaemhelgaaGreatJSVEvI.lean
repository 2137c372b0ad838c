/-
  Small functions of the expression seat do what they say.
-/
import Derived.Test.YtgpdmgaemhelgaaGreatKSDca
import Derived.Test.YtgpdmgaemhelgaaGreatJSVGo
import Derived.Test.YtgpdmgaemhelgaaGreatJSVFrzB
import Derived.Test.YtgpdmgaemhelgaaGreatJSDch
import Derived.Test.YtgpdmgaemhelgaaGreatJSVClB
import Derived.Test.YtgpdmgaemhelgaaGreatJSDck
import Derived.Test.YtgpdmgaemhelgaaGreatJSVVa
namespace Go.Proofs.YtgpdmgaemhelgaaGreat
open Go.RowKit
theorem does_toInt (b : Bool) : Does Tryz.prog 216 [] [.v (.bool b)] (.v (.int .i64 (if b then 1 else 0))) []:=by
 refine does0 c_Z156 mixed (Nat.le_of_ble_eq_true rfl) ?_
 conv=>arg 3; whnf
 repeat' (first|with_reducible refine acc_none ?_ | (conv in hold _=>simp (disch:=omega) only [go_sem])|refine Stp.go ?_|(with_reducible first|refine it_pos rfl ?_|refine it_neg (by decide) ?_|refine st_nil rfl ?_|refine s_op ?_ ?_|exact trivial)|((with_reducible first|refine dw_reg0 ?_|refine dw_regB ?_);(conv=>arg 3;whnf))|(refine Spl.go (fun hq he=>?_) (fun hq he=>?_)<;>first|(exfalso;clear hq;omega)|((try first|(conv=>arg 8;simp only [hq])|(conv=>arg 4;simp only [hq]));clear hq))|((with_reducible first|refine c_split (fun hq=>?_) (fun hq=>?_)|refine q_split (fun hq=>?_) (fun hq=>?_))<;>(try first|(conv=>arg 8;simp only [hq])|(conv=>arg 4;simp only [hq])))|(with_reducible refine fin_0 ?_ (by first|rfl|(conv=>lhs;simp only [go_sem])) ?_)|exact Sub.refl _|omega)
 ·subst hq; exact Sub.refl _
 ·subst hq; exact Sub.refl _
theorem does_kidsOf (k : Int) : Does Tryz.prog 181 [] [I k] (I (kidsN k)) []:=by
 refine does0 c_Z150 mixed (Nat.le_of_ble_eq_true rfl) ?_
 conv=>arg 3; whnf
 repeat' (first|with_reducible refine acc_none ?_ | (conv in hold _=>simp (disch:=omega) only [go_sem])|refine Stp.go ?_|(with_reducible first|refine it_pos rfl ?_|refine it_neg (by decide) ?_|refine st_nil rfl ?_|refine s_op ?_ ?_|exact trivial)|((with_reducible first|refine dw_reg0 ?_|refine dw_regB ?_);(conv=>arg 3;whnf))|(refine Spl.go (fun hq he=>?_) (fun hq he=>?_)<;>first|(exfalso;clear hq;omega)|((try first|(conv=>arg 8;simp only [hq])|(conv=>arg 4;simp only [hq]));clear hq))|((with_reducible first|refine c_split (fun hq=>?_) (fun hq=>?_)|refine q_split (fun hq=>?_) (fun hq=>?_))<;>(try first|(conv=>arg 8;simp only [hq])|(conv=>arg 4;simp only [hq])))|(with_reducible refine fin_0 ?_ (by first|rfl|(conv=>lhs;simp only [go_sem])) ?_)|exact Sub.refl _|omega)
 all_goals (refine Sub.of_eq ?_; unfold kidsN; congr 2; omega)
end Go.Proofs.YtgpdmgaemhelgaaGreat
set_option maxHeartbeats 4000000
set_option maxRecDepth 100000
set_option linter.unusedVariables false
set_option linter.unusedSimpArgs false
namespace Go.Proofs.YtgpdmgaemhelgaaGreat
open Go.RowKit
def zE : E:=.mk 0 0 ⟨false,0⟩ []
mutual
def subE (bs : List E) : E → E
 | .mk k c v ks=>if k = 1 then bs.getD c.toNat zE else .mk k c v (subL bs ks)
def subL (bs : List E) : List E → List E
 | []=>[]
 | e :: l=>subE bs e :: subL bs l
end
def visE (bs : List E) (e : E) : E:=if e.k = 1 then bs.getD e.c.toNat zE else e
theorem subL_map (bs : List E) : ∀ l : List E,subL bs l = l.map (subE bs)
 | []=>rfl
 | e :: l=>by rw [subL,subL_map bs l]; rfl
theorem subE_vis (bs : List E) (e : E) : subE bs e = visE bs (.mk e.k e.c e.v (subL bs e.ks)):=by cases e; rfl
theorem subE_col {bs : List E} {e b : E} (hk : e.k = 1) (hb : bs[e.c.toNat]? = some b) : subE bs e = b:=by
 rw [subE_vis,visE,E.k_mk,if_pos hk,E.c_mk,List.getD_eq_getElem?_getD,hb]
 rfl
theorem subE_no {bs : List E} {e : E} (hk : ¬ e.k = 1) : subE bs e = .mk e.k e.c e.v (subL bs e.ks):=by
 rw [subE_vis,visE,E.k_mk,if_neg hk]
theorem esz_pos (e : E) : 1 ≤ esz e:=by rw [esz_eq]; omega
theorem eszL_mul {M : Nat} {f : E → E} : ∀ l : List E,(∀ x,x ∈ l → esz (f x) ≤ esz x * M) → eszL (l.map f) ≤ eszL l * M
 | [],_=>Nat.zero_le _
 | e :: l,h=>by
  have h1:=h e (List.mem_cons_self ..)
  have h2:=eszL_mul l (fun x hx=>h x (List.mem_cons_of_mem _ hx))
  rw [List.map_cons,eszL,eszL,Nat.add_mul]
  omega
theorem esz_subE {bs : List E} {M : Nat} (hM : 1 ≤ M) (hb : ∀ b,b ∈ bs → esz b ≤ M) : ∀ e : E,esz (subE bs e) ≤ esz e * M:=by
 refine E.ind (fun e ih=>?_)
 by_cases hk : e.k = 1
 ·have h1 : esz (subE bs e) ≤ M:=by
   rw [subE_vis,visE,E.k_mk,if_pos hk,E.c_mk,List.getD_eq_getElem?_getD]
   cases hc : bs[e.c.toNat]? with
   | none=>exact hM
   | some b=>exact hb b (List.mem_of_getElem? hc)
  have h2:=Nat.mul_le_mul_right M (esz_pos e)
  omega
 ·rw [subE_no hk,esz_eq,E.ks_mk,esz_eq,subL_map,Nat.add_mul]
  have:=eszL_mul e.ks ih
  omega
end Go.Proofs.YtgpdmgaemhelgaaGreat
set_option maxHeartbeats 4000000
set_option maxRecDepth 100000
namespace Go.Proofs.YtgpdmgaemhelgaaGreat
open Go.RowKit
structure V.near (v : V) : Prop where
 lo : -10000 ≤ v.n
 hi : v.n ≤ 10000
end Go.Proofs.YtgpdmgaemhelgaaGreat
set_option maxHeartbeats 4000000
set_option maxRecDepth 100000
set_option linter.unusedVariables false
set_option linter.unusedSimpArgs false
namespace Go.Proofs.YtgpdmgaemhelgaaGreat
open Go.RowKit
theorem eszL_sum : ∀ l : List E,eszL l = (l.map esz).sum
 | []=>rfl
 | e :: l=>by rw [eszL,eszL_sum l]; rfl
def holeE (e : E) (g n : Nat) : D:=.agg [I e.k,I e.c,Bo e.v.b,I e.v.n,.own g 5 n]
theorem holeE_ren (e : E) (g n : Nat) (L : List Nat) (g' : Nat) (h : nameOf L g = some g') : (holeE e g n).ren L = holeE e g' n:=by
 unfold holeE
 simp only [D.ren,D.renL,h]
def trE : Tr where
 α:=E
 s:=5
 d:=eD
 ks:=E.ks
 hole:=holeE
 size:=esz
 pur e:=by rw [eD_eq]; rfl
 fr e g:=by
  unfold holeE
  simp only [D.frz,D.frzL,List.length_map,Nat.le_refl,and_self,if_true]
  rw [take_all,eD_eq]
 ren:=holeE_ren
 one e:=by rw [esz_eq]; omega
 sum e:=by rw [esz_eq,eszL_sum]; exact Nat.le_refl _
theorem set_ren (R : List Nat) (es : List E) (i : Nat) (d : D) : D.renL R ((es.map eD).set i d) = (es.map eD).set i (d.ren R):=by
 rw [D.renL_map,List.map_set,← D.renL_map,exprs_ren]
theorem cloneKids_ok (es : List E) (h0 : 0 < es.length) (hl : es.length < 1000000) : Does Tryz.prog 90 [] [.sl 5 (es.map eD)] (.own 1000000 5 es.length) [.row 5 (es.map eD)]:=by
 refine Bk c_Z2 mixed 0 (go1 trivial ?_)
 refine fin_L [2000007] ?_ ?_ rfl ?_
 repeat' (first|(conv in hold _=>simp (disch:=omega) only [go_sem])|exact trivial|exact Sub.refl _|omega)
theorem pre_raw {σ : Env} {t : Nat} {a : Option Addr} {c : Nat} (s : Nat) (ht : t < nb) (hr : σ t = .v (.slice a 0 c)) : PreOK σ [(t,.sl s [])] [t] [t]:=by
 refine ⟨fun p hpp=>by obtain rfl:=List.mem_singleton.1 hpp; exact List.mem_singleton.2 rfl,fun G τ ac x hag hR=>?_⟩
 obtain ⟨hd,F,m,h⟩:=hR
 have h1:=h.slots t ht
 rw [hag t (List.mem_singleton.2 rfl),hr] at h1
 refine ⟨hd,F,m,h.recast ht (fun _ _ _ _ he=>by cases he) ?_⟩
 generalize ac.tmps.getD t undef = y at h1
 cases h1 with
 | v _ _=>exact .sl0 m s a c
theorem bne_tf : (true != false) = true:=rfl
theorem bne_ff : (false != false) = false:=rfl
theorem cloneRaw_ok (a : Option Addr) (c : Nat) : Does Tryz.prog 90 [] [.v (.slice a 0 c)] (.sl 5 []) []:=by
 cases a with
 | none=>
  refine does0 c_Z2 mixed (Nat.le_of_ble_eq_true rfl) ?_
  conv=>arg 3; whnf
  repeat' (first|with_reducible refine acc_none ?_ | (conv in hold _=>simp (disch:=omega) only [go_sem,Option.isNone_none,bne_tf])|refine Stp.go ?_|(with_reducible first|refine it_pos rfl ?_|refine it_neg (by decide) ?_|refine st_nil rfl ?_|refine s_op ?_ ?_|exact trivial)|((with_reducible first|refine dw_reg0 ?_|refine dw_regB ?_);(conv=>arg 3;whnf))|(refine Spl.go (fun hq he=>?_) (fun hq he=>?_)<;>first|(exfalso;clear hq;omega)|((try first|(conv=>arg 8;simp only [hq])|(conv=>arg 4;simp only [hq]));clear hq))|((with_reducible first|refine c_split (fun hq=>?_) (fun hq=>?_)|refine q_split (fun hq=>?_) (fun hq=>?_))<;>(try first|(conv=>arg 8;simp only [hq])|(conv=>arg 4;simp only [hq])))|(with_reducible refine fin_0 ?_ (by first|rfl|(conv=>lhs;simp only [go_sem,Option.isNone_none,bne_tf])) ?_)|exact Sub.refl _|omega)
  exact Sub.nul 5
 | some A=>
  refine Bg c_Z2 mixed (go1R trivial ?_)
  (with_reducible first | refine dw_reg0 ?_ | refine dw_regB ?_)
  conv=>arg 3; whnf
  refine go1R trivial ?_
  (with_reducible first | refine dw_reg0 ?_ | refine dw_regB ?_)
  conv=>arg 3; whnf
  repeat' ((fail_if_success (with_reducible first | refine dw_reg0 ?_ | refine dw_regB ?_)); first | with_reducible refine acc_none ?_ | (conv in hold _=>simp (disch:=omega) only [go_sem,Option.isNone_some,bne_ff])|refine Stp.go ?_|(with_reducible first|refine it_pos rfl ?_|refine it_neg (by decide) ?_|refine st_nil rfl ?_|refine s_op ?_ ?_|exact trivial)|((with_reducible first|refine dw_reg0 ?_|refine dw_regB ?_);(conv=>arg 3;whnf))|(refine Spl.go (fun hq he=>?_) (fun hq he=>?_)<;>first|(exfalso;clear hq;omega)|((try first|(conv=>arg 8;simp only [hq])|(conv=>arg 4;simp only [hq]));clear hq))|((with_reducible first|refine c_split (fun hq=>?_) (fun hq=>?_)|refine q_split (fun hq=>?_) (fun hq=>?_))<;>(try first|(conv=>arg 8;simp only [hq])|(conv=>arg 4;simp only [hq])))|(with_reducible refine fin_0 ?_ (by first|rfl|(conv=>lhs;simp only [go_sem,Option.isNone_some,bne_ff])) ?_)|exact Sub.refl _|omega)
  (with_reducible first | refine dw_reg0 ?_ | refine dw_regB ?_)
  conv=>arg 3; whnf
  refine Stp.go ?_
  refine s_pre (pre_raw (t:=0) 5 (by decide) rfl) ?_
  refine go1F trivial ?_
  refine fin_wk (wk_frz 2 2000007 (by decide) (by decide) rfl ?_) ?_
  rotate_left
  (conv in hold _=>simp (disch:=omega) only [go_sem])
  ·refine fin_L [] ?_ ?_ rfl ?_
   repeat' (first|(conv in hold _=>simp (disch:=omega) only [go_sem])|exact trivial|exact Sub.refl _|omega)
  ·rfl
theorem cloneNone_ok : Does Tryz.prog 90 [] [.sl 5 []] (.sl 5 []) []:=by
 intro w F m xs hxl hHle hwf hfz hblk hnone hinj
 match xs,hxl with
 | [x],_=>
  have h0:=hfz 0 _ x rfl rfl
  have hx : ∃ a c,x = .slice a 0 c:=by
   cases h0 with
   | sl0 _ _ a c=>exact ⟨_,_,rfl⟩
   | sl _ _ _ b off c=>exact ⟨_,_,rfl⟩
  obtain ⟨a,c,rfl⟩:=hx
  refine cloneRaw_ok a c w F m [.slice a 0 c] rfl hHle hwf (fun i d y hd hy=>?_) hblk hnone hinj
  match i with
  | 0=>
   obtain rfl : D.v (.slice a 0 c) = d:=by simpa using hd
   obtain rfl : Value.slice a 0 c = y:=by simpa using hy
   exact .v m _
  | i + 1=>simp at hd
theorem ck_ok (es : List E) (i : Nat) (e : E) (hi : es[i]? = some e) (h0 : 0 < e.ks.length) (hl : e.ks.length < 1000000) : Does Tryz.prog 135 [.row 5 (es.map eD)] [.eref 1000000 5 i 0] (.own 1000001 5 e.ks.length) [.row 5 ((es.map eD).set i (holeE e 1000001 e.ks.length)),.row 5 (e.ks.map eD)]:=by
 have hc:=cloneKids_ok e.ks h0 hl
 have hlt:=(List.getElem?_eq_some_iff.1 hi).1
 have hset : ∀ x : D,((es.map eD).set i x)[i]? = some x:=fun x=>by rw [List.getElem?_set_self (by rw [List.length_map]; exact hlt)]
 refine Bk c_Z48 mixed 1 (go1 @hi ?_)
 refine UcR [3000001] (cj2 @hi @hset) (hc) (go1 (cj2 @hi @hset) ?_)
 refine fin_L [1000000,3000001] ?_ ?_ rfl ?_
 repeat' (first|(conv in hold _=>simp (disch:=omega) only [go_sem,set_ren,holeE])|exact trivial|exact Sub.refl _|omega)
theorem ck0_ok (es : List E) (i : Nat) (e : E) (hi : es[i]? = some e) (h0 : e.ks = []) : Does Tryz.prog 135 [.row 5 (es.map eD)] [.eref 1000000 5 i 0] (.sl 5 []) [.row 5 (es.map eD)]:=by
 have hc:=cloneNone_ok
 have hlt:=(List.getElem?_eq_some_iff.1 hi).1
 have hset : ∀ x : D,((es.map eD).set i x)[i]? = some x:=fun x=>by rw [List.getElem?_set_self (by rw [List.length_map]; exact hlt)]
 have hes : (es.map eD).set i (.agg [I e.k,I e.c,Bo e.v.b,I e.v.n,.sl 5 []]) = es.map eD:=by
  refine List.ext_getElem? fun j=>?_
  rw [List.getElem?_set]
  split
  ·rename_i h
   subst h
   rw [List.length_map,if_pos hlt,List.getElem?_map,hi,Option.map_some,eD_eq,h0]
   rfl
  ·rfl
 refine does c_Z48 mixed (Nat.le_of_ble_eq_true rfl) 1 rfl ?_
 conv=>arg 3; whnf
 repeat' (first|with_reducible refine acc_none ?_ | (conv in hold _=>simp (disch:=omega) only [go_sem,List.getElem?_map,hi,Option.map_some,List.length_map,h0,List.map_nil])|refine Stp.go ?_|(with_reducible first|refine it_pos rfl ?_|refine it_neg (by decide) ?_|refine st_nil rfl ?_|refine s_op ?_ ?_|exact trivial)|((with_reducible first|refine dw_reg0 ?_|refine dw_regB ?_);(conv=>arg 3;whnf))|(refine Spl.go (fun hq he=>?_) (fun hq he=>?_)<;>first|(exfalso;clear hq;omega)|((try first|(conv=>arg 8;simp only [hq])|(conv=>arg 4;simp only [hq]));clear hq))|((with_reducible first|refine c_split (fun hq=>?_) (fun hq=>?_)|refine q_split (fun hq=>?_) (fun hq=>?_))<;>(try first|(conv=>arg 8;simp only [hq])|(conv=>arg 4;simp only [hq])))|(with_reducible refine fin_0 ?_ (by first|rfl|(conv=>lhs;simp only [go_sem,List.getElem?_map,hi,Option.map_some,List.length_map,h0,List.map_nil])) ?_)|exact Sub.refl _|omega)
 refine Uc (cj2 @hi @hset) (hc) (go1 (cj2 @hi @hset) ?_)
 refine fin_L [1000000] ?_ ?_ rfl ?_
 repeat' (first|(conv in hold _=>simp (disch:=omega) only [go_sem,hes])|exact trivial|exact Sub.refl _|omega)
end Go.Proofs.YtgpdmgaemhelgaaGreat
set_option maxHeartbeats 4000000
set_option maxRecDepth 100000
namespace Go.Proofs.YtgpdmgaemhelgaaGreat
open Go.RowKit
theorem toValue_ok (v : V) : Does Tryz.prog 151 [] [vD v] (vD v) []:=by
 exact Bg c_Z129 mixed (go0 trivial)
theorem eqValue_ok (v : V) : Does Tryz.prog 152 [] [vD v,vD v] (Bo true) []:=by
 exact Bg c_Z122 mixed (go0 trivial)
end Go.Proofs.YtgpdmgaemhelgaaGreat
set_option maxHeartbeats 4000000
set_option maxRecDepth 100000
namespace Go.Proofs.YtgpdmgaemhelgaaGreat
open Go.ChangeShapes Go.WideShapes Go.ChangeAt Go.RowKit Go.Joins Go.Deep
section
variable {H : Type} {enc : TypeId × Value → H} {W : World} {base b0 : Nat} {held : Bool} {r : Reach} {v : Value} {d : DataW H} {p : List MemPlace}
set_option maxRecDepth 100000 in
theorem trod_ints {fuel : Nat} {cs : List Value} {x : DataW H × List MemPlace} (h : DataW.trod enc Tryz.prog W base (fun _=>true) held fuel 24 cs = some x) :
  ∃ l : List Int,l.length ≤ big ∧ CellsOK W (allOf W) noNames [intsD l] cs:=by
 obtain ⟨l,_,hlen,q⟩:=slice_fz Tryz.underlying24 cells_int (by decide) I (fun _=>True) h (fun n' _ cs' x' h'=>by
  obtain ⟨m,hm⟩:=int_fz Tryz.underlying3 h'
  exact ⟨m,rfl,hm,trivial⟩)
 exact ⟨l,hlen,q⟩
def IsInts (w : World) (v : Value) (l : List Int) : Prop:=l.length ≤ big ∧ Fz w (allOf w) noNames (intsD l) v
set_option maxRecDepth 100000 in
theorem open_pints (hv : Value.okWide Tryz.prog W r b0 24 v) (h : DataW.Trod enc Tryz.prog W base (fun _=>true) held 24 v d p) (_lt : ∀ x ∈ p,x.block < W.heap.size) :
  ∃ l : List Int,IsInts W v l:=by
 obtain ⟨a0,len0,cap0,rfl⟩:=okWide_slice Tryz.underlying24 hv
 obtain ⟨fuel,hf⟩:=h
 obtain ⟨l,hlen,q⟩:=trod_ints hf
 exact ⟨l,hlen,CellsOK.fz1 q⟩
end
end Go.Proofs.YtgpdmgaemhelgaaGreat
set_option maxHeartbeats 4000000
set_option maxRecDepth 100000
namespace Go.Proofs.YtgpdmgaemhelgaaGreat
open Go.ChangeShapes Go.WideShapes Go.ChangeAt Go.RowKit Go.Joins Go.Deep
theorem cells_LV : Tryz.prog.cellsOf 137 = 2:=by kernel_rfl
section
variable {H : Type} {enc : TypeId × Value → H} {W : World} {base b0 : Nat} {held : Bool} {r : Reach} {v : Value} {d : DataW H} {p : List MemPlace}
set_option maxRecDepth 100000 in
theorem trod_Vx {fuel : Nat} {cs : List Value} {x : DataW H × List MemPlace} {spare : Nat → Bool} (h : DataW.trod enc Tryz.prog W base spare held fuel 137 cs = some x) :
  ∃ u : V,CellsOK W (allOf W) noNames [Bo u.b,I u.n] cs:=by
 obtain ⟨y0,y1,n,_,hl,h0,h1⟩:=trod_struct2 Tryz.underlying137 h
 rw [cells_LV] at hl
 match cs,hl with
 | [c0,c1],_=>
  have e0 : (Tryz.prog.cellsOf 4) = 1:=by kernel_rfl
  simp only [e0,cells_int,List.drop_zero,List.drop_succ_cons,List.take_succ_cons,List.take_zero] at h0 h1
  obtain ⟨b,q0,_⟩:=DataW.trod_bool Tryz.underlying4 h0
  obtain ⟨m,q1⟩:=int_fz Tryz.underlying3 h1
  simp only [List.cons.injEq,and_true] at q0
  subst q0
  have q : CellsOK W (allOf W) noNames [Bo b] [.bool b]:=CellsOK.intro1 rfl (.v _ _)
  exact ⟨⟨b,m⟩,q.append q1⟩
end
end Go.Proofs.YtgpdmgaemhelgaaGreat
set_option maxHeartbeats 4000000
set_option maxRecDepth 100000
namespace Go.Proofs.YtgpdmgaemhelgaaGreat
open Go.RowKit
theorem kidCount_ok (k : Int) : Does Tryz.prog 189 [] [I k] (I (kidsN k)) []:=by
 refine does0 c_Z101 mixed (Nat.le_of_ble_eq_true rfl) ?_
 conv=>arg 3; whnf
 repeat' (first|with_reducible refine acc_none ?_ | (conv in hold _=>simp (disch:=omega) only [go_sem])|refine Stp.go ?_|(with_reducible first|refine it_pos rfl ?_|refine it_neg (by decide) ?_|refine st_nil rfl ?_|refine s_op ?_ ?_|exact trivial)|((with_reducible first|refine dw_reg0 ?_|refine dw_regB ?_);(conv=>arg 3;whnf))|(refine Spl.go (fun hq he=>?_) (fun hq he=>?_)<;>first|(exfalso;clear hq;omega)|((try first|(conv=>arg 8;simp only [hq])|(conv=>arg 4;simp only [hq]));clear hq))|((with_reducible first|refine c_split (fun hq=>?_) (fun hq=>?_)|refine q_split (fun hq=>?_) (fun hq=>?_))<;>(try first|(conv=>arg 8;simp only [hq])|(conv=>arg 4;simp only [hq])))|(with_reducible refine fin_0 ?_ (by first|rfl|(conv=>lhs;simp only [go_sem])) ?_)|exact Sub.refl _|omega)
 all_goals (refine Sub.of_eq ?_; unfold kidsN; congr 2; omega)
theorem validWithin_ok (w : Int) : ∀ (e : E),(∀ d : Nat,d < 1000 → Does Tryz.prog 176 [] [eD e,I w,I d] (Bo (decide (eOk e w d))) []) ∧ Does Tryz.prog 176 [] [eD e,I w,I (-1)] (Bo false) []:=by
 refine E.ind (fun e ih=>⟨fun d hd=>?_,?_⟩)
 ·have hk2:=kidsN_le e.k
  have hk0 : e.k = 1 ∨ e.k = 2 → kidsN e.k = 0:=kidsN_leaf
  refine Bg c_Z59 mixed (go1 trivial ?_)
  refine c_doesE (kidCount_ok e.k) ?_ ?_ ?_
  ·((try (conv=>rhs;simp (disch:=omega) only [go_sem])); try rfl)
  ·first|rfl|(conv=>lhs;simp only [go_sem])
  repeat' (first|with_reducible refine acc_none ?_ | (conv in hold _=>simp (disch:=omega) only [go_sem])|refine Stp.go ?_|(with_reducible first|refine it_pos rfl ?_|refine it_neg (by decide) ?_|refine st_nil rfl ?_|refine s_op ?_ ?_|exact trivial)|((with_reducible first|refine dw_reg0 ?_|refine dw_regB ?_);(conv=>arg 3;whnf))|(refine Spl.go (fun hq he=>?_) (fun hq he=>?_)<;>first|(exfalso;clear hq;omega)|((try first|(conv=>arg 8;simp only [hq])|(conv=>arg 4;simp only [hq]));clear hq))|((with_reducible first|refine c_split (fun hq=>?_) (fun hq=>?_)|refine q_split (fun hq=>?_) (fun hq=>?_))<;>(try first|(conv=>arg 8;simp only [hq])|(conv=>arg 4;simp only [hq])))|(with_reducible refine fin_0 ?_ (by first|rfl|(conv=>lhs;simp only [go_sem])) ?_)|exact Sub.refl _|omega)
  all_goals try exact sub_f (fun h=>by rw [eOk_iff] at h; have:=h.1; omega)
  all_goals try exact sub_f (fun h=>by rw [eOk_iff] at h; have:=h.2.2.2; revert this; exact leaf2f (by omega) (by omega))
  ·have core : eOk e w d ↔ leafOk e.k e.c e.v w:=by
    rw [eOk_iff]
    exact ⟨fun h=>h.2.2.2,fun h=>⟨by omega,by omega,fun x hx=>by have:=List.length_pos_of_mem hx; omega,h⟩⟩
   by_cases hcol : 0 ≤ e.c ∧ e.c < w
   ·have hr:=isColumn_ok e.c w
    rw [decide_eq_true hcol] at hr
    refine Uc trivial (hr) (go1 trivial ?_)
    exact sub_iff ((leaf1 (by omega) (by omega)).trans core.symm)
   ·have hr:=isColumn_ok e.c w
    rw [decide_eq_false hcol] at hr
    refine Uc trivial (hr) (go1 trivial ?_)
    exact sub_f (fun h=>by rw [eOk_iff] at h; have:=h.2.2.2; revert this; exact leaf1f (by omega) (by omega))
  ·have core : eOk e w d ↔ leafOk e.k e.c e.v w:=by
    rw [eOk_iff]
    exact ⟨fun h=>h.2.2.2,fun h=>⟨by omega,by omega,fun x hx=>by have:=List.length_pos_of_mem hx; omega,h⟩⟩
   refine Uc trivial (Value_valid_ok e.v) (go1 trivial ?_)
   exact sub_iff (by rw [decide_eq_true_iff]; exact (leaf2 (by omega) (by omega)).trans core.symm)
  ·exact sub_f (fun h=>by
    rw [eOk_iff] at h
    rw [(leaf3 (by omega) (by omega) (by omega)).2 h.2.2.2] at hq
    cases hq)
  ·have hlf : leafOk e.k e.c e.v w:=(leaf3 (by omega) (by omega) (by omega)).1 (by simpa using hq)
   refine dw_for (c:=0) (l:=fun i=>[(1,I w),(2,I d),(54,.sl 5 (e.ks.map eD)),(55,I e.ks.length),(56,I i)]) e.ks.length (fun i=>∀ j x,j < i → e.ks[j]? = some x → d ≠ 0 ∧ eOk x w (d - 1)) 0 (by omega) (Wk.list [] rfl rfl ?_) (fun i hi hJ=>?_) (Nat.zero_le _)
   ·repeat' (first|(conv in hold _=>simp (disch:=omega) only [go_sem])|exact trivial|exact Sub.refl _|omega)
    exact rfl
   ·skip
    rcases at_or_end hi with ⟨x,hx,hlt⟩ | rfl
    ·have hkid : Does Tryz.prog 176 [] [eD x,I w,I ((d : Int) - 1)] (Bo (decide (d ≠ 0 ∧ eOk x w (d - 1)))) []:=by
      by_cases h0 : d = 0
      ·subst h0
       rw [decide_eq_false (fun h=>h.1 rfl)]
       exact (ih x (List.mem_of_getElem? hx)).2
      ·have:=(ih x (List.mem_of_getElem? hx)).1 (d - 1) (by omega)
       rw [show ((d - 1 : Nat) : Int) = (d : Int) - 1 by omega] at this
       rw [show decide (d ≠ 0 ∧ eOk x w (d - 1)) = decide (eOk x w (d - 1)) by simp [h0]]
       exact this
     refine go1 @hx ?_
     refine c_doesE (hkid) ?_ ?_ ?_
     ·((try (conv=>rhs;simp (disch:=omega) only [go_sem])); try rfl)
     ·first|rfl|(conv=>lhs;simp only [go_sem])
     repeat' (first|with_reducible refine acc_none ?_ | (conv in hold _=>simp (disch:=omega) only [go_sem])|refine Stp.go ?_|(with_reducible first|refine it_pos rfl ?_|refine it_neg (by decide) ?_|refine st_nil rfl ?_|refine s_op ?_ ?_|exact trivial)|((with_reducible first|refine dw_reg0 ?_|refine dw_regB ?_);(conv=>arg 3;whnf))|(refine Spl.go (fun hq he=>?_) (fun hq he=>?_)<;>first|(exfalso;clear hq;omega)|((try first|(conv=>arg 8;simp only [hq])|(conv=>arg 4;simp only [hq]));clear hq))|((with_reducible first|refine c_split (fun hq=>?_) (fun hq=>?_)|refine q_split (fun hq=>?_) (fun hq=>?_))<;>(try first|(conv=>arg 8;simp only [hq])|(conv=>arg 4;simp only [hq])))|(with_reducible refine fin_0 ?_ (by first|rfl|(conv=>lhs;simp only [go_sem])) ?_)|exact Sub.refl _|omega)
     ·exact sub_f (fun h=>by rw [eOk_iff] at h; exact he ⟨h.2.1 (by omega),h.2.2.1 x (List.mem_of_getElem? hx)⟩)
     ·refine ⟨hlt,upto_next hx hJ he,Wk.list [] rfl rfl ?_⟩
      repeat' (first|(conv in hold _=>simp (disch:=omega) only [go_sem])|exact trivial|exact Sub.refl _|omega)
    ·refine go1 trivial ?_
     refine sub_t ((eOk_iff e w d).2 ⟨by omega,fun h0=>?_,fun x hx=>(upto_all hJ x hx).2,hlf⟩)
     exact (upto_all hJ _ (List.getElem_mem h0)).1
 ·exact Bg c_Z59 mixed (go0 trivial)
theorem implValidExpr_ok (e : E) (w : Int) : Does Tryz.prog 146 [] [eD e,I w] (Bo (decide ((1 ≤ w ∧ w ≤ 6) ∧ eOk e w 8))) []:=by
 have h8:=(validWithin_ok w e).1 8 (by decide)
 refine Bg c_Z81 mixed (go1 trivial ?_)
 refine c_doesE (validWidth_ok w) ?_ ?_ ?_
 ·((try (conv=>rhs;simp (disch:=omega) only [go_sem])); try rfl)
 ·first|rfl|(conv=>lhs;simp only [go_sem])
 repeat' (first|with_reducible refine acc_none ?_ | (conv in hold _=>simp (disch:=omega) only [go_sem])|refine Stp.go ?_|(with_reducible first|refine it_pos rfl ?_|refine it_neg (by decide) ?_|refine st_nil rfl ?_|refine s_op ?_ ?_|exact trivial)|((with_reducible first|refine dw_reg0 ?_|refine dw_regB ?_);(conv=>arg 3;whnf))|(refine Spl.go (fun hq he=>?_) (fun hq he=>?_)<;>first|(exfalso;clear hq;omega)|((try first|(conv=>arg 8;simp only [hq])|(conv=>arg 4;simp only [hq]));clear hq))|((with_reducible first|refine c_split (fun hq=>?_) (fun hq=>?_)|refine q_split (fun hq=>?_) (fun hq=>?_))<;>(try first|(conv=>arg 8;simp only [hq])|(conv=>arg 4;simp only [hq])))|(with_reducible refine fin_0 ?_ (by first|rfl|(conv=>lhs;simp only [go_sem])) ?_)|exact Sub.refl _|omega)
 ·refine Uc trivial (h8) (go1 trivial ?_)
  exact sub_iff (by rw [decide_eq_true_iff]; exact ⟨fun h=>⟨he,h⟩,fun h=>h.2⟩)
 ·exact sub_f (fun h=>he h.1)
end Go.Proofs.YtgpdmgaemhelgaaGreat
