/-
  What the exact laws do with tables that came in. No condition.
-/
import Derived.Test.YtjngffbghkafaaaGreatKSDca
import Derived.Test.YtjngffbghkafaaaGreatKSDci
import Derived.Test.YtjngffbghkafaaaGreatJSDcVWidD
import Derived.Test.YtjngffbghkafaaaGreatKSVSzT
set_option maxHeartbeats 4000000
set_option maxRecDepth 100000
namespace Go.Proofs.YtjngffbghkafaaaGreat
open Go.RowKit
def tsz : List Ta → Nat
 | []=>0
 | t :: l=>(1 + rsz t.rows) + tsz l
theorem tsz_append : ∀ (l m : List Ta),tsz (l ++ m) = tsz l + tsz m
 | [],m=>by rw [List.nil_append,tsz,Nat.zero_add]
 | t :: l,m=>by rw [List.cons_append,tsz,tsz,tsz_append l m]; omega
theorem tsz_next {l : List Ta} {i : Nat} {x : Ta} (h : l[i]? = some x) : tsz (l.take (i + 1)) = tsz (l.take i) + (1 + rsz x.rows):=by
 rw [take_next h,tsz_append,tsz,tsz,Nat.add_zero]
theorem tsz_len : ∀ l : List Ta,l.length ≤ tsz l
 | []=>Nat.le_refl _
 | t :: l=>by have:=tsz_len l; rw [List.length_cons,tsz]; omega
theorem tsz_rest (l : List Ta) (i : Nat) : tsz (l.take i) + (l.length - i) ≤ tsz l:=by
 have h : tsz l = tsz (l.take i) + tsz (l.drop i):=by rw [← tsz_append,List.take_append_drop]
 have h2:=tsz_len (l.drop i)
 rw [List.length_drop] at h2
 omega
theorem tsz_low (l : List Ta) (i : Nat) (hi : i ≤ l.length) : i ≤ tsz (l.take i):=by
 have h:=tsz_len (l.take i)
 rw [List.length_take] at h
 omega
theorem tsz_mem {t : Ta} : ∀ {l : List Ta},t ∈ l → rsz t.rows + 1 ≤ tsz l
 | x :: l,h=>by
  rw [tsz]
  rcases List.mem_cons.1 h with rfl | h'
  ·omega
  ·have:=tsz_mem h'
   omega
theorem ta_pur (t : Ta) : (taD t).pur = true:=rfl
def mostT (l : List Ta) : Prop:=l.length ≤ big ∧ ∀ t,t ∈ l → mostR t.rows
section
open Go.ChangeShapes Go.WideShapes Go.ChangeAt Go.Joins Go.Deep
variable {H : Type} {enc : TypeId × Value → H} {W : World} {base b0 : Nat} {held : Bool} {r : Reach} {v : Value} {d : DataW H} {p : List MemPlace}
def IsTas (w : World) (v : Value) (l : List Ta) : Prop:=mostT l ∧ Fz w (allOf w) noNames (tasD l) v
set_option maxRecDepth 100000 in
theorem trod_Ta {fuel : Nat} {cs : List Value} {x : DataW H × List MemPlace} (hf : DataW.trod enc Tryz.prog W base (fun _=>true) held fuel 70 cs = some x) :
  ∃ t : Ta,CellsOK W (allOf W) noNames [I t.w,rowsD t.rows] cs ∧ mostR t.rows:=by
 obtain ⟨y0,y1,n,_,hl,h0,h1⟩:=trod_struct2 Tryz.underlying70 hf
 rw [cells_LT] at hl
 have e1 : (Tryz.prog.cellsOf 68) = 1:=by kernel_rfl
 match cs,hl with
 | [c0,c1],_=>
  simp only [cells_int,e1,List.drop_zero,List.drop_succ_cons,List.take_succ_cons,List.take_zero] at h0 h1
  obtain ⟨k,q0⟩:=int_fz Tryz.underlying3 h0
  obtain ⟨rs,hm,q1⟩:=trod_rows h1
  exact ⟨⟨k,rs⟩,q0.append q1,hm⟩
set_option maxRecDepth 100000 in
theorem trod_Tas {fuel : Nat} {cs : List Value} {x : DataW H × List MemPlace} (h : DataW.trod enc Tryz.prog W base (fun _=>true) held fuel 27 cs = some x) :
  ∃ l : List Ta,mostT l ∧ CellsOK W (allOf W) noNames [tasD l] cs:=by
 obtain ⟨l,hm,hlen,q⟩:=slice_fz Tryz.underlying27 cells_LT (by decide) taD (fun t=>mostR t.rows) h (fun n' _ cs' x' h'=>by
  obtain ⟨s,hs,hm⟩:=trod_Ta h'
  exact ⟨s,rfl,hs,hm⟩)
 exact ⟨l,⟨hlen,hm⟩,q⟩
set_option maxRecDepth 100000 in
theorem open_pTs (hv : Value.okWide Tryz.prog W r b0 27 v) (h : DataW.Trod enc Tryz.prog W base (fun _=>true) held 27 v d p) (_lt : ∀ x ∈ p,x.block < W.heap.size) :
  ∃ l : List Ta,IsTas W v l:=by
 obtain ⟨a0,len0,cap0,rfl⟩:=okWide_slice Tryz.underlying27 hv
 obtain ⟨fuel,hf⟩:=h
 obtain ⟨l,hm,q⟩:=trod_Tas hf
 exact ⟨l,hm,CellsOK.fz1 q⟩
end
theorem szTableS_ok (l : List Ta) (hm : mostT l) (left : Int) (h0 : 0 ≤ left) (h1 : left ≤ 1048576) : Does Tryz.prog 10 [] [tasD l,I left] (I (szV (tsz l) left)) []:=by
 have hl:=hm.1
 unfold big at hl
 have hlen:=tsz_len l
 by_cases hfit : (l.length : Int) ≤ left
 ·refine does0 c_Z118 mixed (Nat.le_of_ble_eq_true rfl) ?_
  conv=>arg 3; whnf
  repeat' (first|with_reducible refine acc_none ?_ | (conv in hold _=>simp (disch:=omega) only [go_sem])|refine Stp.go ?_|(with_reducible first|refine it_pos rfl ?_|refine it_neg (by decide) ?_|refine st_nil rfl ?_|refine s_op ?_ ?_|exact trivial)|((with_reducible first|refine dw_reg0 ?_|refine dw_regB ?_);(conv=>arg 3;whnf))|(refine Spl.go (fun hq he=>?_) (fun hq he=>?_)<;>first|(exfalso;clear hq;omega)|((try first|(conv=>arg 8;simp only [hq])|(conv=>arg 4;simp only [hq]));clear hq))|((with_reducible first|refine c_split (fun hq=>?_) (fun hq=>?_)|refine q_split (fun hq=>?_) (fun hq=>?_))<;>(try first|(conv=>arg 8;simp only [hq])|(conv=>arg 4;simp only [hq])))|(with_reducible refine fin_0 ?_ (by first|rfl|(conv=>lhs;simp only [go_sem])) ?_)|exact Sub.refl _|omega)
  refine dw_for (c:=0) (l:=fun i=>[(0,tasD l),(1,I (left - l.length - (tsz (l.take i) - i))),(5,I i)]) l.length (fun i=>0 ≤ left - l.length - ((tsz (l.take i) : Int) - i)) 0 (by rw [List.take_zero,tsz]; omega) (Wk.list [] rfl rfl ?_) (fun i hi hJ=>?_) (Nat.zero_le _)
  ·repeat' (first|(conv in hold _=>simp (disch:=omega) only [go_sem])|exact trivial|exact Sub.refl _|omega)
   rw [tsz]
   exact ⟨congrArg (fun n=>D.v (Value.int .i64 n)) (by omega),rfl⟩
  ·have hlow:=tsz_low l i hi
   rcases at_or_end hi with ⟨x,hx,hlt⟩ | rfl
   ·have hnx:=tsz_next hx
    have hrest:=tsz_rest l (i + 1)
    have hix:=szTable_ok x (hm.2 x (List.mem_of_getElem? hx)) (left - l.length - (tsz (l.take i) - i)) hJ (by omega)
    by_cases hx0 : (rsz x.rows : Int) ≤ left - l.length - (tsz (l.take i) - i)
    ·rw [szV_t hx0] at hix
     repeat' (first|with_reducible refine acc_none ?_ | (conv in hold _=>simp (disch:=omega) only [go_sem,List.getElem?_map,hx,Option.map_some])|refine Stp.go ?_|(with_reducible first|refine it_pos rfl ?_|refine it_neg (by decide) ?_|refine st_nil rfl ?_|refine s_op ?_ ?_|exact trivial)|((with_reducible first|refine dw_reg0 ?_|refine dw_regB ?_);(conv=>arg 3;whnf))|(refine Spl.go (fun hq he=>?_) (fun hq he=>?_)<;>first|(exfalso;clear hq;omega)|((try first|(conv=>arg 8;simp only [hq])|(conv=>arg 4;simp only [hq]));clear hq))|((with_reducible first|refine c_split (fun hq=>?_) (fun hq=>?_)|refine q_split (fun hq=>?_) (fun hq=>?_))<;>(try first|(conv=>arg 8;simp only [hq])|(conv=>arg 4;simp only [hq])))|(with_reducible refine fin_0 ?_ (by first|rfl|(conv=>lhs;simp only [go_sem,List.getElem?_map,hx,Option.map_some])) ?_)|exact Sub.refl _|omega)
     refine c_doesE (hix) ?_ ?_ ?_
     ·((try (conv=>rhs;simp (disch:=omega) only [go_sem])); try rfl)
     ·first|rfl|(conv=>lhs;simp only [go_sem])
     repeat' (first|with_reducible refine acc_none ?_ | (conv in hold _=>simp (disch:=omega) only [go_sem])|refine Stp.go ?_|(with_reducible first|refine it_pos rfl ?_|refine it_neg (by decide) ?_|refine st_nil rfl ?_|refine s_op ?_ ?_|exact trivial)|((with_reducible first|refine dw_reg0 ?_|refine dw_regB ?_);(conv=>arg 3;whnf))|(refine Spl.go (fun hq he=>?_) (fun hq he=>?_)<;>first|(exfalso;clear hq;omega)|((try first|(conv=>arg 8;simp only [hq])|(conv=>arg 4;simp only [hq]));clear hq))|((with_reducible first|refine c_split (fun hq=>?_) (fun hq=>?_)|refine q_split (fun hq=>?_) (fun hq=>?_))<;>(try first|(conv=>arg 8;simp only [hq])|(conv=>arg 4;simp only [hq])))|(with_reducible refine fin_0 ?_ (by first|rfl|(conv=>lhs;simp only [go_sem])) ?_)|exact Sub.refl _|omega)
     refine ⟨hlt,by omega,Wk.list [] rfl rfl ?_⟩
     repeat' (first|(conv in hold _=>simp (disch:=omega) only [go_sem])|exact trivial|exact Sub.refl _|omega)
     exact congrArg (fun n=>D.v (Value.int .i64 n)) (by omega)
    ·rw [szV_f hx0] at hix
     rw [szV_f (by omega)]
     repeat' (first|with_reducible refine acc_none ?_ | (conv in hold _=>simp (disch:=omega) only [go_sem,List.getElem?_map,hx,Option.map_some])|refine Stp.go ?_|(with_reducible first|refine it_pos rfl ?_|refine it_neg (by decide) ?_|refine st_nil rfl ?_|refine s_op ?_ ?_|exact trivial)|((with_reducible first|refine dw_reg0 ?_|refine dw_regB ?_);(conv=>arg 3;whnf))|(refine Spl.go (fun hq he=>?_) (fun hq he=>?_)<;>first|(exfalso;clear hq;omega)|((try first|(conv=>arg 8;simp only [hq])|(conv=>arg 4;simp only [hq]));clear hq))|((with_reducible first|refine c_split (fun hq=>?_) (fun hq=>?_)|refine q_split (fun hq=>?_) (fun hq=>?_))<;>(try first|(conv=>arg 8;simp only [hq])|(conv=>arg 4;simp only [hq])))|(with_reducible refine fin_0 ?_ (by first|rfl|(conv=>lhs;simp only [go_sem,List.getElem?_map,hx,Option.map_some])) ?_)|exact Sub.refl _|omega)
     refine c_doesE (hix) ?_ ?_ ?_
     ·((try (conv=>rhs;simp (disch:=omega) only [go_sem])); try rfl)
     ·first|rfl|(conv=>lhs;simp only [go_sem])
     repeat' (first|with_reducible refine acc_none ?_ | (conv in hold _=>simp (disch:=omega) only [go_sem])|refine Stp.go ?_|(with_reducible first|refine it_pos rfl ?_|refine it_neg (by decide) ?_|refine st_nil rfl ?_|refine s_op ?_ ?_|exact trivial)|((with_reducible first|refine dw_reg0 ?_|refine dw_regB ?_);(conv=>arg 3;whnf))|(refine Spl.go (fun hq he=>?_) (fun hq he=>?_)<;>first|(exfalso;clear hq;omega)|((try first|(conv=>arg 8;simp only [hq])|(conv=>arg 4;simp only [hq]));clear hq))|((with_reducible first|refine c_split (fun hq=>?_) (fun hq=>?_)|refine q_split (fun hq=>?_) (fun hq=>?_))<;>(try first|(conv=>arg 8;simp only [hq])|(conv=>arg 4;simp only [hq])))|(with_reducible refine fin_0 ?_ (by first|rfl|(conv=>lhs;simp only [go_sem])) ?_)|exact Sub.refl _|omega)
   ·rw [List.take_length] at hJ hlow
    rw [szV_t (by omega)]
    repeat' (first|with_reducible refine acc_none ?_ | (conv in hold _=>simp (disch:=omega) only [go_sem,List.take_length])|refine Stp.go ?_|(with_reducible first|refine it_pos rfl ?_|refine it_neg (by decide) ?_|refine st_nil rfl ?_|refine s_op ?_ ?_|exact trivial)|((with_reducible first|refine dw_reg0 ?_|refine dw_regB ?_);(conv=>arg 3;whnf))|(refine Spl.go (fun hq he=>?_) (fun hq he=>?_)<;>first|(exfalso;clear hq;omega)|((try first|(conv=>arg 8;simp only [hq])|(conv=>arg 4;simp only [hq]));clear hq))|((with_reducible first|refine c_split (fun hq=>?_) (fun hq=>?_)|refine q_split (fun hq=>?_) (fun hq=>?_))<;>(try first|(conv=>arg 8;simp only [hq])|(conv=>arg 4;simp only [hq])))|(with_reducible refine fin_0 ?_ (by first|rfl|(conv=>lhs;simp only [go_sem,List.take_length])) ?_)|exact Sub.refl _|omega)
    exact Sub.of_eq (congrArg (fun n=>D.v (Value.int .i64 n)) (by omega))
 ·rw [szV_f (by omega)]
  refine does0 c_Z118 mixed (Nat.le_of_ble_eq_true rfl) ?_
  conv=>arg 3; whnf
  repeat' (first|with_reducible refine acc_none ?_ | (conv in hold _=>simp (disch:=omega) only [go_sem])|refine Stp.go ?_|(with_reducible first|refine it_pos rfl ?_|refine it_neg (by decide) ?_|refine st_nil rfl ?_|refine s_op ?_ ?_|exact trivial)|((with_reducible first|refine dw_reg0 ?_|refine dw_regB ?_);(conv=>arg 3;whnf))|(refine Spl.go (fun hq he=>?_) (fun hq he=>?_)<;>first|(exfalso;clear hq;omega)|((try first|(conv=>arg 8;simp only [hq])|(conv=>arg 4;simp only [hq]));clear hq))|((with_reducible first|refine c_split (fun hq=>?_) (fun hq=>?_)|refine q_split (fun hq=>?_) (fun hq=>?_))<;>(try first|(conv=>arg 8;simp only [hq])|(conv=>arg 4;simp only [hq])))|(with_reducible refine fin_0 ?_ (by first|rfl|(conv=>lhs;simp only [go_sem])) ?_)|exact Sub.refl _|omega)
theorem toTableS_ok (l : List Ta) (hl : tsz l ≤ 1048576) : Does Tryz.prog 13 [] [tasD l] (tasD l) []:=by
 have hlen:=tsz_len l
 have hz:=fil_zero taD (.agg [I 0,.nul]) l
 have hren:=fil_ren taD (.agg [I 0,.nul]) ta_pur rfl l
 refine does0 c_Z120 mixed (Nat.le_of_ble_eq_true rfl) ?_
 conv=>arg 3; whnf
 repeat' (first|with_reducible refine acc_none ?_ | (conv in hold _=>simp (disch:=omega) only [go_sem])|refine Stp.go ?_|(with_reducible first|refine it_pos rfl ?_|refine it_neg (by decide) ?_|refine st_nil rfl ?_|refine s_op ?_ ?_|exact trivial)|((with_reducible first|refine dw_reg0 ?_|refine dw_regB ?_);(conv=>arg 3;whnf))|(refine Spl.go (fun hq he=>?_) (fun hq he=>?_)<;>first|(exfalso;clear hq;omega)|((try first|(conv=>arg 8;simp only [hq])|(conv=>arg 4;simp only [hq]));clear hq))|((with_reducible first|refine c_split (fun hq=>?_) (fun hq=>?_)|refine q_split (fun hq=>?_) (fun hq=>?_))<;>(try first|(conv=>arg 8;simp only [hq])|(conv=>arg 4;simp only [hq])))|(with_reducible refine fin_0 ?_ (by first|rfl|(conv=>lhs;simp only [go_sem])) ?_)|exact Sub.refl _|omega)
 refine dw_for (c:=1) (l:=fun i=>[(0,tasD l),(3,.own 1000000 2 l.length),(4,I i),(1000000,.row 2 (fil taD (.agg [I 0,.nul]) l i))]) l.length (fun _=>True) 0 trivial (Wk.list [2000007] rfl rfl ?_) (fun i hi _=>?_) (Nat.zero_le _)
 ·repeat' (first|(conv in hold _=>simp (disch:=omega) only [go_sem,hren])|exact trivial|exact Sub.refl _|omega)
  rw [hz]
  exact ⟨rfl,rfl⟩
 ·have hfl:=fil_len taD (.agg [I 0,.nul]) l hi
  have hft:=fil_take taD (.agg [I 0,.nul]) l hi
  rcases at_or_end hi with ⟨x,hx,hlt⟩ | rfl
  ·have hst:=fil_set taD (.agg [I 0,.nul]) hx
   rw [taD,rowsD] at hst
   have hgi : (fil taD (.agg [I 0,.nul]) l i)[i]? = some (.agg [I 0,.nul]):=fil_get taD (.agg [I 0,.nul]) hlt
   have hv:=toTable_ok x (by have:=tsz_mem (List.mem_of_getElem? hx); omega)
   repeat' (first|with_reducible refine acc_none ?_ | (conv in hold _=>simp (disch:=omega) only [go_sem,List.getElem?_map,hx,Option.map_some,hfl,hft,hgi])|refine Stp.go ?_|(with_reducible first|refine it_pos rfl ?_|refine it_neg (by decide) ?_|refine st_nil rfl ?_|refine s_op ?_ ?_|exact trivial)|((with_reducible first|refine dw_reg0 ?_|refine dw_regB ?_);(conv=>arg 3;whnf))|(refine Spl.go (fun hq he=>?_) (fun hq he=>?_)<;>first|(exfalso;clear hq;omega)|((try first|(conv=>arg 8;simp only [hq])|(conv=>arg 4;simp only [hq]));clear hq))|((with_reducible first|refine c_split (fun hq=>?_) (fun hq=>?_)|refine q_split (fun hq=>?_) (fun hq=>?_))<;>(try first|(conv=>arg 8;simp only [hq])|(conv=>arg 4;simp only [hq])))|(with_reducible refine fin_0 ?_ (by first|rfl|(conv=>lhs;simp only [go_sem,List.getElem?_map,hx,Option.map_some,hfl,hft,hgi])) ?_)|exact Sub.refl _|omega)
   refine c_doesE (hv) ?_ ?_ ?_
   ·((try (conv=>rhs;simp (disch:=omega) only [go_sem,hfl,hft,hgi])); try rfl)
   ·first|rfl|(conv=>lhs;simp only [go_sem,hfl,hft,hgi])
   repeat' (first|with_reducible refine acc_none ?_ | (conv in hold _=>simp (disch:=omega) only [go_sem,hfl,hft,hgi])|refine Stp.go ?_|(with_reducible first|refine it_pos rfl ?_|refine it_neg (by decide) ?_|refine st_nil rfl ?_|refine s_op ?_ ?_|exact trivial)|((with_reducible first|refine dw_reg0 ?_|refine dw_regB ?_);(conv=>arg 3;whnf))|(refine Spl.go (fun hq he=>?_) (fun hq he=>?_)<;>first|(exfalso;clear hq;omega)|((try first|(conv=>arg 8;simp only [hq])|(conv=>arg 4;simp only [hq]));clear hq))|((with_reducible first|refine c_split (fun hq=>?_) (fun hq=>?_)|refine q_split (fun hq=>?_) (fun hq=>?_))<;>(try first|(conv=>arg 8;simp only [hq])|(conv=>arg 4;simp only [hq])))|(with_reducible refine fin_0 ?_ (by first|rfl|(conv=>lhs;simp only [go_sem,hfl,hft,hgi])) ?_)|exact Sub.refl _|omega)
   refine ⟨hlt,trivial,Wk.list [1000000] rfl rfl ?_⟩
   repeat' (first|(conv in hold _=>simp (disch:=omega) only [go_sem,hst,hren])|exact trivial|exact Sub.refl _|omega)
  ·have he:=fil_end taD (.agg [I 0,.nul]) l
   repeat' (first|with_reducible refine acc_none ?_ | (conv in hold _=>simp (disch:=omega) only [go_sem,he])|refine Stp.go ?_|(with_reducible first|refine it_pos rfl ?_|refine it_neg (by decide) ?_|refine st_nil rfl ?_|refine s_op ?_ ?_|exact trivial)|((with_reducible first|refine dw_reg0 ?_|refine dw_regB ?_);(conv=>arg 3;whnf))|(refine Spl.go (fun hq he=>?_) (fun hq he=>?_)<;>first|(exfalso;clear hq;omega)|((try first|(conv=>arg 8;simp only [hq])|(conv=>arg 4;simp only [hq]));clear hq))|((with_reducible first|refine c_split (fun hq=>?_) (fun hq=>?_)|refine q_split (fun hq=>?_) (fun hq=>?_))<;>(try first|(conv=>arg 8;simp only [hq])|(conv=>arg 4;simp only [hq])))|exact Sub.refl _|omega)
   refine fin_wk (wk_frz 2 1000000 (by decide) (by decide) rfl ?_) ?_
   rotate_left
   (conv in hold _=>simp (disch:=omega) only [go_sem,hft,he,hfl])
   ·refine fin_L [] ?_ ?_ rfl ?_
    repeat' (first|(conv in hold _=>simp (disch:=omega) only [go_sem])|exact trivial|exact Sub.refl _|omega)
   ·exact tas_pur _
theorem eqTableS_ok (l : List Ta) (hl : tsz l ≤ 1048576) : Does Tryz.prog 16 [] [tasD l,tasD l] (Bo true) []:=by
 have hlen:=tsz_len l
 refine does0 c_Z116 mixed (Nat.le_of_ble_eq_true rfl) ?_
 conv=>arg 3; whnf
 repeat' (first|with_reducible refine acc_none ?_ | (conv in hold _=>simp (disch:=omega) only [go_sem,beq_self_eq_true,bne_self_eq_false])|refine Stp.go ?_|(with_reducible first|refine it_pos rfl ?_|refine it_neg (by decide) ?_|refine st_nil rfl ?_|refine s_op ?_ ?_|exact trivial)|((with_reducible first|refine dw_reg0 ?_|refine dw_regB ?_);(conv=>arg 3;whnf))|(refine Spl.go (fun hq he=>?_) (fun hq he=>?_)<;>first|(exfalso;clear hq;omega)|((try first|(conv=>arg 8;simp only [hq])|(conv=>arg 4;simp only [hq]));clear hq))|((with_reducible first|refine c_split (fun hq=>?_) (fun hq=>?_)|refine q_split (fun hq=>?_) (fun hq=>?_))<;>(try first|(conv=>arg 8;simp only [hq])|(conv=>arg 4;simp only [hq])))|(with_reducible refine fin_0 ?_ (by first|rfl|(conv=>lhs;simp only [go_sem,beq_self_eq_true,bne_self_eq_false])) ?_)|exact Sub.refl _|omega)
 refine dw_for (c:=0) (l:=fun i=>[(0,tasD l),(1,tasD l),(5,I i)]) l.length (fun _=>True) 0 trivial (Wk.list [] rfl rfl ?_) (fun i hi _=>?_) (Nat.zero_le _)
 ·repeat' (first|(conv in hold _=>simp (disch:=omega) only [go_sem,beq_self_eq_true,bne_self_eq_false])|exact trivial|exact Sub.refl _|omega)
  exact rfl
 ·rcases at_or_end hi with ⟨x,hx,hlt⟩ | rfl
  ·have hix:=eqTable_ok x (by have:=tsz_mem (List.mem_of_getElem? hx); omega)
   repeat' (first|with_reducible refine acc_none ?_ | (conv in hold _=>simp (disch:=omega) only [go_sem,beq_self_eq_true,bne_self_eq_false,List.getElem?_map,hx,Option.map_some])|refine Stp.go ?_|(with_reducible first|refine it_pos rfl ?_|refine it_neg (by decide) ?_|refine st_nil rfl ?_|refine s_op ?_ ?_|exact trivial)|((with_reducible first|refine dw_reg0 ?_|refine dw_regB ?_);(conv=>arg 3;whnf))|(refine Spl.go (fun hq he=>?_) (fun hq he=>?_)<;>first|(exfalso;clear hq;omega)|((try first|(conv=>arg 8;simp only [hq])|(conv=>arg 4;simp only [hq]));clear hq))|((with_reducible first|refine c_split (fun hq=>?_) (fun hq=>?_)|refine q_split (fun hq=>?_) (fun hq=>?_))<;>(try first|(conv=>arg 8;simp only [hq])|(conv=>arg 4;simp only [hq])))|(with_reducible refine fin_0 ?_ (by first|rfl|(conv=>lhs;simp only [go_sem,beq_self_eq_true,bne_self_eq_false,List.getElem?_map,hx,Option.map_some])) ?_)|exact Sub.refl _|omega)
   refine c_doesE (hix) ?_ ?_ ?_
   ·((try (conv=>rhs;simp (disch:=omega) only [go_sem,beq_self_eq_true,bne_self_eq_false])); try rfl)
   ·first|rfl|(conv=>lhs;simp only [go_sem,beq_self_eq_true,bne_self_eq_false])
   repeat' (first|with_reducible refine acc_none ?_ | (conv in hold _=>simp (disch:=omega) only [go_sem,beq_self_eq_true,bne_self_eq_false])|refine Stp.go ?_|(with_reducible first|refine it_pos rfl ?_|refine it_neg (by decide) ?_|refine st_nil rfl ?_|refine s_op ?_ ?_|exact trivial)|((with_reducible first|refine dw_reg0 ?_|refine dw_regB ?_);(conv=>arg 3;whnf))|(refine Spl.go (fun hq he=>?_) (fun hq he=>?_)<;>first|(exfalso;clear hq;omega)|((try first|(conv=>arg 8;simp only [hq])|(conv=>arg 4;simp only [hq]));clear hq))|((with_reducible first|refine c_split (fun hq=>?_) (fun hq=>?_)|refine q_split (fun hq=>?_) (fun hq=>?_))<;>(try first|(conv=>arg 8;simp only [hq])|(conv=>arg 4;simp only [hq])))|(with_reducible refine fin_0 ?_ (by first|rfl|(conv=>lhs;simp only [go_sem,beq_self_eq_true,bne_self_eq_false])) ?_)|exact Sub.refl _|omega)
   refine ⟨hlt,trivial,Wk.list [] rfl rfl ?_⟩
   repeat' (first|(conv in hold _=>simp (disch:=omega) only [go_sem,beq_self_eq_true,bne_self_eq_false])|exact trivial|exact Sub.refl _|omega)
  ·repeat' (first|with_reducible refine acc_none ?_ | (conv in hold _=>simp (disch:=omega) only [go_sem,beq_self_eq_true,bne_self_eq_false])|refine Stp.go ?_|(with_reducible first|refine it_pos rfl ?_|refine it_neg (by decide) ?_|refine st_nil rfl ?_|refine s_op ?_ ?_|exact trivial)|((with_reducible first|refine dw_reg0 ?_|refine dw_regB ?_);(conv=>arg 3;whnf))|(refine Spl.go (fun hq he=>?_) (fun hq he=>?_)<;>first|(exfalso;clear hq;omega)|((try first|(conv=>arg 8;simp only [hq])|(conv=>arg 4;simp only [hq]));clear hq))|((with_reducible first|refine c_split (fun hq=>?_) (fun hq=>?_)|refine q_split (fun hq=>?_) (fun hq=>?_))<;>(try first|(conv=>arg 8;simp only [hq])|(conv=>arg 4;simp only [hq])))|(with_reducible refine fin_0 ?_ (by first|rfl|(conv=>lhs;simp only [go_sem,beq_self_eq_true,bne_self_eq_false])) ?_)|exact Sub.refl _|omega)
end Go.Proofs.YtjngffbghkafaaaGreat
