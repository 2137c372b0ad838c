/-
  Plans as plain data, and those that come in. No condition.
-/
import Derived.Test.YtgpdmgaemhelgaaGreatJSVEvS
import Derived.Test.YtgpdmgaemhelgaaGreatKSDca
import Derived.Test.YtgpdmgaemhelgaaGreatJSVEvI
import Derived.Test.YtgpdmgaemhelgaaGreatKSDcb
import Derived.Test.YtgpdmgaemhelgaaGreatJSVSzI
set_option maxHeartbeats 4000000
set_option maxRecDepth 100000
namespace Go.Proofs.YtgpdmgaemhelgaaGreat
open Go.ChangeShapes Go.WideShapes Go.ChangeAt Go.RowKit Go.Joins Go.Deep
inductive Pl where
 | mk (k t : Int) (es : List E) (cs : List Int) (ks : List Pl)
namespace Pl
def k : Pl → Int
 | mk k _ _ _ _=>k
def t : Pl → Int
 | mk _ t _ _ _=>t
def es : Pl → List E
 | mk _ _ es _ _=>es
def cs : Pl → List Int
 | mk _ _ _ cs _=>cs
def ks : Pl → List Pl
 | mk _ _ _ _ ks=>ks
end Pl
mutual
def pD : Pl → D
 | .mk k t es cs ks=>.agg [I k,I t,.sl 5 (es.map eD),intsD cs,.sl 5 (pDL ks)]
def pDL : List Pl → List D
 | []=>[]
 | p :: l=>pD p :: pDL l
end
theorem pDL_map : ∀ l : List Pl,pDL l = l.map pD
 | []=>by rw [pDL]; rfl
 | p :: l=>by rw [pDL,pDL_map l]; rfl
theorem pD_eq (p : Pl) : pD p = .agg [I p.k,I p.t,.sl 5 (p.es.map eD),intsD p.cs,.sl 5 (p.ks.map pD)]:=by
 cases p with
 | mk k t es cs ks=>rw [pD,pDL_map]; rfl
theorem plans_pur : ∀ l : List Pl,D.purL (l.map pD) = true
 | []=>rfl
 | p :: l=>by rw [List.map_cons,D.purL,plans_pur l,pD_eq]; rfl
theorem plans_ren (L : List Nat) (l : List Pl) : D.renL L (l.map pD) = l.map pD:=ren_pure.renL_pure L _ (plans_pur l)
theorem Pl.k_mk (k t : Int) (es : List E) (cs : List Int) (ks : List Pl) : (Pl.mk k t es cs ks).k = k:=rfl
theorem Pl.t_mk (k t : Int) (es : List E) (cs : List Int) (ks : List Pl) : (Pl.mk k t es cs ks).t = t:=rfl
theorem Pl.es_mk (k t : Int) (es : List E) (cs : List Int) (ks : List Pl) : (Pl.mk k t es cs ks).es = es:=rfl
theorem Pl.cs_mk (k t : Int) (es : List E) (cs : List Int) (ks : List Pl) : (Pl.mk k t es cs ks).cs = cs:=rfl
theorem Pl.ks_mk (k t : Int) (es : List E) (cs : List Int) (ks : List Pl) : (Pl.mk k t es cs ks).ks = ks:=rfl
attribute [go_sem] pD_eq plans_pur plans_ren Pl.k_mk Pl.t_mk Pl.es_mk Pl.cs_mk Pl.ks_mk
mutual
theorem Pl.indA {P : Pl → Prop} (h : ∀ p,(∀ x,x ∈ p.ks → P x) → P p) : ∀ p,P p
 | .mk k t es cs ks=>h (.mk k t es cs ks) (Pl.indL h ks)
theorem Pl.indL {P : Pl → Prop} (h : ∀ p,(∀ x,x ∈ p.ks → P x) → P p) : ∀ l : List Pl,∀ x,x ∈ l → P x
 | []=>fun _ hx=>by cases hx
 | p :: l=>fun x hx=>(List.mem_cons.1 hx).elim (fun he=>he.symm ▸ Pl.indA h p) (Pl.indL h l x)
end
inductive MostP : Pl → Prop
 | mk {k t : Int} {es : List E} {cs : List Int} {ks : List Pl} (h1 : es.length ≤ big) (h2 : ∀ x,x ∈ es → Most x) (h3 : cs.length ≤ big) (h4 : ks.length ≤ big) (h5 : ∀ x,x ∈ ks → MostP x) : MostP (.mk k t es cs ks)
theorem MostP.lens {p : Pl} (h : MostP p) : p.es.length ≤ big ∧ p.cs.length ≤ big ∧ p.ks.length ≤ big:=by cases h with | mk h1 _ h3 h4 _=>exact ⟨h1,h3,h4⟩
theorem MostP.expr {p : Pl} {x : E} (h : MostP p) (hx : x ∈ p.es) : Most x:=by cases h with | mk _ h2 _ _ _=>exact h2 x hx
theorem MostP.kid {p x : Pl} (h : MostP p) (hx : x ∈ p.ks) : MostP x:=by cases h with | mk _ _ _ _ h5=>exact h5 x hx
mutual
def psz : Pl → Nat
 | .mk _ _ es cs ks=>eszL es + cs.length + pszL ks
def pszL : List Pl → Nat
 | []=>0
 | p :: l=>1 + psz p + pszL l
end
theorem psz_eq (p : Pl) : psz p = eszL p.es + p.cs.length + pszL p.ks:=by cases p; rfl
theorem pszL_append : ∀ (l m : List Pl),pszL (l ++ m) = pszL l + pszL m
 | [],m=>by rw [List.nil_append,pszL,Nat.zero_add]
 | e :: l,m=>by rw [List.cons_append,pszL,pszL,pszL_append l m]; omega
theorem pszL_next {ps : List Pl} {i : Nat} {x : Pl} (h : ps[i]? = some x) : pszL (ps.take (i + 1)) = pszL (ps.take i) + (1 + psz x):=by
 rw [take_next h,pszL_append,pszL,pszL]
 omega
theorem pszL_len : ∀ l : List Pl,l.length ≤ pszL l
 | []=>Nat.le_refl _
 | e :: l=>by
  have:=pszL_len l
  rw [pszL,List.length_cons]
  omega
theorem pszL_rest (ps : List Pl) (i : Nat) : pszL (ps.take i) + (ps.length - i) ≤ pszL ps:=by
 have h1:=pszL_append (ps.take i) (ps.drop i)
 rw [List.take_append_drop] at h1
 have h2:=pszL_len (ps.drop i)
 rw [List.length_drop] at h2
 omega
theorem pszL_low (ps : List Pl) (i : Nat) (hi : i ≤ ps.length) : i ≤ pszL (ps.take i):=by
 have h:=pszL_len (ps.take i)
 rw [List.length_take] at h
 omega
theorem pszL_mem {p : Pl} {l : List Pl} (h : p ∈ l) : psz p + 1 ≤ pszL l:=by
 induction l with
 | nil=>cases h
 | cons x l ih=>
  rw [pszL]
  rcases List.mem_cons.1 h with rfl | h
  ·omega
  ·have:=ih h; omega
theorem cells_LP : Tryz.prog.cellsOf 59 = 5:=by kernel_rfl
section
variable {H : Type} {enc : TypeId × Value → H} {W : World} {base b0 : Nat} {held : Bool} {r : Reach} {v : Value} {d : DataW H} {p : List MemPlace}
theorem trod_5 {P : Program} {spare : Nat → Bool} {t : TypeId} {f0 f1 f2 f3 f4 : Field} {fuel : Nat} {cs : List Value} {x : DataW H × List MemPlace} (ht : P.underlying t = some (.struct #[f0,f1,f2,f3,f4])) (h : DataW.trod enc P W base spare held fuel t cs = some x) :
  ∃ y0 y1 y2 y3 y4 n,fuel = n + 1 ∧ cs.length = P.cellsOf t ∧ DataW.trod enc P W base spare held n f0.type ((cs.drop f0.offset).take (P.cellsOf f0.type)) = some y0 ∧
   DataW.trod enc P W base spare held n f1.type ((cs.drop f1.offset).take (P.cellsOf f1.type)) = some y1 ∧ DataW.trod enc P W base spare held n f2.type ((cs.drop f2.offset).take (P.cellsOf f2.type)) = some y2 ∧
   DataW.trod enc P W base spare held n f3.type ((cs.drop f3.offset).take (P.cellsOf f3.type)) = some y3 ∧ DataW.trod enc P W base spare held n f4.type ((cs.drop f4.offset).take (P.cellsOf f4.type)) = some y4:=by
 obtain ⟨xs,n,hn,_,hl,hlen,hf⟩:=DataW.trod_struct ht h
 have hs : xs.length = 5:=by simpa using hlen
 match xs,hs with
 | [y0,y1,y2,y3,y4],_=>exact ⟨y0,y1,y2,y3,y4,n,hn,hl,by simpa using hf 0 f0 rfl,by simpa using hf 1 f1 rfl,by simpa using hf 2 f2 rfl,by simpa using hf 3 f3 rfl,by simpa using hf 4 f4 rfl⟩
set_option maxRecDepth 100000 in
theorem trod_Pl : ∀ (fuel : Nat) (cs : List Value) (x : DataW H × List MemPlace),DataW.trod enc Tryz.prog W base (fun _=>true) held fuel 59 cs = some x →
  ∃ p : Pl,CellsOK W (allOf W) noNames (pD p).cells cs ∧ MostP p:=by
 intro fuel
 induction fuel using Nat.strongRecOn with
 | ind fuel IH=>
  intro cs x h
  obtain ⟨y0,y1,y2,y3,y4,n,rfl,hl,h0,h1,h2,h3,h4⟩:=trod_5 Tryz.underlying59 h
  rw [cells_LP] at hl
  match cs,hl with
  | [c0,c1,c2,c3,c4],_=>
   have e1 : (Tryz.prog.cellsOf 56) = 1:=by kernel_rfl
   have e2 : (Tryz.prog.cellsOf 24) = 1:=by kernel_rfl
   have e3 : (Tryz.prog.cellsOf 57) = 1:=by kernel_rfl
   simp only [cells_int,e1,e2,e3,List.drop_zero,List.drop_succ_cons,List.take_succ_cons,List.take_zero] at h0 h1 h2 h3 h4
   obtain ⟨k,q0⟩:=int_fz Tryz.underlying3 h0
   obtain ⟨t,q1⟩:=int_fz Tryz.underlying3 h1
   obtain ⟨es,he,hel,q2⟩:=slice_fz Tryz.underlying56 cells_LE (by decide) eD Most h2 (fun n' hn' cs' x' h'=>by
    obtain ⟨e,ho,hm⟩:=trod_Ex n' cs' x' h'
    exact ⟨e,by rw [eD_eq]; rfl,ho,hm⟩)
   obtain ⟨l,hll,q3⟩:=trod_ints h3
   obtain ⟨ks,hk,hkl,q4⟩:=slice_fz Tryz.underlying57 cells_LP (by decide) pD MostP h4 (fun n' hn' cs' x' h'=>by
    obtain ⟨e,ho,hm⟩:=IH n' (by omega) cs' x' h'
    exact ⟨e,by rw [pD_eq]; rfl,ho,hm⟩)
   exact ⟨.mk k t es l ks,by rw [pD_eq]; exact q0.append (q1.append (q2.append (q3.append q4))),.mk hel he hll hkl hk⟩
def IsP (w : World) (v : Value) (p : Pl) : Prop:=MostP p ∧ Fz w (allOf w) noNames (pD p) v
set_option maxRecDepth 100000 in
theorem open_pP (hv : Value.okWide Tryz.prog W r b0 59 v) (h : DataW.Trod enc Tryz.prog W base (fun _=>true) held 59 v d p) (_lt : ∀ x ∈ p,x.block < W.heap.size) :
  ∃ q : Pl,IsP W v q:=by
 obtain ⟨cs,rfl,_⟩:=okWide_struct Tryz.underlying59 hv
 obtain ⟨fuel,hf⟩:=h
 obtain ⟨q,ho,hm⟩:=trod_Pl fuel _ _ hf
 refine ⟨q,hm,?_⟩
 rw [pD_eq] at ho ⊢
 exact agg_fz ho
end
end Go.Proofs.YtgpdmgaemhelgaaGreat
set_option maxHeartbeats 4000000
set_option maxRecDepth 100000
set_option linter.unusedVariables false
set_option linter.unusedSimpArgs false
namespace Go.Proofs.YtgpdmgaemhelgaaGreat
open Go.RowKit
def itr (v : V) : Int:=if v.b = true then 1 else if v.n = 0 then 0 else 2
def itv (n : Int) : V:=if n = 0 then ⟨false,0⟩ else if n = 2 then ⟨false,1⟩ else ⟨true,0⟩
theorem truth_of_ok (v : V) : Does Tryz.prog 205 [] [vD v] (I (itr v)) []:=by
 unfold itr
 refine does0 c_Z46 mixed (Nat.le_of_ble_eq_true rfl) ?_
 conv=>arg 3; whnf
 repeat' (first|with_reducible refine acc_none ?_ | (conv in hold _=>simp (disch:=omega) only [go_sem])|refine Stp.go ?_|(with_reducible first|refine it_pos rfl ?_|refine it_neg (by decide) ?_|refine st_nil rfl ?_|refine s_op ?_ ?_|exact trivial)|((with_reducible first|refine dw_reg0 ?_|refine dw_regB ?_);(conv=>arg 3;whnf))|(refine Spl.go (fun hq he=>?_) (fun hq he=>?_)<;>first|(exfalso;clear hq;omega)|((try first|(conv=>arg 8;simp only [hq])|(conv=>arg 4;simp only [hq]));clear hq))|((with_reducible first|refine c_split (fun hq=>?_) (fun hq=>?_)|refine q_split (fun hq=>?_) (fun hq=>?_))<;>(try first|(conv=>arg 8;simp only [hq])|(conv=>arg 4;simp only [hq])))|(with_reducible refine fin_0 ?_ (by first|rfl|(conv=>lhs;simp only [go_sem])) ?_)|exact Sub.refl _|omega)
 ·rw [if_pos hq]; exact Sub.refl _
 ·rw [if_neg (by rw [hq]; decide),if_pos he]; exact Sub.refl _
 ·rw [if_neg (by rw [hq]; decide),if_neg he]; exact Sub.refl _
end Go.Proofs.YtgpdmgaemhelgaaGreat
set_option maxHeartbeats 4000000
set_option maxRecDepth 100000
namespace Go.Proofs.YtgpdmgaemhelgaaGreat
open Go.RowKit
def marked (u : Nat → Bool) (n : Nat) : List Nat:=(List.range n).filter u
def colsL (u : Nat → Bool) (n : Nat) : List D:=(marked u n).map fun j : Nat=>I (j : Int)
theorem marked_t {u : Nat → Bool} {n : Nat} (h : u n = true) : marked u (n + 1) = marked u n ++ [n]:=by
 unfold marked
 rw [List.range_succ,List.filter_append,List.filter_cons,if_pos h]
 rfl
theorem marked_f {u : Nat → Bool} {n : Nat} (h : u n = false) : marked u (n + 1) = marked u n:=by
 unfold marked
 rw [List.range_succ,List.filter_append,List.filter_cons,if_neg (by rw [h]; decide)]
 simp
theorem colsL_t {u : Nat → Bool} {n : Nat} (h : u n = true) : colsL u (n + 1) = colsL u n ++ [I n]:=by unfold colsL; rw [marked_t h,List.map_append]; rfl
theorem colsL_f {u : Nat → Bool} {n : Nat} (h : u n = false) : colsL u (n + 1) = colsL u n:=by unfold colsL; rw [marked_f h]
theorem marked_len (u : Nat → Bool) (n : Nat) : (marked u n).length ≤ n:=by
 unfold marked
 exact Nat.le_trans (List.length_filter_le _ _) (by rw [List.length_range]; exact Nat.le_refl _)
theorem colsL_len (u : Nat → Bool) (n : Nat) : (colsL u n).length ≤ n:=by unfold colsL; rw [List.length_map]; exact marked_len u n
theorem nats_pur : ∀ l : List Nat,D.purL (l.map fun j : Nat=>I (j : Int)) = true
 | []=>rfl
 | j :: l=>by rw [List.map_cons,D.purL,nats_pur l]; rfl
theorem colsL_pur (u : Nat → Bool) (n : Nat) : D.purL (colsL u n) = true:=nats_pur _
theorem colsL_ren (L : List Nat) (u : Nat → Bool) (n : Nat) : D.renL L (colsL u n) = colsL u n:=ren_pure.renL_pure L _ (colsL_pur u n)
attribute [go_sem] colsL_ren colsL_pur
theorem ColumnsOf_impl (e : E) (h : eOk e 6 8) : Does Tryz.prog 162 [] [eD e] (.sl 1 (colsL (occ e) 6)) []:=by
 have hve:=implValidExpr_ok e 6
 rw [decide_eq_true ⟨by decide,h⟩] at hve
 have huc:=usedColumns_ok e 8 h
 refine does0 c_Z79 mixed (Nat.le_of_ble_eq_true rfl) ?_
 conv=>arg 3; whnf
 repeat' (first|with_reducible refine acc_none ?_ | (conv in hold _=>simp (disch:=omega) only [go_sem])|refine Stp.go ?_|(with_reducible first|refine it_pos rfl ?_|refine it_neg (by decide) ?_|refine st_nil rfl ?_|refine s_op ?_ ?_|exact trivial)|((with_reducible first|refine dw_reg0 ?_|refine dw_regB ?_);(conv=>arg 3;whnf))|(refine Spl.go (fun hq he=>?_) (fun hq he=>?_)<;>first|(exfalso;clear hq;omega)|((try first|(conv=>arg 8;simp only [hq])|(conv=>arg 4;simp only [hq]));clear hq))|((with_reducible first|refine c_split (fun hq=>?_) (fun hq=>?_)|refine q_split (fun hq=>?_) (fun hq=>?_))<;>(try first|(conv=>arg 8;simp only [hq])|(conv=>arg 4;simp only [hq])))|(with_reducible refine fin_0 ?_ (by first|rfl|(conv=>lhs;simp only [go_sem])) ?_)|exact Sub.refl _|omega)
 refine c_doesE (hve) ?_ ?_ ?_
 ·((try (conv=>rhs;simp (disch:=omega) only [go_sem])); try rfl)
 ·first|rfl|(conv=>lhs;simp only [go_sem])
 repeat' (first|with_reducible refine acc_none ?_ | (conv in hold _=>simp (disch:=omega) only [go_sem])|refine Stp.go ?_|(with_reducible first|refine it_pos rfl ?_|refine it_neg (by decide) ?_|refine st_nil rfl ?_|refine s_op ?_ ?_|exact trivial)|((with_reducible first|refine dw_reg0 ?_|refine dw_regB ?_);(conv=>arg 3;whnf))|(refine Spl.go (fun hq he=>?_) (fun hq he=>?_)<;>first|(exfalso;clear hq;omega)|((try first|(conv=>arg 8;simp only [hq])|(conv=>arg 4;simp only [hq]));clear hq))|((with_reducible first|refine c_split (fun hq=>?_) (fun hq=>?_)|refine q_split (fun hq=>?_) (fun hq=>?_))<;>(try first|(conv=>arg 8;simp only [hq])|(conv=>arg 4;simp only [hq])))|(with_reducible refine fin_0 ?_ (by first|rfl|(conv=>lhs;simp only [go_sem])) ?_)|exact Sub.refl _|omega)
 refine c_doesE (huc) ?_ ?_ ?_
 ·((try (conv=>rhs;simp (disch:=omega) only [go_sem])); try rfl)
 ·first|rfl|(conv=>lhs;simp only [go_sem])
 repeat' (first|with_reducible refine acc_none ?_ | (conv in hold _=>simp (disch:=omega) only [go_sem])|refine Stp.go ?_|(with_reducible first|refine it_pos rfl ?_|refine it_neg (by decide) ?_|refine st_nil rfl ?_|refine s_op ?_ ?_|exact trivial)|((with_reducible first|refine dw_reg0 ?_|refine dw_regB ?_);(conv=>arg 3;whnf))|(refine Spl.go (fun hq he=>?_) (fun hq he=>?_)<;>first|(exfalso;clear hq;omega)|((try first|(conv=>arg 8;simp only [hq])|(conv=>arg 4;simp only [hq]));clear hq))|((with_reducible first|refine c_split (fun hq=>?_) (fun hq=>?_)|refine q_split (fun hq=>?_) (fun hq=>?_))<;>(try first|(conv=>arg 8;simp only [hq])|(conv=>arg 4;simp only [hq])))|(with_reducible refine fin_0 ?_ (by first|rfl|(conv=>lhs;simp only [go_sem])) ?_)|exact Sub.refl _|omega)
 refine dw_for (c:=1) (l:=fun i=>[(3,.own 1000000 1 (colsL (occ e) i).length),(10,.agg (useL (occ e))),(11,I i),(1000000,.row 1 (colsL (occ e) i))]) 6 (fun _=>True) 0 trivial ((wk_row 3 2000019 1 (by decide) (by decide) rfl rfl).trans (Wk.list [2000019] rfl rfl ?_)) (fun i hi _=>?_) (Nat.zero_le _)
 ·repeat' (first|(conv in hold _=>simp (disch:=omega) only [go_sem])|exact trivial|exact Sub.refl _|omega)
  exact ⟨rfl,rfl,rfl⟩
 ·have hlen:=colsL_len (occ e) i
  by_cases h6 : i < 6
  ·repeat' (first|with_reducible refine acc_none ?_ | (conv in hold _=>simp (disch:=omega) only [go_sem])|refine Stp.go ?_|(with_reducible first|refine it_pos rfl ?_|refine it_neg (by decide) ?_|refine st_nil rfl ?_|refine s_op ?_ ?_|exact trivial)|((with_reducible first|refine dw_reg0 ?_|refine dw_regB ?_);(conv=>arg 3;whnf))|(refine Spl.go (fun hq he=>?_) (fun hq he=>?_)<;>first|(exfalso;clear hq;omega)|((try first|(conv=>arg 8;simp only [hq])|(conv=>arg 4;simp only [hq]));clear hq))|((with_reducible first|refine c_split (fun hq=>?_) (fun hq=>?_)|refine q_split (fun hq=>?_) (fun hq=>?_))<;>(try first|(conv=>arg 8;simp only [hq])|(conv=>arg 4;simp only [hq])))|(with_reducible refine fin_0 ?_ (by first|rfl|(conv=>lhs;simp only [go_sem])) ?_)|exact Sub.refl _|omega)
   ·refine ⟨h6,trivial,Wk.list [2000019] rfl rfl ?_⟩
    repeat' (first|(conv in hold _=>simp (disch:=omega) only [go_sem,List.take_length])|exact trivial|exact Sub.refl _|omega)
    rw [colsL_t hq,List.length_append]
    exact ⟨rfl,rfl⟩
   ·refine ⟨h6,trivial,Wk.list [1000000] rfl rfl ?_⟩
    repeat' (first|(conv in hold _=>simp (disch:=omega) only [go_sem])|exact trivial|exact Sub.refl _|omega)
    rw [colsL_f hq]
    exact ⟨rfl,rfl⟩
  ·obtain rfl : i = 6:=by omega
   repeat' (first|with_reducible refine acc_none ?_ | (conv in hold _=>simp (disch:=omega) only [go_sem])|refine Stp.go ?_|(with_reducible first|refine it_pos rfl ?_|refine it_neg (by decide) ?_|refine st_nil rfl ?_|refine s_op ?_ ?_|exact trivial)|((with_reducible first|refine dw_reg0 ?_|refine dw_regB ?_);(conv=>arg 3;whnf))|(refine Spl.go (fun hq he=>?_) (fun hq he=>?_)<;>first|(exfalso;clear hq;omega)|((try first|(conv=>arg 8;simp only [hq])|(conv=>arg 4;simp only [hq]));clear hq))|((with_reducible first|refine c_split (fun hq=>?_) (fun hq=>?_)|refine q_split (fun hq=>?_) (fun hq=>?_))<;>(try first|(conv=>arg 8;simp only [hq])|(conv=>arg 4;simp only [hq])))|exact Sub.refl _|omega)
   refine fin_wk (wk_frz 2 1000000 (by decide) (by decide) rfl ?_) ?_
   rotate_left
   (conv in hold _=>simp (disch:=omega) only [go_sem,List.take_length])
   ·refine fin_L [] ?_ ?_ rfl ?_
    repeat' (first|(conv in hold _=>simp (disch:=omega) only [go_sem])|exact trivial|exact Sub.refl _|omega)
   ·exact colsL_pur _ _
end Go.Proofs.YtgpdmgaemhelgaaGreat
set_option maxHeartbeats 4000000
set_option maxRecDepth 100000
namespace Go.Proofs.YtgpdmgaemhelgaaGreat
open Go.RowKit
theorem occL_mem {x : E} {l : List E} {i : Nat} (h : x ∈ l) (ho : occ x i = true) : occL l i = true:=by
 induction l with
 | nil=>cases h
 | cons y l ih=>
  rw [occL,Bool.or_eq_true]
  rcases List.mem_cons.1 h with rfl | h
  ·exact Or.inl ho
  ·exact Or.inr (ih h)
theorem occ_kid {x e : E} {i : Nat} (h : x ∈ e.ks) (ho : occ x i = true) : occ e i = true:=by
 rw [occ_eq,occL_mem h ho,Bool.or_true]
end Go.Proofs.YtgpdmgaemhelgaaGreat
