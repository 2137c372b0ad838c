/-
  The copy of an expression, off a stack: the kinds of trees, and what a node's own kids are. No condition.
-/
import Derived.Test.YtgpdmgaemhelgaaGreatKSDca
import Derived.Test.YtgpdmgaemhelgaaGreatKSDcc
import Derived.Test.YtgpdmgaemhelgaaGreatKSVClB
import Derived.Test.YtgpdmgaemhelgaaGreatJSDcVWid
import Derived.Test.YtgpdmgaemhelgaaGreatJSVCall
import Derived.Test.YtgpdmgaemhelgaaGreatJSVRead
import Derived.Test.YtgpdmgaemhelgaaGreatJSVClA
set_option maxHeartbeats 4000000
set_option maxRecDepth 100000
set_option linter.unusedVariables false
set_option linter.unusedSimpArgs false
namespace Go.Proofs.YtgpdmgaemhelgaaGreat
open Go.RowKit
theorem eszL_sum : ∀ l : List E,eszL l = (l.map esz).sum
 | []=>rfl
 | e :: l=>by rw [eszL,eszL_sum l]; rfl
def holeE (e : E) (g n : Nat) : D:=.agg [I e.k,I e.c,Bo e.v.b,I e.v.n,.own g 5 n]
theorem holeE_ren (e : E) (g n : Nat) (L : List Nat) (g' : Nat) (h : nameOf L g = some g') : (holeE e g n).ren L = holeE e g' n:=by
 unfold holeE
 simp only [D.ren,D.renL,h]
def trE : Tr where
 α:=E
 s:=5
 d:=eD
 ks:=E.ks
 hole:=holeE
 size:=esz
 pur e:=by rw [eD_eq]; rfl
 fr e g:=by
  unfold holeE
  simp only [D.frz,D.frzL,List.length_map,Nat.le_refl,and_self,if_true]
  rw [take_all,eD_eq]
 ren:=holeE_ren
 one e:=by rw [esz_eq]; omega
 sum e:=by rw [esz_eq,eszL_sum]; exact Nat.le_refl _
theorem set_ren (R : List Nat) (es : List E) (i : Nat) (d : D) : D.renL R ((es.map eD).set i d) = (es.map eD).set i (d.ren R):=by
 rw [D.renL_map,List.map_set,← D.renL_map,exprs_ren]
theorem cloneKids_ok (es : List E) (h0 : 0 < es.length) (hl : es.length < 1000000) : Does Tryz.prog 90 [] [.sl 5 (es.map eD)] (.own 1000000 5 es.length) [.row 5 (es.map eD)]:=by
 refine Bk c_Z2 mixed 0 (go1 trivial ?_)
 refine fin_L [2000007] ?_ ?_ rfl ?_
 repeat' (first|(conv in hold _=>simp (disch:=omega) only [go_sem])|exact trivial|exact Sub.refl _|omega)
theorem pre_raw {σ : Env} {t : Nat} {a : Option Addr} {c : Nat} (s : Nat) (ht : t < nb) (hr : σ t = .v (.slice a 0 c)) : PreOK σ [(t,.sl s [])] [t] [t]:=by
 refine ⟨fun p hpp=>by obtain rfl:=List.mem_singleton.1 hpp; exact List.mem_singleton.2 rfl,fun G τ ac x hag hR=>?_⟩
 obtain ⟨hd,F,m,h⟩:=hR
 have h1:=h.slots t ht
 rw [hag t (List.mem_singleton.2 rfl),hr] at h1
 refine ⟨hd,F,m,h.recast ht (fun _ _ _ _ he=>by cases he) ?_⟩
 generalize ac.tmps.getD t undef = y at h1
 cases h1 with
 | v _ _=>exact .sl0 m s a c
theorem bne_tf : (true != false) = true:=rfl
theorem bne_ff : (false != false) = false:=rfl
theorem cloneRaw_ok (a : Option Addr) (c : Nat) : Does Tryz.prog 90 [] [.v (.slice a 0 c)] (.sl 5 []) []:=by
 cases a with
 | none=>
  refine does0 c_Z2 mixed (Nat.le_of_ble_eq_true rfl) ?_
  conv=>arg 3; whnf
  repeat' (first|with_reducible refine acc_none ?_ | (conv in hold _=>simp (disch:=omega) only [go_sem,Option.isNone_none,bne_tf])|refine Stp.go ?_|(with_reducible first|refine it_pos rfl ?_|refine it_neg (by decide) ?_|refine st_nil rfl ?_|refine s_op ?_ ?_|exact trivial)|((with_reducible first|refine dw_reg0 ?_|refine dw_regB ?_);(conv=>arg 3;whnf))|(refine Spl.go (fun hq he=>?_) (fun hq he=>?_)<;>first|(exfalso;clear hq;omega)|((try first|(conv=>arg 8;simp only [hq])|(conv=>arg 4;simp only [hq]));clear hq))|((with_reducible first|refine c_split (fun hq=>?_) (fun hq=>?_)|refine q_split (fun hq=>?_) (fun hq=>?_))<;>(try first|(conv=>arg 8;simp only [hq])|(conv=>arg 4;simp only [hq])))|(with_reducible refine fin_0 ?_ (by first|rfl|(conv=>lhs;simp only [go_sem,Option.isNone_none,bne_tf])) ?_)|exact Sub.refl _|omega)
  exact Sub.nul 5
 | some A=>
  refine Bg c_Z2 mixed (go1R trivial ?_)
  (with_reducible first | refine dw_reg0 ?_ | refine dw_regB ?_)
  conv=>arg 3; whnf
  refine go1R trivial ?_
  (with_reducible first | refine dw_reg0 ?_ | refine dw_regB ?_)
  conv=>arg 3; whnf
  repeat' ((fail_if_success (with_reducible first | refine dw_reg0 ?_ | refine dw_regB ?_)); first | with_reducible refine acc_none ?_ | (conv in hold _=>simp (disch:=omega) only [go_sem,Option.isNone_some,bne_ff])|refine Stp.go ?_|(with_reducible first|refine it_pos rfl ?_|refine it_neg (by decide) ?_|refine st_nil rfl ?_|refine s_op ?_ ?_|exact trivial)|((with_reducible first|refine dw_reg0 ?_|refine dw_regB ?_);(conv=>arg 3;whnf))|(refine Spl.go (fun hq he=>?_) (fun hq he=>?_)<;>first|(exfalso;clear hq;omega)|((try first|(conv=>arg 8;simp only [hq])|(conv=>arg 4;simp only [hq]));clear hq))|((with_reducible first|refine c_split (fun hq=>?_) (fun hq=>?_)|refine q_split (fun hq=>?_) (fun hq=>?_))<;>(try first|(conv=>arg 8;simp only [hq])|(conv=>arg 4;simp only [hq])))|(with_reducible refine fin_0 ?_ (by first|rfl|(conv=>lhs;simp only [go_sem,Option.isNone_some,bne_ff])) ?_)|exact Sub.refl _|omega)
  (with_reducible first | refine dw_reg0 ?_ | refine dw_regB ?_)
  conv=>arg 3; whnf
  refine Stp.go ?_
  refine s_pre (pre_raw (t:=0) 5 (by decide) rfl) ?_
  refine go1F trivial ?_
  refine fin_wk (wk_frz 2 2000007 (by decide) (by decide) rfl ?_) ?_
  rotate_left
  (conv in hold _=>simp (disch:=omega) only [go_sem])
  ·refine fin_L [] ?_ ?_ rfl ?_
   repeat' (first|(conv in hold _=>simp (disch:=omega) only [go_sem])|exact trivial|exact Sub.refl _|omega)
  ·rfl
theorem cloneNone_ok : Does Tryz.prog 90 [] [.sl 5 []] (.sl 5 []) []:=by
 intro w F m xs hxl hHle hwf hfz hblk hnone hinj
 match xs,hxl with
 | [x],_=>
  have h0:=hfz 0 _ x rfl rfl
  have hx : ∃ a c,x = .slice a 0 c:=by
   cases h0 with
   | sl0 _ _ a c=>exact ⟨_,_,rfl⟩
   | sl _ _ _ b off c=>exact ⟨_,_,rfl⟩
  obtain ⟨a,c,rfl⟩:=hx
  refine cloneRaw_ok a c w F m [.slice a 0 c] rfl hHle hwf (fun i d y hd hy=>?_) hblk hnone hinj
  match i with
  | 0=>
   obtain rfl : D.v (.slice a 0 c) = d:=by simpa using hd
   obtain rfl : Value.slice a 0 c = y:=by simpa using hy
   exact .v m _
  | i + 1=>simp at hd
theorem ck_ok (es : List E) (i : Nat) (e : E) (hi : es[i]? = some e) (h0 : 0 < e.ks.length) (hl : e.ks.length < 1000000) : Does Tryz.prog 135 [.row 5 (es.map eD)] [.eref 1000000 5 i 0] (.own 1000001 5 e.ks.length) [.row 5 ((es.map eD).set i (holeE e 1000001 e.ks.length)),.row 5 (e.ks.map eD)]:=by
 have hc:=cloneKids_ok e.ks h0 hl
 have hlt:=(List.getElem?_eq_some_iff.1 hi).1
 have hset : ∀ x : D,((es.map eD).set i x)[i]? = some x:=fun x=>by rw [List.getElem?_set_self (by rw [List.length_map]; exact hlt)]
 refine Bk c_Z50 mixed 1 (go1 @hi ?_)
 refine UcR [3000001] (cj2 @hi @hset) (hc) (go1 (cj2 @hi @hset) ?_)
 refine fin_L [1000000,3000001] ?_ ?_ rfl ?_
 repeat' (first|(conv in hold _=>simp (disch:=omega) only [go_sem,set_ren,holeE])|exact trivial|exact Sub.refl _|omega)
theorem ck0_ok (es : List E) (i : Nat) (e : E) (hi : es[i]? = some e) (h0 : e.ks = []) : Does Tryz.prog 135 [.row 5 (es.map eD)] [.eref 1000000 5 i 0] (.sl 5 []) [.row 5 (es.map eD)]:=by
 have hc:=cloneNone_ok
 have hlt:=(List.getElem?_eq_some_iff.1 hi).1
 have hset : ∀ x : D,((es.map eD).set i x)[i]? = some x:=fun x=>by rw [List.getElem?_set_self (by rw [List.length_map]; exact hlt)]
 have hes : (es.map eD).set i (.agg [I e.k,I e.c,Bo e.v.b,I e.v.n,.sl 5 []]) = es.map eD:=by
  refine List.ext_getElem? fun j=>?_
  rw [List.getElem?_set]
  split
  ·rename_i h
   subst h
   rw [List.length_map,if_pos hlt,List.getElem?_map,hi,Option.map_some,eD_eq,h0]
   rfl
  ·rfl
 refine does c_Z50 mixed (Nat.le_of_ble_eq_true rfl) 1 rfl ?_
 conv=>arg 3; whnf
 repeat' (first|with_reducible refine acc_none ?_ | (conv in hold _=>simp (disch:=omega) only [go_sem,List.getElem?_map,hi,Option.map_some,List.length_map,h0,List.map_nil])|refine Stp.go ?_|(with_reducible first|refine it_pos rfl ?_|refine it_neg (by decide) ?_|refine st_nil rfl ?_|refine s_op ?_ ?_|exact trivial)|((with_reducible first|refine dw_reg0 ?_|refine dw_regB ?_);(conv=>arg 3;whnf))|(refine Spl.go (fun hq he=>?_) (fun hq he=>?_)<;>first|(exfalso;clear hq;omega)|((try first|(conv=>arg 8;simp only [hq])|(conv=>arg 4;simp only [hq]));clear hq))|((with_reducible first|refine c_split (fun hq=>?_) (fun hq=>?_)|refine q_split (fun hq=>?_) (fun hq=>?_))<;>(try first|(conv=>arg 8;simp only [hq])|(conv=>arg 4;simp only [hq])))|(with_reducible refine fin_0 ?_ (by first|rfl|(conv=>lhs;simp only [go_sem,List.getElem?_map,hi,Option.map_some,List.length_map,h0,List.map_nil])) ?_)|exact Sub.refl _|omega)
 refine Uc (cj2 @hi @hset) (hc) (go1 (cj2 @hi @hset) ?_)
 refine fin_L [1000000] ?_ ?_ rfl ?_
 repeat' (first|(conv in hold _=>simp (disch:=omega) only [go_sem,hes])|exact trivial|exact Sub.refl _|omega)
end Go.Proofs.YtgpdmgaemhelgaaGreat
set_option maxHeartbeats 4000000
set_option maxRecDepth 100000
namespace Go.Proofs.YtgpdmgaemhelgaaGreat
open Go.ChangeShapes Go.WideShapes Go.ChangeAt Go.RowKit Go.Joins Go.Deep
inductive Pl where
 | mk (k t : Int) (es : List E) (cs : List Int) (ks : List Pl)
namespace Pl
def k : Pl → Int
 | mk k _ _ _ _=>k
def t : Pl → Int
 | mk _ t _ _ _=>t
def es : Pl → List E
 | mk _ _ es _ _=>es
def cs : Pl → List Int
 | mk _ _ _ cs _=>cs
def ks : Pl → List Pl
 | mk _ _ _ _ ks=>ks
end Pl
mutual
def pD : Pl → D
 | .mk k t es cs ks=>.agg [I k,I t,.sl 5 (es.map eD),intsD cs,.sl 5 (pDL ks)]
def pDL : List Pl → List D
 | []=>[]
 | p :: l=>pD p :: pDL l
end
theorem pDL_map : ∀ l : List Pl,pDL l = l.map pD
 | []=>by rw [pDL]; rfl
 | p :: l=>by rw [pDL,pDL_map l]; rfl
theorem pD_eq (p : Pl) : pD p = .agg [I p.k,I p.t,.sl 5 (p.es.map eD),intsD p.cs,.sl 5 (p.ks.map pD)]:=by
 cases p with
 | mk k t es cs ks=>rw [pD,pDL_map]; rfl
theorem plans_pur : ∀ l : List Pl,D.purL (l.map pD) = true
 | []=>rfl
 | p :: l=>by rw [List.map_cons,D.purL,plans_pur l,pD_eq]; rfl
theorem plans_ren (L : List Nat) (l : List Pl) : D.renL L (l.map pD) = l.map pD:=ren_pure.renL_pure L _ (plans_pur l)
theorem Pl.k_mk (k t : Int) (es : List E) (cs : List Int) (ks : List Pl) : (Pl.mk k t es cs ks).k = k:=rfl
theorem Pl.t_mk (k t : Int) (es : List E) (cs : List Int) (ks : List Pl) : (Pl.mk k t es cs ks).t = t:=rfl
theorem Pl.es_mk (k t : Int) (es : List E) (cs : List Int) (ks : List Pl) : (Pl.mk k t es cs ks).es = es:=rfl
theorem Pl.cs_mk (k t : Int) (es : List E) (cs : List Int) (ks : List Pl) : (Pl.mk k t es cs ks).cs = cs:=rfl
theorem Pl.ks_mk (k t : Int) (es : List E) (cs : List Int) (ks : List Pl) : (Pl.mk k t es cs ks).ks = ks:=rfl
attribute [go_sem] pD_eq plans_pur plans_ren Pl.k_mk Pl.t_mk Pl.es_mk Pl.cs_mk Pl.ks_mk
mutual
theorem Pl.indA {P : Pl → Prop} (h : ∀ p,(∀ x,x ∈ p.ks → P x) → P p) : ∀ p,P p
 | .mk k t es cs ks=>h (.mk k t es cs ks) (Pl.indL h ks)
theorem Pl.indL {P : Pl → Prop} (h : ∀ p,(∀ x,x ∈ p.ks → P x) → P p) : ∀ l : List Pl,∀ x,x ∈ l → P x
 | []=>fun _ hx=>by cases hx
 | p :: l=>fun x hx=>(List.mem_cons.1 hx).elim (fun he=>he.symm ▸ Pl.indA h p) (Pl.indL h l x)
end
inductive MostP : Pl → Prop
 | mk {k t : Int} {es : List E} {cs : List Int} {ks : List Pl} (h1 : es.length ≤ big) (h2 : ∀ x,x ∈ es → Most x) (h3 : cs.length ≤ big) (h4 : ks.length ≤ big) (h5 : ∀ x,x ∈ ks → MostP x) : MostP (.mk k t es cs ks)
theorem MostP.lens {p : Pl} (h : MostP p) : p.es.length ≤ big ∧ p.cs.length ≤ big ∧ p.ks.length ≤ big:=by cases h with | mk h1 _ h3 h4 _=>exact ⟨h1,h3,h4⟩
mutual
def psz : Pl → Nat
 | .mk _ _ es cs ks=>eszL es + cs.length + pszL ks
def pszL : List Pl → Nat
 | []=>0
 | p :: l=>1 + psz p + pszL l
end
theorem psz_eq (p : Pl) : psz p = eszL p.es + p.cs.length + pszL p.ks:=by cases p; rfl
theorem pszL_append : ∀ (l m : List Pl),pszL (l ++ m) = pszL l + pszL m
 | [],m=>by rw [List.nil_append,pszL,Nat.zero_add]
 | e :: l,m=>by rw [List.cons_append,pszL,pszL,pszL_append l m]; omega
theorem pszL_next {ps : List Pl} {i : Nat} {x : Pl} (h : ps[i]? = some x) : pszL (ps.take (i + 1)) = pszL (ps.take i) + (1 + psz x):=by
 rw [take_next h,pszL_append,pszL,pszL]
 omega
theorem pszL_len : ∀ l : List Pl,l.length ≤ pszL l
 | []=>Nat.le_refl _
 | e :: l=>by
  have:=pszL_len l
  rw [pszL,List.length_cons]
  omega
theorem pszL_mem {p : Pl} {l : List Pl} (h : p ∈ l) : psz p + 1 ≤ pszL l:=by
 induction l with
 | nil=>cases h
 | cons x l ih=>
  rw [pszL]
  rcases List.mem_cons.1 h with rfl | h
  ·omega
  ·have:=ih h; omega
section
variable {H : Type} {enc : TypeId × Value → H} {W : World} {base b0 : Nat} {held : Bool} {r : Reach} {v : Value} {d : DataW H} {p : List MemPlace}
end
end Go.Proofs.YtgpdmgaemhelgaaGreat
set_option maxHeartbeats 4000000
set_option maxRecDepth 100000
namespace Go.Proofs.YtgpdmgaemhelgaaGreat
open Go.RowKit
theorem kidCount_ok (k : Int) : Does Tryz.prog 189 [] [I k] (I (kidsN k)) []:=by
 refine does0 c_Z115 mixed (Nat.le_of_ble_eq_true rfl) ?_
 conv=>arg 3; whnf
 repeat' (first|with_reducible refine acc_none ?_ | (conv in hold _=>simp (disch:=omega) only [go_sem])|refine Stp.go ?_|(with_reducible first|refine it_pos rfl ?_|refine it_neg (by decide) ?_|refine st_nil rfl ?_|refine s_op ?_ ?_|exact trivial)|((with_reducible first|refine dw_reg0 ?_|refine dw_regB ?_);(conv=>arg 3;whnf))|(refine Spl.go (fun hq he=>?_) (fun hq he=>?_)<;>first|(exfalso;clear hq;omega)|((try first|(conv=>arg 8;simp only [hq])|(conv=>arg 4;simp only [hq]));clear hq))|((with_reducible first|refine c_split (fun hq=>?_) (fun hq=>?_)|refine q_split (fun hq=>?_) (fun hq=>?_))<;>(try first|(conv=>arg 8;simp only [hq])|(conv=>arg 4;simp only [hq])))|(with_reducible refine fin_0 ?_ (by first|rfl|(conv=>lhs;simp only [go_sem])) ?_)|exact Sub.refl _|omega)
 all_goals (refine Sub.of_eq ?_; unfold kidsN; congr 2; omega)
theorem validWithin_ok (w : Int) : ∀ (e : E),(∀ d : Nat,d < 1000 → Does Tryz.prog 176 [] [eD e,I w,I d] (Bo (decide (eOk e w d))) []) ∧ Does Tryz.prog 176 [] [eD e,I w,I (-1)] (Bo false) []:=by
 refine E.ind (fun e ih=>⟨fun d hd=>?_,?_⟩)
 ·have hk2:=kidsN_le e.k
  have hk0 : e.k = 1 ∨ e.k = 2 → kidsN e.k = 0:=kidsN_leaf
  refine Bg c_Z62 mixed (go1 trivial ?_)
  refine c_doesE (kidCount_ok e.k) ?_ ?_ ?_
  ·((try (conv=>rhs;simp (disch:=omega) only [go_sem])); try rfl)
  ·first|rfl|(conv=>lhs;simp only [go_sem])
  repeat' (first|with_reducible refine acc_none ?_ | (conv in hold _=>simp (disch:=omega) only [go_sem])|refine Stp.go ?_|(with_reducible first|refine it_pos rfl ?_|refine it_neg (by decide) ?_|refine st_nil rfl ?_|refine s_op ?_ ?_|exact trivial)|((with_reducible first|refine dw_reg0 ?_|refine dw_regB ?_);(conv=>arg 3;whnf))|(refine Spl.go (fun hq he=>?_) (fun hq he=>?_)<;>first|(exfalso;clear hq;omega)|((try first|(conv=>arg 8;simp only [hq])|(conv=>arg 4;simp only [hq]));clear hq))|((with_reducible first|refine c_split (fun hq=>?_) (fun hq=>?_)|refine q_split (fun hq=>?_) (fun hq=>?_))<;>(try first|(conv=>arg 8;simp only [hq])|(conv=>arg 4;simp only [hq])))|(with_reducible refine fin_0 ?_ (by first|rfl|(conv=>lhs;simp only [go_sem])) ?_)|exact Sub.refl _|omega)
  all_goals try exact sub_f (fun h=>by rw [eOk_iff] at h; have:=h.1; omega)
  all_goals try exact sub_f (fun h=>by rw [eOk_iff] at h; have:=h.2.2.2; revert this; exact leaf2f (by omega) (by omega))
  ·have core : eOk e w d ↔ leafOk e.k e.c e.v w:=by
    rw [eOk_iff]
    exact ⟨fun h=>h.2.2.2,fun h=>⟨by omega,by omega,fun x hx=>by have:=List.length_pos_of_mem hx; omega,h⟩⟩
   by_cases hcol : 0 ≤ e.c ∧ e.c < w
   ·have hr:=isColumn_ok e.c w
    rw [decide_eq_true hcol] at hr
    refine Uc trivial (hr) (go1 trivial ?_)
    exact sub_iff ((leaf1 (by omega) (by omega)).trans core.symm)
   ·have hr:=isColumn_ok e.c w
    rw [decide_eq_false hcol] at hr
    refine Uc trivial (hr) (go1 trivial ?_)
    exact sub_f (fun h=>by rw [eOk_iff] at h; have:=h.2.2.2; revert this; exact leaf1f (by omega) (by omega))
  ·have core : eOk e w d ↔ leafOk e.k e.c e.v w:=by
    rw [eOk_iff]
    exact ⟨fun h=>h.2.2.2,fun h=>⟨by omega,by omega,fun x hx=>by have:=List.length_pos_of_mem hx; omega,h⟩⟩
   refine Uc trivial (Value_valid_ok e.v) (go1 trivial ?_)
   exact sub_iff (by rw [decide_eq_true_iff]; exact (leaf2 (by omega) (by omega)).trans core.symm)
  ·exact sub_f (fun h=>by
    rw [eOk_iff] at h
    rw [(leaf3 (by omega) (by omega) (by omega)).2 h.2.2.2] at hq
    cases hq)
  ·have hlf : leafOk e.k e.c e.v w:=(leaf3 (by omega) (by omega) (by omega)).1 (by simpa using hq)
   refine dw_for (c:=0) (l:=fun i=>[(1,I w),(2,I d),(54,.sl 5 (e.ks.map eD)),(55,I e.ks.length),(56,I i)]) e.ks.length (fun i=>∀ j x,j < i → e.ks[j]? = some x → d ≠ 0 ∧ eOk x w (d - 1)) 0 (by omega) (Wk.list [] rfl rfl ?_) (fun i hi hJ=>?_) (Nat.zero_le _)
   ·repeat' (first|(conv in hold _=>simp (disch:=omega) only [go_sem])|exact trivial|exact Sub.refl _|omega)
    exact rfl
   ·skip
    rcases at_or_end hi with ⟨x,hx,hlt⟩ | rfl
    ·have hkid : Does Tryz.prog 176 [] [eD x,I w,I ((d : Int) - 1)] (Bo (decide (d ≠ 0 ∧ eOk x w (d - 1)))) []:=by
      by_cases h0 : d = 0
      ·subst h0
       rw [decide_eq_false (fun h=>h.1 rfl)]
       exact (ih x (List.mem_of_getElem? hx)).2
      ·have:=(ih x (List.mem_of_getElem? hx)).1 (d - 1) (by omega)
       rw [show ((d - 1 : Nat) : Int) = (d : Int) - 1 by omega] at this
       rw [show decide (d ≠ 0 ∧ eOk x w (d - 1)) = decide (eOk x w (d - 1)) by simp [h0]]
       exact this
     refine go1 @hx ?_
     refine c_doesE (hkid) ?_ ?_ ?_
     ·((try (conv=>rhs;simp (disch:=omega) only [go_sem])); try rfl)
     ·first|rfl|(conv=>lhs;simp only [go_sem])
     repeat' (first|with_reducible refine acc_none ?_ | (conv in hold _=>simp (disch:=omega) only [go_sem])|refine Stp.go ?_|(with_reducible first|refine it_pos rfl ?_|refine it_neg (by decide) ?_|refine st_nil rfl ?_|refine s_op ?_ ?_|exact trivial)|((with_reducible first|refine dw_reg0 ?_|refine dw_regB ?_);(conv=>arg 3;whnf))|(refine Spl.go (fun hq he=>?_) (fun hq he=>?_)<;>first|(exfalso;clear hq;omega)|((try first|(conv=>arg 8;simp only [hq])|(conv=>arg 4;simp only [hq]));clear hq))|((with_reducible first|refine c_split (fun hq=>?_) (fun hq=>?_)|refine q_split (fun hq=>?_) (fun hq=>?_))<;>(try first|(conv=>arg 8;simp only [hq])|(conv=>arg 4;simp only [hq])))|(with_reducible refine fin_0 ?_ (by first|rfl|(conv=>lhs;simp only [go_sem])) ?_)|exact Sub.refl _|omega)
     ·exact sub_f (fun h=>by rw [eOk_iff] at h; exact he ⟨h.2.1 (by omega),h.2.2.1 x (List.mem_of_getElem? hx)⟩)
     ·refine ⟨hlt,upto_next hx hJ he,Wk.list [] rfl rfl ?_⟩
      repeat' (first|(conv in hold _=>simp (disch:=omega) only [go_sem])|exact trivial|exact Sub.refl _|omega)
    ·refine go1 trivial ?_
     refine sub_t ((eOk_iff e w d).2 ⟨by omega,fun h0=>?_,fun x hx=>(upto_all hJ x hx).2,hlf⟩)
     exact (upto_all hJ _ (List.getElem_mem h0)).1
 ·exact Bg c_Z62 mixed (go0 trivial)
theorem implValidExpr_ok (e : E) (w : Int) : Does Tryz.prog 146 [] [eD e,I w] (Bo (decide ((1 ≤ w ∧ w ≤ 6) ∧ eOk e w 8))) []:=by
 have h8:=(validWithin_ok w e).1 8 (by decide)
 refine Bg c_Z91 mixed (go1 trivial ?_)
 refine c_doesE (validWidth_ok w) ?_ ?_ ?_
 ·((try (conv=>rhs;simp (disch:=omega) only [go_sem])); try rfl)
 ·first|rfl|(conv=>lhs;simp only [go_sem])
 repeat' (first|with_reducible refine acc_none ?_ | (conv in hold _=>simp (disch:=omega) only [go_sem])|refine Stp.go ?_|(with_reducible first|refine it_pos rfl ?_|refine it_neg (by decide) ?_|refine st_nil rfl ?_|refine s_op ?_ ?_|exact trivial)|((with_reducible first|refine dw_reg0 ?_|refine dw_regB ?_);(conv=>arg 3;whnf))|(refine Spl.go (fun hq he=>?_) (fun hq he=>?_)<;>first|(exfalso;clear hq;omega)|((try first|(conv=>arg 8;simp only [hq])|(conv=>arg 4;simp only [hq]));clear hq))|((with_reducible first|refine c_split (fun hq=>?_) (fun hq=>?_)|refine q_split (fun hq=>?_) (fun hq=>?_))<;>(try first|(conv=>arg 8;simp only [hq])|(conv=>arg 4;simp only [hq])))|(with_reducible refine fin_0 ?_ (by first|rfl|(conv=>lhs;simp only [go_sem])) ?_)|exact Sub.refl _|omega)
 ·refine Uc trivial (h8) (go1 trivial ?_)
  exact sub_iff (by rw [decide_eq_true_iff]; exact ⟨fun h=>⟨he,h⟩,fun h=>h.2⟩)
 ·exact sub_f (fun h=>he h.1)
end Go.Proofs.YtgpdmgaemhelgaaGreat
