/-
  What the program makes of a plan's kids' widths. No condition.
-/
import Derived.Test.YtefldihjbaodnaaGreatJSDcVWid
import Derived.Test.YtefldihjbaodnaaGreatKSDca
import Derived.Test.YtefldihjbaodnaaGreatJSVPlC
import Derived.Test.YtefldihjbaodnaaGreatJSVGo
import Derived.Test.YtefldihjbaodnaaGreatJSVTbI
import Derived.Test.YtefldihjbaodnaaGreatKSVSort
import Derived.Test.YtefldihjbaodnaaGreatJSVRead
import Derived.Test.YtefldihjbaodnaaGreatJSDcWPRowE
import Derived.Test.YtefldihjbaodnaaGreatJSVDraw
import Derived.Test.YtefldihjbaodnaaGreatJSDcVWidD
import Derived.Test.YtefldihjbaodnaaGreatJSDcWNlP
import Derived.Test.YtefldihjbaodnaaGreatJSVLaw
import Derived.Test.YtefldihjbaodnaaGreatJSVEvS
import Derived.Test.YtefldihjbaodnaaGreatKSVTerm
set_option maxHeartbeats 4000000
set_option maxRecDepth 100000
namespace Go.Proofs.YtefldihjbaodnaaGreat
open Go.RowKit
theorem sum_next {ns : List Int} {i : Nat} {x : Int} (h : ns[i]? = some x) : (ns.take (i + 1)).sum = (ns.take i).sum + x:=by
 rw [take_next h,List.sum_append,List.sum_cons,List.sum_nil]
 omega
theorem sumOf_ok (ns : List Int) (hl : ns.length ≤ 1000) (hn : ∀ (j : Nat) (x : Int),ns[j]? = some x → 0 ≤ x ∧ x ≤ 6) : Does Tryz.prog 109 [] [intsD ns] (I ns.sum) []:=by
 refine Bg c_Z196 mixed (go1 trivial ?_)
 refine dw_for (c:=0) (l:=fun i=>[(3,I (ns.take i).sum),(6,intsD ns),(7,I ns.length),(8,I i)]) ns.length (fun i=>0 ≤ (ns.take i).sum ∧ (ns.take i).sum ≤ 6 * i) 0 (by simp) (Wk.list [] rfl rfl ?_) (fun i hi hJ=>?_) (Nat.zero_le _)
 ·repeat' (first|(conv in hold _=>simp (disch:=omega) only [go_sem])|exact trivial|exact Sub.refl _|omega)
  exact ⟨rfl,rfl⟩
 ·rcases at_or_end hi with ⟨x,hx,hlt⟩ | rfl
  ·have h1:=hn i x hx
   have h2:=sum_next hx
   refine go1 @hx ?_
   refine ⟨hlt,by omega,Wk.list [] rfl rfl ?_⟩
   repeat' (first|(conv in hold _=>simp (disch:=omega) only [go_sem,h2])|exact trivial|exact Sub.refl _|omega)
  ·repeat' (first|with_reducible refine acc_none ?_ | (conv in hold _=>simp (disch:=omega) only [go_sem,List.take_length])|refine Stp.go ?_|(with_reducible first|refine it_pos rfl ?_|refine it_neg (by decide) ?_|refine st_nil rfl ?_|refine s_op ?_ ?_|exact trivial)|((with_reducible first|refine dw_reg0 ?_|refine dw_regB ?_);(conv=>arg 3;whnf))|(refine Spl.go (fun hq he=>?_) (fun hq he=>?_)<;>first|(exfalso;clear hq;omega)|((try first|(conv=>arg 8;simp only [hq])|(conv=>arg 4;simp only [hq]));clear hq))|((with_reducible first|refine c_split (fun hq=>?_) (fun hq=>?_)|refine q_split (fun hq=>?_) (fun hq=>?_))<;>(try first|(conv=>arg 8;simp only [hq])|(conv=>arg 4;simp only [hq])))|(with_reducible refine fin_0 ?_ (by first|rfl|(conv=>lhs;simp only [go_sem,List.take_length])) ?_)|exact Sub.refl _|omega)
def fitsV (p : Pl) (ns : List Int) : Prop:=if p.k = 6 then ns.getD 0 0 = ns.getD 1 0 else if p.k = 8 then p.cs.length < 6 ∧ colsOk p.cs (ns.getD 0 0) else ∀ (j : Nat) (e : E),p.es[j]? = some e → (1 ≤ ns.sum ∧ ns.sum ≤ 6) ∧ eOk e ns.sum 8
noncomputable instance fitsDec (p : Pl) (ns : List Int) : Decidable (fitsV p ns):=Classical.propDecidable _
theorem get_at {ns : List Int} {i : Nat} (h : i < ns.length) : ns[i]? = some (ns.getD i 0):=by
 rw [List.getD_eq_getElem?_getD,List.getElem?_eq_getElem h,Option.getD_some]
theorem get_ex {ns : List Int} {i : Nat} (h : i < ns.length) : ∃ n,ns[i]? = some n ∧ ns.getD i 0 = n:=⟨_,get_at h,rfl⟩
theorem fitsKids_ok (p : Pl) (ns : List Int) (hl : ns.length ≤ 1000) (hc : p.cs.length ≤ 1048576) (he : p.es.length ≤ 1048576) (hn : ∀ (j : Nat) (x : Int),ns[j]? = some x → 0 ≤ x ∧ x ≤ 6) (h0 : 0 < ns.length) (h1 : p.k = 6 → 1 < ns.length) : Does Tryz.prog 106 [] [pD p,intsD ns] (Bo (decide (fitsV p ns))) []:=by
 obtain ⟨n0,e0,g0⟩:=get_ex h0
 by_cases h6 : p.k = 6
 ·obtain ⟨n1,e1,g1⟩:=get_ex (h1 h6)
  rw [show decide (fitsV p ns) = decide (n0 = n1) from decide_eq_decide.2 (by unfold fitsV; rw [if_pos h6,g0,g1])]
  exact Bg c_Z153 mixed (go0 (cj2 @e0 @e1))
 ·by_cases h8 : p.k = 8
  ·rw [show decide (fitsV p ns) = decide (p.cs.length < 6 ∧ colsOk p.cs n0) from decide_eq_decide.2 (by unfold fitsV; rw [if_neg h6,if_pos h8,g0])]
   have hv:=validColumns_ok p.cs n0 hc
   refine Bg c_Z153 mixed (go1 @e0 ?_)
   exact Uc trivial (hv) (go0 trivial)
  ·have hs:=sumOf_ok ns hl hn
   have hfv : fitsV p ns ↔ ∀ (j : Nat) (e : E),p.es[j]? = some e → (1 ≤ ns.sum ∧ ns.sum ≤ 6) ∧ eOk e ns.sum 8:=by unfold fitsV; rw [if_neg h6,if_neg h8]
   refine Bg c_Z153 mixed (go1 trivial ?_)
   refine dw_for (c:=0) (l:=fun i=>[(1,intsD ns),(27,.sl 5 (p.es.map eD)),(28,I p.es.length),(29,I i)]) p.es.length (fun i=>∀ (j : Nat) (e : E),j < i → p.es[j]? = some e → (1 ≤ ns.sum ∧ ns.sum ≤ 6) ∧ eOk e ns.sum 8) 0 (fun j w hj=>by omega) (Wk.list [] rfl rfl ?_) (fun i hi hJ=>?_) (Nat.zero_le _)
   ·repeat' (first|(conv in hold _=>simp (disch:=omega) only [go_sem])|exact trivial|exact Sub.refl _|omega)
    exact rfl
   ·rcases at_or_end hi with ⟨x,hx,hlt⟩ | rfl
    ·have hr:=implValidExpr_ok x ns.sum
     by_cases hv : (1 ≤ ns.sum ∧ ns.sum ≤ 6) ∧ eOk x ns.sum 8
     ·rw [decide_eq_true hv] at hr
      refine go1 @hx ?_
      refine Uc trivial (hs) (go1 trivial ?_)
      refine Uc trivial (hr) (go1 trivial ?_)
      refine ⟨hlt,upto1 (P:=fun _ e=>(1 ≤ ns.sum ∧ ns.sum ≤ 6) ∧ eOk e ns.sum 8) hx hv hJ,Wk.list [] rfl rfl ?_⟩
      repeat' (first|(conv in hold _=>simp (disch:=omega) only [go_sem])|exact trivial|exact Sub.refl _|omega)
     ·rw [decide_eq_false hv] at hr
      refine go1 @hx ?_
      refine Uc trivial (hs) (go1 trivial ?_)
      refine Uc trivial (hr) (go1 trivial ?_)
      exact sub_f (fun h=>hv (hfv.1 h i x hx))
    ·refine go1 trivial ?_
     exact sub_iff ⟨fun _=>hfv.2 (upto0 (P:=fun _ e=>(1 ≤ ns.sum ∧ ns.sum ≤ 6) ∧ eOk e ns.sum 8) hJ),fun _=>rfl⟩
def fromV (p : Pl) (ns : List Int) : Int:=if p.k = 3 then p.es.length else if p.k = 4 ∨ p.k = 5 then ns.sum else if p.k = 8 then p.cs.length + 1 else ns.getD 0 0
theorem widthFrom_ok (p : Pl) (ns : List Int) (hl : ns.length ≤ 1000) (hc : p.cs.length ≤ 1048576) (hn : ∀ (j : Nat) (x : Int),ns[j]? = some x → 0 ≤ x ∧ x ≤ 6) (h0 : 0 < ns.length) : Does Tryz.prog 65 [] [pD p,intsD ns] (I (fromV p ns)) []:=by
 obtain ⟨n0,e0,g0⟩:=get_ex h0
 have hs:=sumOf_ok ns hl hn
 unfold fromV
 rw [g0]
 by_cases h3 : p.k = 3
 ·rw [if_pos h3]
  exact Bg c_Z140 mixed (go0 trivial)
 ·rw [if_neg h3]
  by_cases h4 : p.k = 4 ∨ p.k = 5
  ·rw [if_pos h4]
   refine does0 c_Z140 mixed (Nat.le_of_ble_eq_true rfl) ?_
   conv=>arg 3; whnf
   repeat' (first|with_reducible refine acc_none ?_ | (conv in hold _=>simp (disch:=omega) only [go_sem])|refine Stp.go ?_|(with_reducible first|refine it_pos rfl ?_|refine it_neg (by decide) ?_|refine st_nil rfl ?_|refine s_op ?_ ?_|exact trivial)|((with_reducible first|refine dw_reg0 ?_|refine dw_regB ?_);(conv=>arg 3;whnf))|(refine Spl.go (fun hq he=>?_) (fun hq he=>?_)<;>first|(exfalso;clear hq;omega)|((try first|(conv=>arg 8;simp only [hq])|(conv=>arg 4;simp only [hq]));clear hq))|((with_reducible first|refine c_split (fun hq=>?_) (fun hq=>?_)|refine q_split (fun hq=>?_) (fun hq=>?_))<;>(try first|(conv=>arg 8;simp only [hq])|(conv=>arg 4;simp only [hq])))|(with_reducible refine fin_0 ?_ (by first|rfl|(conv=>lhs;simp only [go_sem])) ?_)|exact Sub.refl _|omega)
   all_goals
    exact Uc trivial (hs) (go0 trivial)
  ·rw [if_neg h4]
   by_cases h8 : p.k = 8
   ·rw [if_pos h8]
    exact Bg c_Z140 mixed (go0 trivial)
   ·rw [if_neg h8]
    exact Bg c_Z140 mixed (go0 @e0)
end Go.Proofs.YtefldihjbaodnaaGreat
set_option linter.unusedVariables false
namespace Go.Proofs.YtefldihjbaodnaaGreat
open Go.RowKit
theorem cntE_pos {row : List V} {l : List (List V)} : 0 < cntE row l ↔ row ∈ l:=by
 unfold cntE
 rw [List.length_pos_iff_exists_mem]
 constructor
 ·rintro ⟨a,ha⟩
  have h:=List.mem_filter.1 ha
  have e : a = row:=cmpR_eq (by simpa using h.2)
  exact e ▸ h.1
 ·intro h
  exact ⟨row,List.mem_filter.2 ⟨h,by simpa using cmpR_self row⟩⟩
theorem cntE_same (row : List V) (l : List (List V)) : cntE row (row :: l) = cntE row l + 1:=by
 unfold cntE
 rw [List.filter_cons,if_pos (by simpa using cmpR_self row),List.length_cons]
theorem cntE_ne {row x : List V} (h : x ≠ row) (l : List (List V)) : cntE row (x :: l) = cntE row l:=by
 unfold cntE
 rw [List.filter_cons,if_neg (fun e=>h (cmpR_eq (by simpa using e)))]
theorem asc_sub {l m : List (List V)} (h : l.Sublist m) (am : Asc m) : Asc l:=am.sublist h
theorem rsw_sub {w : Nat} {l m : List (List V)} (h : l.Sublist m) (hm : RsW w m) : RsW w l:=fun r hr=>hm r (h.subset hr)
end Go.Proofs.YtefldihjbaodnaaGreat
set_option maxHeartbeats 4000000
set_option maxRecDepth 100000
set_option linter.unusedVariables false
set_option linter.unusedSimpArgs false
namespace Go.Proofs.YtefldihjbaodnaaGreat
open Go.RowKit
def okR (w : Nat) (r : List V) : Prop:=r.length = w ∧ ∀ v,v ∈ r → v.ok
theorem ord_rows (w : Nat) : OrdOn cmpR (okR w) where
 irrefl a _:=by have:=cmpR_self a; omega
 trans a b c ha hb hc h1 h2:=(cmpR_trans a b c (by have:=ha.1; have:=hb.1; omega) (by have:=hb.1; have:=hc.1; omega) ha.2 hb.2 hc.2 (by omega)).2 h2
 ntrans a b c ha hb hc h1 h2:=by
  have e1:=cmpR_anti a b (by have:=ha.1; have:=hb.1; omega) ha.2 hb.2
  have e2:=cmpR_anti b c (by have:=hb.1; have:=hc.1; omega) hb.2 hc.2
  have e3:=cmpR_anti a c (by have:=ha.1; have:=hc.1; omega) ha.2 hc.2
  have:=(cmpR_trans c b a (by have:=hc.1; have:=hb.1; omega) (by have:=hb.1; have:=ha.1; omega) hc.2 hb.2 ha.2 (by omega)).1 (by omega)
  omega
theorem sortL_srt {w : Nat} {rs : List (List V)} (h : RsW w rs) : sortL cmpR rs = srt rs:=by
 have hp:=sortL_perm (ord_rows w) rs h
 refine srt_unique h hp ?_
 refine List.Pairwise.imp_of_mem ?_ (sortL_asc (ord_rows w) rs h)
 intro a b ha hb hab
 have ga:=h a (hp.mem_iff.1 ha)
 have gb:=h b (hp.mem_iff.1 hb)
 have:=cmpR_anti a b (by omega) ga.2 gb.2
 unfold leR
 omega
theorem sortRows_ok (w : Nat) (hw : w < 1000) (rs : List (List V)) (h : RsW w rs) (hl : rs.length ≤ 100000) : Does Tryz.prog 68 [.row 1 (rs.map rowD)] [.own 1000000 1 rs.length,.fn 69 []] (.tup []) [.row 1 ((srt rs).map rowD)]:=by
 have:=sort_own rowsSort (g:=69) (by kernel_rfl) (caps:=[]) rfl rowD (fun _=>rfl) (fun _=>rfl) (ord_rows w) (fun a b ha hb=>compareRows_impl a b (by have:=ha.1; have:=hb.1; omega) (by have:=ha.1; omega) ha.2 hb.2) rs h (by omega)
 rw [sortL_srt h] at this
 exact this
end Go.Proofs.YtefldihjbaodnaaGreat
set_option linter.unusedVariables false
namespace Go.Proofs.YtefldihjbaodnaaGreat
open Go.RowKit
theorem asc_of_tOk {t : Ta} (h : tOk t) : Asc t.rows:=by
 refine List.pairwise_iff_getElem.2 (fun i j hi hj hij=>?_)
 have:=tOk_le h (j - i) i t.rows[i] t.rows[j] (List.getElem?_eq_getElem hi) (by rw [show i + (j - i) = j by omega]; exact List.getElem?_eq_getElem hj)
 exact this
theorem rsw_of_tOk {t : Ta} (h : tOk t) : RsW t.w.toNat t.rows:=fun r hr=>by
 obtain ⟨i,hi⟩:=List.mem_iff_getElem?.1 hr
 have:=h.2 i r hi
 exact ⟨by have:=this.1.2; omega,this.1.1.2⟩
end Go.Proofs.YtefldihjbaodnaaGreat
set_option maxHeartbeats 4000000
set_option maxRecDepth 100000
set_option linter.unusedVariables false
set_option linter.unusedSimpArgs false
namespace Go.Proofs.YtefldihjbaodnaaGreat
open Go.RowKit
theorem copyRow_ok (vs : List V) (hl : vs.length < 2000000) : Does Tryz.prog 102 [] [rowD vs] (rowD vs) []:=by
 refine Bg c_Z186 mixed (go1F trivial ?_)
 refine fin_wk (wk_frz 2 2000005 (by decide) (by decide) rfl ?_) ?_
 rotate_left
 (conv in hold _=>simp (disch:=omega) only [go_sem,take_all])
 ·refine fin_L [] ?_ ?_ rfl ?_
  repeat' (first|(conv in hold _=>simp (disch:=omega) only [go_sem])|exact trivial|exact Sub.refl _|omega)
 ·exact vals_pur _
theorem insertRow_own (rs : List (List V)) (r : List V) (w : Nat) (hw : w < 1000) (hl : rs.length ≤ 400) (hs : RsW w (r :: rs)) (ha : Asc rs) : Does Tryz.prog 133 [] [rowsD rs,rowD r] (.own 1000000 1 (ins r rs).length) [.row 1 ((ins r rs).map rowD)]:=by
 have hr:=hs r (List.mem_cons_self ..)
 have hcp:=copyRow_ok r (by omega)
 let p : Nat → Bool:=fun j=>decide (0 < cmpR (rs.getD j []) r)
 have hat : ∀ (j : Nat) (x : List V),rs[j]? = some x → p j = decide (0 < cmpR x r):=fun j x hj=>by
  show decide (0 < cmpR (rs.getD j []) r) = _
  rw [List.getD_eq_getElem?_getD,hj]
  rfl
 have hp : ∀ i j,i ≤ j → j < rs.length → p i = true → p j = true:=fun i j hij hj hi=>by
  have e1:=List.getElem?_eq_getElem (l:=rs) (i:=i) (by omega)
  have e2:=List.getElem?_eq_getElem hj
  rw [hat _ _ e1] at hi
  rw [hat _ _ e2]
  have g1:=hs _ (List.mem_cons_of_mem _ (List.getElem_mem (l:=rs) (n:=i) (by omega)))
  have g2:=hs _ (List.mem_cons_of_mem _ (List.getElem_mem hj))
  by_cases hij' : i = j
  ·subst hij'; exact hi
  ·have h1:=asc_at ha (show i < j by omega) e1 e2
   have hi:=of_decide_eq_true hi
   refine decide_eq_true ?_
   have h2:=cmpR_anti _ r (by omega) g1.2 hr.2
   have h3:=cmpR_anti _ r (by omega) g2.2 hr.2
   have h4:=(cmpR_trans r _ _ (by omega) (by omega) hr.2 g1.2 g2.2 (by omega)).1 h1
   by_cases h5 : cmpR r rs[j] = 0
   ·have e:=cmpR_eq h5
    have h6:=cmpR_anti rs[i] rs[j] (by omega) g1.2 g2.2
    unfold leR at h1
    rw [← e] at h1
    omega
   ·omega
 clear_value p
 have hinv:=itB_inv (p:=p) (n:=rs.length) hp
 have hend:=hinv rs.length
 have hee : (itB p rs.length rs.length).1 = (itB p rs.length rs.length).2:=by omega
 have hres : ins r rs = rs.take (itB p rs.length rs.length).1 ++ r :: rs.drop (itB p rs.length rs.length).1:=by
  refine ins_at r rs _ (by omega) (fun j x hj hx=>?_) (fun x hx=>?_)
  ·have h1:=hend.2.1 j hj
   rw [hat j x hx] at h1
   have:=of_decide_eq_false h1
   omega
  ·have h1:=hend.2.2 _ (by omega) (List.getElem?_eq_some_iff.1 hx).1
   rw [hat _ x hx] at h1
   have:=of_decide_eq_true h1
   omega
 have hil : (ins r rs).length = rs.length + 1:=(ins_perm r rs).length_eq
 rw [hil]
 refine Bk c_Z146 mixed 0 (go1 trivial ?_)
 refine dw_for (c:=0) (l:=fun i=>[(0,rowsD rs),(1,rowD r),(5,I (itB p rs.length i).1),(6,I (itB p rs.length i).2)]) rs.length (fun _=>True) 0 trivial (Wk.list [] rfl rfl ?_) (fun i hi _=>?_) (Nat.zero_le _)
 ·repeat' (first|(conv in hold _=>simp (disch:=omega) only [go_sem])|exact trivial|exact Sub.refl _|omega)
  exact ⟨rfl,rfl⟩
 ·have hi3:=hinv i
  have hnx : itB p rs.length (i + 1) = stepB p (itB p rs.length i):=rfl
  have hstop:=itB_end (p:=p) (n:=rs.length) (i:=i)
  by_cases hlt : (itB p rs.length i).1 < (itB p rs.length i).2
  ·generalize itB p rs.length i = s at hi3 hnx hstop hlt
   obtain ⟨lo,hi'⟩:=s
   simp only at hi3 hstop hlt
   have hmid : ((lo : Int) + (hi' : Int)).tdiv 2 = (((lo + hi') / 2 : Nat) : Int):=by
    rw [Int.tdiv_eq_ediv_of_nonneg (by omega)]
    omega
   have hw' : IntKind.i64.wrap (((lo + hi') / 2 : Nat) : Int) = (((lo + hi') / 2 : Nat) : Int):=wrap64 (by omega) (by omega)
   have hx:=List.getElem?_eq_getElem (l:=rs) (i:=(lo + hi') / 2) (by omega)
   generalize rs[(lo + hi') / 2]'(by omega) = x at hx
   have hxl:=hs x (List.mem_cons_of_mem _ (List.mem_of_getElem? hx))
   have hc:=compareRows_spec x r (by omega) (by omega)
   have hatm:=hat _ x hx
   have hmr : (lo + hi') / 2 < rs.length:=by omega
   unfold stepB at hnx
   simp only [hlt,if_true] at hnx
   generalize (lo + hi') / 2 = m at hmid hw' hx hatm hmr hnx
   by_cases hm : cmpR x r ≤ 0
   ·rw [decide_eq_false (by omega)] at hatm
    rw [hatm] at hnx
    simp only [Bool.false_eq_true,if_false] at hnx
    refine go1 (cj3 @hmid @hw' @hx) ?_
    refine Uc trivial (hc) (go1 trivial ?_)
    refine ⟨by omega,trivial,Wk.list [] rfl rfl ?_⟩
    repeat' (first|(conv in hold _=>simp (disch:=omega) only [go_sem,hnx])|exact trivial|exact Sub.refl _|omega)
   ·rw [decide_eq_true (by omega)] at hatm
    rw [hatm] at hnx
    simp only [if_true] at hnx
    refine go1 (cj3 @hmid @hw' @hx) ?_
    refine Uc trivial (hc) (go1 trivial ?_)
    refine ⟨by omega,trivial,Wk.list [] rfl rfl ?_⟩
    repeat' (first|(conv in hold _=>simp (disch:=omega) only [go_sem,hnx])|exact trivial|exact Sub.refl _|omega)
  ·have he1:=hstop hlt (rs.length - i)
   rw [show i + (rs.length - i) = rs.length by omega] at he1
   rw [he1] at hres
   generalize itB p rs.length i = s at hi3 hlt hres
   obtain ⟨lo,hi'⟩:=s
   simp only at hi3 hlt hres
   rw [hres]
   have t1 : (rs.map rowD).take lo = (rs.take lo).map rowD:=List.map_take.symm
   have t2 : (rs.map rowD).take rs.length = rs.map rowD:=take_all rowD rs
   have t3 : (rs.map rowD).drop lo = (rs.drop lo).map rowD:=List.map_drop.symm
   have t4 : (rs.take lo).length = lo:=by rw [List.length_take]; omega
   have t5 : (rs.drop lo).length = rs.length - lo:=List.length_drop
   have t6 : ((rs.take lo).map rowD).take lo = (rs.take lo).map rowD:=List.take_of_length_le (by rw [List.length_map,t4]; exact Nat.le_refl _)
   have t7 : ((rs.take lo).map rowD).length = lo:=by rw [List.length_map,t4]
   have t8 : ((rs.take lo).map rowD ++ [rowD r]).length = lo + 1:=by rw [List.length_append,t7]; rfl
   have t9 : ((rs.take lo).map rowD ++ [rowD r]).take (lo + 1) = (rs.take lo).map rowD ++ [rowD r]:=List.take_of_length_le (by rw [t8]; exact Nat.le_refl _)
   have ta : lo + 1 + (rs.length - lo) = rs.length + 1:=by omega
   have tb : ((rs.map rowD).take rs.length).drop lo = (rs.drop lo).map rowD:=by rw [t2,t3]
   rw [rowD] at t8 t9
   refine go1 (cj7 @t1 @t2 @t3 @t4 @t5 @t6 @t7) ?_
   refine c_doesE (hcp) ?_ ?_ ?_
   ·((try (conv=>rhs;simp (disch:=omega) only [go_sem,t1,t2,t3,t4,t5,t6,t7,t8,t9,List.length_map])); try rfl)
   ·first|rfl|(conv=>lhs;simp only [go_sem,t1,t2,t3,t4,t5,t6,t7,t8,t9,List.length_map])
   repeat' (first|with_reducible refine acc_none ?_ | (conv in hold _=>simp (disch:=omega) only [go_sem,t1,t2,t3,t4,t5,t6,t7,t8,t9,List.length_map])|refine Stp.go ?_|(with_reducible first|refine it_pos rfl ?_|refine it_neg (by decide) ?_|refine st_nil rfl ?_|refine s_op ?_ ?_|exact trivial)|((with_reducible first|refine dw_reg0 ?_|refine dw_regB ?_);(conv=>arg 3;whnf))|(refine Spl.go (fun hq he=>?_) (fun hq he=>?_)<;>first|(exfalso;clear hq;omega)|((try first|(conv=>arg 8;simp only [hq])|(conv=>arg 4;simp only [hq]));clear hq))|((with_reducible first|refine c_split (fun hq=>?_) (fun hq=>?_)|refine q_split (fun hq=>?_) (fun hq=>?_))<;>(try first|(conv=>arg 8;simp only [hq])|(conv=>arg 4;simp only [hq])))|(with_reducible refine fin_0 ?_ (by first|rfl|(conv=>lhs;simp only [go_sem,t1,t2,t3,t4,t5,t6,t7,t8,t9,List.length_map])) ?_)|exact Sub.refl _|omega)
   refine fin_L [2000042] ?_ ?_ rfl ?_
   repeat' (first|(conv in hold _=>simp (disch:=omega) only [go_sem,ta,List.map_append,List.map_cons])|exact trivial|exact Sub.refl _|omega)
   refine congrArg (D.row 1) ?_
   have hren : ∀ l : List (List V),D.renL [2000042] (l.map rowD) = l.map rowD:=rows_ren [2000042]
   have e5 : List.map rowD (rs.take lo) ++ D.sl 2 (List.map vD r) :: List.map rowD (rs.drop lo) = (rs.take lo ++ r :: rs.drop lo).map rowD:=by rw [List.map_append,List.map_cons]; rfl
   rw [e5,hren,← e5,List.append_assoc]
   rfl
end Go.Proofs.YtefldihjbaodnaaGreat
set_option maxHeartbeats 4000000
set_option maxRecDepth 100000
namespace Go.Proofs.YtefldihjbaodnaaGreat
open Go.RowKit
def zeroIn (ns : List Int) : Prop:=∃ j : Nat,ns[j]? = some (0 : Int)
noncomputable instance zeroDec (ns : List Int) : Decidable (zeroIn ns):=Classical.propDecidable _
noncomputable instance resDec (p : Pl) (ns : List Int) : Decidable (fieldsI p ∧ fitsV p ns):=Classical.propDecidable _
noncomputable def resV (p : Pl) (ns : List Int) : Int:=if zeroIn ns then 0 else if fieldsI p ∧ fitsV p ns then fromV p ns else 0
theorem resV_z {p : Pl} {ns : List Int} (h : zeroIn ns) : resV p ns = 0:=if_pos h
theorem resV_t {p : Pl} {ns : List Int} (h : ¬ zeroIn ns) (h1 : fieldsI p) (h2 : fitsV p ns) : resV p ns = fromV p ns:=by unfold resV; rw [if_neg h,if_pos ⟨h1,h2⟩]
theorem resV_f {p : Pl} {ns : List Int} (h2 : ¬ (fieldsI p ∧ fitsV p ns)) : resV p ns = 0:=by
 unfold resV
 by_cases hz : zeroIn ns
 ·rw [if_pos hz]
 ·rw [if_neg hz,if_neg h2]
theorem widthWithin_main (p : Pl) (ws : List Int) (d : Nat) (hd : d < 1000) (hf : fieldsI p) (hk : ¬ p.k = 1) (hc : p.cs.length ≤ 1048576) (he : p.es.length ≤ 1048576) (ns : List Int) (hl : ns.length = p.ks.length) (hn : ∀ (j : Nat) (x : Int),ns[j]? = some x → 0 ≤ x ∧ x ≤ 6)
  (hB : ∀ (i : Nat) (x : Pl) (n : Int),p.ks[i]? = some x → ns[i]? = some n → Does Tryz.prog 63 [] [pD x,intsD ws,I ((d : Int) - 1)] (I n) []) : Does Tryz.prog 63 [] [pD p,intsD ws,I d] (I (resV p ns)) []:=by
 have ho:=hasOwnFields_ok p
 rw [decide_eq_true hf] at ho
 have hf1:=hf.1
 have hks : 1 ≤ p.ks.length ∧ p.ks.length ≤ 2:=by unfold fields at hf1; omega
 have hk6 : p.k = 6 → 1 < ns.length:=by unfold fields at hf1; omega
 have hfit:=fitsKids_ok p ns (by omega) hc he hn (by omega) hk6
 have hfrom:=widthFrom_ok p ns (by omega) hc hn (by omega)
 refine Bg c_Z107 mixed (go1 trivial ?_)
 refine Uc trivial (ho) (go1 trivial ?_)
 refine dw_for (c:=2) (l:=fun i=>[(1,intsD ws),(2,I d),(3,.ref 1000000 0),(7,.own 1000001 1 i),(37,.sl 5 (p.ks.map pD)),(38,I p.ks.length),(39,I i),(1000000,.obj [I p.k,I p.t,.sl 5 (p.es.map eD),intsD p.cs,.sl 5 (p.ks.map pD)]),(1000001,.row 1 ((ns.take i).map I))]) p.ks.length (fun i=>∀ (j : Nat) (n : Int),j < i → ns[j]? = some n → ¬ n = 0) 0 (fun j n hj=>by omega) ((wk_row 7 2000053 1 (by decide) (by decide) rfl rfl).trans (Wk.list [2000003,2000053] rfl rfl ?_)) (fun i hi hJ=>?_) (Nat.zero_le _)
 ·repeat' (first|(conv in hold _=>simp (disch:=omega) only [go_sem])|exact trivial|exact Sub.refl _|omega)
  exact rfl
 ·have hlt:=take_len (vs:=ns) (i:=i) (by omega)
  have hmt:=take_map I (vs:=ns) (i:=i) (by omega)
  by_cases hil : i < p.ks.length
  ·obtain ⟨x,hx⟩ : ∃ x,p.ks[i]? = some x:=⟨_,List.getElem?_eq_getElem hil⟩
   obtain ⟨n,hnx,_⟩:=get_ex (ns:=ns) (i:=i) (by omega)
   have hix:=hB i x n hx hnx
   have htn:=take_next hnx
   by_cases hn0 : n = 0
   ·rw [resV_z ⟨i,by rw [hnx,hn0]⟩]
    refine go1 @hx ?_
    exact Uc trivial (hix) (go0 trivial)
   ·refine go1 @hx ?_
    refine Uc trivial (hix) (go1 trivial ?_)
    refine ⟨hil,upto1 (P:=fun _ n=>¬ n = 0) hnx hn0 hJ,Wk.list [1000000,2000053] rfl rfl ?_⟩
    repeat' (first|(conv in hold _=>simp (disch:=omega) only [go_sem])|exact trivial|exact Sub.refl _|omega)
    rw [hmt,htn,List.map_append,List.map_cons,List.map_nil]
  ·obtain rfl : i = p.ks.length:=by omega
   have hz : ¬ zeroIn ns:=fun ⟨j,hj⟩=>hJ j 0 (by rw [← hl]; exact (List.getElem?_eq_some_iff.1 hj).1) hj rfl
   have e1 : ns.take p.ks.length = ns:=List.take_of_length_le (by omega)
   have e2 : (ns.map I).take p.ks.length = ns.map I:=List.take_of_length_le (by rw [List.length_map]; omega)
   by_cases hv : fitsV p ns
   ·rw [decide_eq_true hv] at hfit
    rw [resV_t hz hf hv]
    refine go1C @e1 ?_
    refine s_pre (pre_frz2 (t:=56) (u:=7) (g:=1000001) (by decide) (by decide) (by decide) rfl ?_) ?_
    rotate_left
    refine go1 (cj3 @e1 @e2 @hl) ?_
    ·refine Uc trivial (hfit) (go1 trivial ?_)
     exact Uc trivial (hfrom) (go0 trivial)
    ·exact ints_pur _
   ·rw [decide_eq_false hv] at hfit
    rw [resV_f (fun h=>hv h.2)]
    refine go1C @e1 ?_
    refine s_pre (pre_frz2 (t:=56) (u:=7) (g:=1000001) (by decide) (by decide) (by decide) rfl ?_) ?_
    rotate_left
    refine go1 (cj3 @e1 @e2 @hl) ?_
    ·exact Uc trivial (hfit) (go0 trivial)
    ·exact ints_pur _
end Go.Proofs.YtefldihjbaodnaaGreat
set_option maxHeartbeats 4000000
set_option maxRecDepth 100000
namespace Go.Proofs.YtefldihjbaodnaaGreat
open Go.RowKit
def stV (v : V) : Int:=if v.b = true then 4 else if v.n = 0 then 1 else 2
theorem stateOf_impl (v : V) : Does Tryz.prog 251 [] [vD v] (I (stV v)) []:=by
 have h:=truth_of_ok v
 unfold itr at h
 unfold stV
 by_cases hb : v.b = true
 ·rw [if_pos hb] at h ⊢
  refine Bg c_Z181 mixed (go1 trivial ?_)
  exact Uc trivial (h) (go0 trivial)
 ·rw [if_neg hb] at h ⊢
  by_cases hn : v.n = 0
  ·rw [if_pos hn] at h ⊢
   refine Bg c_Z181 mixed (go1 trivial ?_)
   exact Uc trivial (h) (go0 trivial)
  ·rw [if_neg hn] at h ⊢
   refine Bg c_Z181 mixed (go1 trivial ?_)
   exact Uc trivial (h) (go0 trivial)
def valS (x : Int) : V:=if x = 4 then ⟨true,0⟩ else if x = 2 then ⟨false,1⟩ else ⟨false,0⟩
def sT (t : Int) : Int:=stV (itv t)
def tt : List Int:=[0,1,2]
def tsel (a t : Int) : Bool:=intBit .and .i64 a (sT t) != 0
def tl (a : Int) : List Int:=tt.filter (tsel a)
theorem tl_len (a : Int) : (tl a).length ≤ 3:=List.length_filter_le ..
theorem truthsOf_ok (a : Int) : Does Tryz.prog 260 [] [I a] (.sl 1 ((tl a).map I)) []:=by
 refine Bg c_Z160 mixed (go1 trivial ?_)
 refine dw_for (c:=1) (l:=fun i=>[(0,I a),(3,.own 1000000 1 ((tt.take i).filter (tsel a)).length),(6,.sl 1 (tt.map I)),(7,I 3),(8,I i),(1000000,.row 1 (((tt.take i).filter (tsel a)).map I))]) 3 (fun _=>True) 0 trivial ((wk_row 3 2000021 1 (by decide) (by decide) rfl rfl).trans (Wk.list [2000021] rfl rfl ?_)) (fun i hi _=>?_) (Nat.zero_le _)
 ·repeat' (first|(conv in hold _=>simp (disch:=omega) only [go_sem])|exact trivial|exact Sub.refl _|omega)
  exact ⟨rfl,rfl,rfl,rfl,rfl⟩
 ·by_cases hil : i < 3
  ·obtain ⟨x,hx⟩ : ∃ x,tt[i]? = some x:=⟨_,List.getElem?_eq_getElem (show i < tt.length from hil)⟩
   have hv:=truth_value_ok x
   have hs:=stateOf_impl (itv x)
   have hnx:=take_next hx
   have hfl : ((tt.take i).filter (tsel a)).length ≤ 3:=Nat.le_trans (List.length_filter_le ..) (by rw [List.length_take]; exact Nat.min_le_right ..)
   have htl : tt.length = 3:=rfl
   refine go1 @hx ?_
   refine Uc trivial (hv) (go1 trivial ?_)
   refine c_doesE (hs) ?_ ?_ ?_
   ·((try (conv=>rhs;simp (disch:=omega) only [go_sem])); try rfl)
   ·first|rfl|(conv=>lhs;simp only [go_sem])
   repeat' (first|with_reducible refine acc_none ?_ | (conv in hold _=>simp (disch:=omega) only [go_sem])|refine Stp.go ?_|(with_reducible first|refine it_pos rfl ?_|refine it_neg (by decide) ?_|refine st_nil rfl ?_|refine s_op ?_ ?_|exact trivial)|((with_reducible first|refine dw_reg0 ?_|refine dw_regB ?_);(conv=>arg 3;whnf))|(refine Spl.go (fun hq he=>?_) (fun hq he=>?_)<;>first|(exfalso;clear hq;omega)|((try first|(conv=>arg 8;simp only [hq])|(conv=>arg 4;simp only [hq]));clear hq))|((with_reducible first|refine c_split (fun hq=>?_) (fun hq=>?_)|refine q_split (fun hq=>?_) (fun hq=>?_))<;>(try first|(conv=>arg 8;simp only [hq])|(conv=>arg 4;simp only [hq])))|(with_reducible refine fin_0 ?_ (by first|rfl|(conv=>lhs;simp only [go_sem])) ?_)|exact Sub.refl _|omega)
   ·have hsel : tsel a x = true:=bne_iff_ne.2 (by assumption)
    have hfn : (tt.take (i + 1)).filter (tsel a) = (tt.take i).filter (tsel a) ++ [x]:=by
     rw [hnx,List.filter_append,List.filter_cons,if_pos hsel]
     rfl
    refine ⟨hil,trivial,Wk.list [2000021] rfl rfl ?_⟩
    repeat' (first|(conv in hold _=>simp (disch:=omega) only [go_sem])|exact trivial|exact Sub.refl _|omega)
    rw [hfn,List.length_append,List.map_append]
    exact ⟨rfl,rfl⟩
   ·have hsel : ¬ tsel a x = true:=fun h=>bne_iff_ne.1 h (by assumption)
    have hfn : (tt.take (i + 1)).filter (tsel a) = (tt.take i).filter (tsel a):=by
     rw [hnx,List.filter_append,List.filter_cons,if_neg hsel]
     simp
    refine ⟨hil,trivial,Wk.list [1000000] rfl rfl ?_⟩
    repeat' (first|(conv in hold _=>simp (disch:=omega) only [go_sem])|exact trivial|exact Sub.refl _|omega)
    rw [hfn]
    exact ⟨rfl,rfl⟩
  ·obtain rfl : i = 3:=by omega
   have e1 : tt.take 3 = tt:=rfl
   have e2 : ((tl a).map I).take (tl a).length = (tl a).map I:=List.take_of_length_le (by rw [List.length_map]; exact Nat.le_refl _)
   have e3 : tt.filter (tsel a) = tl a:=rfl
   refine go1F (cj2 @e1 @e3) ?_
   refine fin_wk (wk_frz 2 1000000 (by decide) (by decide) rfl ?_) ?_
   rotate_left
   (conv in hold _=>simp (disch:=omega) only [go_sem,e2,Nat.le_refl])
   ·refine fin_L [] ?_ ?_ rfl ?_
    repeat' (first|(conv in hold _=>simp (disch:=omega) only [go_sem])|exact trivial|exact Sub.refl _|omega)
   ·exact ints_pur _
def neg (a : Int) : Int:=(tl a).foldl (fun r t=>intBit .or .i64 r (sT (2 - t))) 0
theorem foldl_next {α β : Type} {f : β → α → β} {z : β} {l : List α} {i : Nat} {x : α} (h : l[i]? = some x) : (l.take (i + 1)).foldl f z = f ((l.take i).foldl f z) x:=by
 rw [take_next h,List.foldl_append]
 rfl
theorem tl_mem {a t : Int} (h : t ∈ tl a) : 0 ≤ t ∧ t ≤ 2:=by
 have:=(List.mem_filter.1 h).1
 simp [tt] at this
 omega
theorem negatedStates_ok (a : Int) : Does Tryz.prog 252 [] [I a] (I (neg a)) []:=by
 have h:=truthsOf_ok a
 have hl:=tl_len a
 refine Bg c_Z70 mixed (go1 trivial ?_)
 refine Uc trivial (h) (go1 trivial ?_)
 refine dw_for (c:=0) (l:=fun i=>[(3,I (((tl a).take i).foldl (fun r t=>intBit .or .i64 r (sT (2 - t))) 0)),(7,.sl 1 ((tl a).map I)),(8,I (tl a).length),(9,I i)]) (tl a).length (fun _=>True) 0 trivial (Wk.list [] rfl rfl ?_) (fun i hi _=>?_) (Nat.zero_le _)
 ·repeat' (first|(conv in hold _=>simp (disch:=omega) only [go_sem])|exact trivial|exact Sub.refl _|omega)
  exact ⟨rfl,rfl⟩
 ·rcases at_or_end hi with ⟨x,hx,hlt⟩ | rfl
  ·have hn:=truth_not_ok x (tl_mem (List.mem_of_getElem? hx))
   have hv:=truth_value_ok (2 - x)
   have hs:=stateOf_impl (itv (2 - x))
   have hnx:=foldl_next (f:=fun r t=>intBit .or .i64 r (sT (2 - t))) (z:=(0 : Int)) hx
   refine go1 @hx ?_
   refine Uc trivial (hn) (go1 trivial ?_)
   refine Uc trivial (hv) (go1 trivial ?_)
   refine Uc trivial (hs) (go1 trivial ?_)
   refine ⟨hlt,trivial,Wk.list [] rfl rfl ?_⟩
   repeat' (first|(conv in hold _=>simp (disch:=omega) only [go_sem,hnx])|exact trivial|exact Sub.refl _|omega)
   rfl
  ·have e1 : (tl a).take (tl a).length = tl a:=List.take_length
   exact go0 @e1
end Go.Proofs.YtefldihjbaodnaaGreat
