/-
  NOT IN, in both packages. No condition.
-/
import Derived.Test.YtedmegmhjmabcaaKSDca
import Derived.Test.YtedmegmhjmabcaaKSDcg
import Derived.Test.YtedmegmhjmabcaaKSVSemJ
import Derived.Test.YtedmegmhjmabcaaKSDcb
import Derived.Test.YtedmegmhjmabcaaJSDcc
import Derived.Test.YtedmegmhjmabcaaKSVDrawTc
set_option maxHeartbeats 4000000
set_option maxRecDepth 100000
set_option linter.unusedVariables false
set_option linter.unusedSimpArgs false
namespace Go.Proofs.Ytedmegmhjmabcaa
open Go.RowKit
def nul (os : List V) : Bool:=os.any (fun v=>v.b)
noncomputable def nin (os : List V) (v : V) : Bool:=os.isEmpty || (!nul os && !v.b && !mch os v)
theorem nul_perm {os s : List V} (h : s.Perm os) : nul s = nul os:=by
 unfold nul
 rw [Bool.eq_iff_iff,List.any_eq_true,List.any_eq_true]
 exact ⟨fun ⟨x,hx,hb⟩=>⟨x,h.mem_iff.1 hx,hb⟩,fun ⟨x,hx,hb⟩=>⟨x,h.mem_iff.2 hx,hb⟩⟩
theorem emp_perm {os s : List V} (h : s.Perm os) : s.isEmpty = os.isEmpty:=by
 have:=h.length_eq
 cases s <;> cases os <;> simp_all
theorem nin_perm {os s : List V} (h : s.Perm os) (v : V) : nin s v = nin os v:=by
 unfold nin
 rw [nul_perm h,emp_perm h,mch_perm h]
theorem nul_head {x : V} {os : List V} (hs : (x :: os).Pairwise (fun a b=>cmpV a b ≤ 0)) : nul (x :: os) = x.b:=by
 cases hb : x.b with
 | true=>simp [nul,hb]
 | false=>
  unfold nul
  rw [Bool.eq_false_iff]
  intro h
  obtain ⟨y,hy,hyb⟩:=List.any_eq_true.1 h
  rcases List.mem_cons.1 hy with rfl | hy
  ·rw [hb] at hyb; cases hyb
  ·have h1:=List.rel_of_pairwise_cons hs hy
   have h2 : cmpV x y = 1:=cmpV_g (fun e=>by rw [hb,hyb] at e; cases e.1) (fun e=>by rw [hb,hyb] at e; rcases e with e | e <;> simp at e)
   omega
theorem hasNull_im (c : Nat) (os : List V) (hs : os.Pairwise (fun a b=>cmpV a b ≤ 0)) (hl : os.length ≤ 1000) : Does Try.prog 196 [] [.agg [I c,rowD os]] (Bo (nul os)) []:=by
 cases os with
 | nil=>
  rw [show nul [] = false from rfl]
  refine does0 c_Z3 mixed (Nat.le_of_ble_eq_true rfl) ?_
  conv=>arg 3; whnf
  repeat' (first|with_reducible refine acc_none ?_ | (conv in hold _=>simp (disch:=omega) only [go_sem])|refine Stp.go ?_|(with_reducible first|refine it_pos rfl ?_|refine it_neg (by decide) ?_|refine st_nil rfl ?_|refine s_op ?_ ?_|exact trivial)|((with_reducible first|refine dw_reg0 ?_|refine dw_regB ?_);(conv=>arg 3;whnf))|(refine Spl.go (fun hq he=>?_) (fun hq he=>?_)<;>first|(exfalso;clear hq;omega)|((try first|(conv=>arg 8;simp only [hq])|(conv=>arg 4;simp only [hq]));clear hq))|((with_reducible first|refine c_split (fun hq=>?_) (fun hq=>?_)|refine q_split (fun hq=>?_) (fun hq=>?_))<;>(try first|(conv=>arg 8;simp only [hq])|(conv=>arg 4;simp only [hq])))|(with_reducible refine fin_0 ?_ (by first|rfl|(conv=>lhs;simp only [go_sem])) ?_)|exact Sub.refl _|omega)
 | cons x os=>
  rw [nul_head hs]
  have hlen : ((List.map vD (x :: os)).length : Int) > 0:=by rw [List.length_map,List.length_cons]; omega
  have hpos : (0 : Int) < (((x :: os).length : Nat) : Int):=by rw [List.length_cons]; omega
  have h0 : (x :: os)[0]? = some x:=rfl
  generalize (x :: os) = l at *
  refine does0 c_Z3 mixed (Nat.le_of_ble_eq_true rfl) ?_
  conv=>arg 3; whnf
  repeat' (first|with_reducible refine acc_none ?_ | (conv in hold _=>simp (disch:=omega) only [go_sem,List.getElem?_map,h0,Option.map_some,hpos])|refine Stp.go ?_|(with_reducible first|refine it_pos rfl ?_|refine it_neg (by decide) ?_|refine st_nil rfl ?_|refine s_op ?_ ?_|exact trivial)|((with_reducible first|refine dw_reg0 ?_|refine dw_regB ?_);(conv=>arg 3;whnf))|(refine Spl.go (fun hq he=>?_) (fun hq he=>?_)<;>first|(exfalso;clear hq;omega)|((try first|(conv=>arg 8;simp only [hq])|(conv=>arg 4;simp only [hq]));clear hq))|((with_reducible first|refine c_split (fun hq=>?_) (fun hq=>?_)|refine q_split (fun hq=>?_) (fun hq=>?_))<;>(try first|(conv=>arg 8;simp only [hq])|(conv=>arg 4;simp only [hq])))|(with_reducible refine fin_0 ?_ (by first|rfl|(conv=>lhs;simp only [go_sem,List.getElem?_map,h0,Option.map_some,hpos])) ?_)|exact Sub.refl _|omega)
theorem notIn_ok {c : Nat} {os row : List V} {v : V} (hrv : row[c]? = some v) (hn : os.length ≤ 400) (hok : ∀ x,x ∈ os → x.ok) (hv : v.ok) (hs : os.Pairwise (fun a b=>cmpV a b ≤ 0)) : Does Try.prog 201 [] [.agg [I c,rowD os],rowD row] (Bo (nin os v)) []:=by
 have h:=cmatches_ok hrv hn hok hv hs
 have h2:=hasNull_im c os hs (by omega)
 have hcl:=(List.getElem?_eq_some_iff.1 hrv).1
 cases hos : os.isEmpty with
 | true=>
  have e : nin os v = true:=by unfold nin; rw [hos]; rfl
  rw [e]
  have h0 : os = []:=List.isEmpty_iff.1 hos
  subst h0
  refine does0 c_Z8 mixed (Nat.le_of_ble_eq_true rfl) ?_
  conv=>arg 3; whnf
  repeat' (first|with_reducible refine acc_none ?_ | (conv in hold _=>simp (disch:=omega) only [go_sem])|refine Stp.go ?_|(with_reducible first|refine it_pos rfl ?_|refine it_neg (by decide) ?_|refine st_nil rfl ?_|refine s_op ?_ ?_|exact trivial)|((with_reducible first|refine dw_reg0 ?_|refine dw_regB ?_);(conv=>arg 3;whnf))|(refine Spl.go (fun hq he=>?_) (fun hq he=>?_)<;>first|(exfalso;clear hq;omega)|((try first|(conv=>arg 8;simp only [hq])|(conv=>arg 4;simp only [hq]));clear hq))|((with_reducible first|refine c_split (fun hq=>?_) (fun hq=>?_)|refine q_split (fun hq=>?_) (fun hq=>?_))<;>(try first|(conv=>arg 8;simp only [hq])|(conv=>arg 4;simp only [hq])))|(with_reducible refine fin_0 ?_ (by first|rfl|(conv=>lhs;simp only [go_sem])) ?_)|exact Sub.refl _|omega)
 | false=>
  have e : nin os v = (!nul os && !v.b && !mch os v):=by unfold nin; rw [hos]; rfl
  rw [e]
  have hne : os ≠ []:=fun e=>by rw [e] at hos; cases hos
  have hz : ((os.length : Nat) : Int) ≠ 0:=by have:=List.length_pos_iff.2 hne; omega
  have hz2 : (((os.length : Nat) : Int) == 0) = false:=beq_eq_false_iff_ne.2 hz
  generalize nul os = q at *
  generalize mch os v = m at *
  generalize hvb : v.b = vb at *
  cases q with
  | true=>
   refine does0 c_Z8 mixed (Nat.le_of_ble_eq_true rfl) ?_
   conv=>arg 3; whnf
   repeat' (first|with_reducible refine acc_none ?_ | (conv in hold _=>simp (disch:=omega) only [go_sem,List.length_map,hz2])|refine Stp.go ?_|(with_reducible first|refine it_pos rfl ?_|refine it_neg (by decide) ?_|refine st_nil rfl ?_|refine s_op ?_ ?_|exact trivial)|((with_reducible first|refine dw_reg0 ?_|refine dw_regB ?_);(conv=>arg 3;whnf))|(refine Spl.go (fun hq he=>?_) (fun hq he=>?_)<;>first|(exfalso;clear hq;omega)|((try first|(conv=>arg 8;simp only [hq])|(conv=>arg 4;simp only [hq]));clear hq))|((with_reducible first|refine c_split (fun hq=>?_) (fun hq=>?_)|refine q_split (fun hq=>?_) (fun hq=>?_))<;>(try first|(conv=>arg 8;simp only [hq])|(conv=>arg 4;simp only [hq])))|(with_reducible refine fin_0 ?_ (by first|rfl|(conv=>lhs;simp only [go_sem,List.length_map,hz2])) ?_)|exact Sub.refl _|omega)
   refine c_doesE (h2) ?_ ?_ ?_
   ·((try (conv=>rhs;simp (disch:=omega) only [go_sem,hz2])); try rfl)
   ·first|rfl|(conv=>lhs;simp only [go_sem,hz2])
   repeat' (first|with_reducible refine acc_none ?_ | (conv in hold _=>simp (disch:=omega) only [go_sem,hz2])|refine Stp.go ?_|(with_reducible first|refine it_pos rfl ?_|refine it_neg (by decide) ?_|refine st_nil rfl ?_|refine s_op ?_ ?_|exact trivial)|((with_reducible first|refine dw_reg0 ?_|refine dw_regB ?_);(conv=>arg 3;whnf))|(refine Spl.go (fun hq he=>?_) (fun hq he=>?_)<;>first|(exfalso;clear hq;omega)|((try first|(conv=>arg 8;simp only [hq])|(conv=>arg 4;simp only [hq]));clear hq))|((with_reducible first|refine c_split (fun hq=>?_) (fun hq=>?_)|refine q_split (fun hq=>?_) (fun hq=>?_))<;>(try first|(conv=>arg 8;simp only [hq])|(conv=>arg 4;simp only [hq])))|(with_reducible refine fin_0 ?_ (by first|rfl|(conv=>lhs;simp only [go_sem,hz2])) ?_)|exact Sub.refl _|omega)
  | false=>
   cases vb with
   | true=>
    refine does0 c_Z8 mixed (Nat.le_of_ble_eq_true rfl) ?_
    conv=>arg 3; whnf
    repeat' (first|with_reducible refine acc_none ?_ | (conv in hold _=>simp (disch:=omega) only [go_sem,List.length_map,hz2])|refine Stp.go ?_|(with_reducible first|refine it_pos rfl ?_|refine it_neg (by decide) ?_|refine st_nil rfl ?_|refine s_op ?_ ?_|exact trivial)|((with_reducible first|refine dw_reg0 ?_|refine dw_regB ?_);(conv=>arg 3;whnf))|(refine Spl.go (fun hq he=>?_) (fun hq he=>?_)<;>first|(exfalso;clear hq;omega)|((try first|(conv=>arg 8;simp only [hq])|(conv=>arg 4;simp only [hq]));clear hq))|((with_reducible first|refine c_split (fun hq=>?_) (fun hq=>?_)|refine q_split (fun hq=>?_) (fun hq=>?_))<;>(try first|(conv=>arg 8;simp only [hq])|(conv=>arg 4;simp only [hq])))|(with_reducible refine fin_0 ?_ (by first|rfl|(conv=>lhs;simp only [go_sem,List.length_map,hz2])) ?_)|exact Sub.refl _|omega)
    refine c_doesE (h2) ?_ ?_ ?_
    ·((try (conv=>rhs;simp (disch:=omega) only [go_sem,List.getElem?_map,hrv,Option.map_some,hvb])); try rfl)
    ·first|rfl|(conv=>lhs;simp only [go_sem,List.getElem?_map,hrv,Option.map_some,hvb])
    repeat' (first|with_reducible refine acc_none ?_ | (conv in hold _=>simp (disch:=omega) only [go_sem,List.getElem?_map,hrv,Option.map_some,hvb])|refine Stp.go ?_|(with_reducible first|refine it_pos rfl ?_|refine it_neg (by decide) ?_|refine st_nil rfl ?_|refine s_op ?_ ?_|exact trivial)|((with_reducible first|refine dw_reg0 ?_|refine dw_regB ?_);(conv=>arg 3;whnf))|(refine Spl.go (fun hq he=>?_) (fun hq he=>?_)<;>first|(exfalso;clear hq;omega)|((try first|(conv=>arg 8;simp only [hq])|(conv=>arg 4;simp only [hq]));clear hq))|((with_reducible first|refine c_split (fun hq=>?_) (fun hq=>?_)|refine q_split (fun hq=>?_) (fun hq=>?_))<;>(try first|(conv=>arg 8;simp only [hq])|(conv=>arg 4;simp only [hq])))|(with_reducible refine fin_0 ?_ (by first|rfl|(conv=>lhs;simp only [go_sem,List.getElem?_map,hrv,Option.map_some,hvb])) ?_)|exact Sub.refl _|omega)
   | false=>
    refine does0 c_Z8 mixed (Nat.le_of_ble_eq_true rfl) ?_
    conv=>arg 3; whnf
    repeat' (first|with_reducible refine acc_none ?_ | (conv in hold _=>simp (disch:=omega) only [go_sem,List.length_map,hz2])|refine Stp.go ?_|(with_reducible first|refine it_pos rfl ?_|refine it_neg (by decide) ?_|refine st_nil rfl ?_|refine s_op ?_ ?_|exact trivial)|((with_reducible first|refine dw_reg0 ?_|refine dw_regB ?_);(conv=>arg 3;whnf))|(refine Spl.go (fun hq he=>?_) (fun hq he=>?_)<;>first|(exfalso;clear hq;omega)|((try first|(conv=>arg 8;simp only [hq])|(conv=>arg 4;simp only [hq]));clear hq))|((with_reducible first|refine c_split (fun hq=>?_) (fun hq=>?_)|refine q_split (fun hq=>?_) (fun hq=>?_))<;>(try first|(conv=>arg 8;simp only [hq])|(conv=>arg 4;simp only [hq])))|(with_reducible refine fin_0 ?_ (by first|rfl|(conv=>lhs;simp only [go_sem,List.length_map,hz2])) ?_)|exact Sub.refl _|omega)
    refine c_doesE (h2) ?_ ?_ ?_
    ·((try (conv=>rhs;simp (disch:=omega) only [go_sem,List.getElem?_map,hrv,Option.map_some,hvb])); try rfl)
    ·first|rfl|(conv=>lhs;simp only [go_sem,List.getElem?_map,hrv,Option.map_some,hvb])
    repeat' (first|with_reducible refine acc_none ?_ | (conv in hold _=>simp (disch:=omega) only [go_sem,List.getElem?_map,hrv,Option.map_some,hvb])|refine Stp.go ?_|(with_reducible first|refine it_pos rfl ?_|refine it_neg (by decide) ?_|refine st_nil rfl ?_|refine s_op ?_ ?_|exact trivial)|((with_reducible first|refine dw_reg0 ?_|refine dw_regB ?_);(conv=>arg 3;whnf))|(refine Spl.go (fun hq he=>?_) (fun hq he=>?_)<;>first|(exfalso;clear hq;omega)|((try first|(conv=>arg 8;simp only [hq])|(conv=>arg 4;simp only [hq]));clear hq))|((with_reducible first|refine c_split (fun hq=>?_) (fun hq=>?_)|refine q_split (fun hq=>?_) (fun hq=>?_))<;>(try first|(conv=>arg 8;simp only [hq])|(conv=>arg 4;simp only [hq])))|(with_reducible refine fin_0 ?_ (by first|rfl|(conv=>lhs;simp only [go_sem,List.getElem?_map,hrv,Option.map_some,hvb])) ?_)|exact Sub.refl _|omega)
    refine c_doesE (h) ?_ ?_ ?_
    ·((try (conv=>rhs;simp (disch:=omega) only [go_sem])); try rfl)
    ·first|rfl|(conv=>lhs;simp only [go_sem])
    repeat' (first|with_reducible refine acc_none ?_ | (conv in hold _=>simp (disch:=omega) only [go_sem])|refine Stp.go ?_|(with_reducible first|refine it_pos rfl ?_|refine it_neg (by decide) ?_|refine st_nil rfl ?_|refine s_op ?_ ?_|exact trivial)|((with_reducible first|refine dw_reg0 ?_|refine dw_regB ?_);(conv=>arg 3;whnf))|(refine Spl.go (fun hq he=>?_) (fun hq he=>?_)<;>first|(exfalso;clear hq;omega)|((try first|(conv=>arg 8;simp only [hq])|(conv=>arg 4;simp only [hq]));clear hq))|((with_reducible first|refine c_split (fun hq=>?_) (fun hq=>?_)|refine q_split (fun hq=>?_) (fun hq=>?_))<;>(try first|(conv=>arg 8;simp only [hq])|(conv=>arg 4;simp only [hq])))|(with_reducible refine fin_0 ?_ (by first|rfl|(conv=>lhs;simp only [go_sem])) ?_)|exact Sub.refl _|omega)
noncomputable def ninT (a b : Ta) (ca cb : Nat) : Ta:=⟨a.w,a.rows.filter (fun r=>nin (valsT b cb) (colV ca r))⟩
theorem nin_sub (a b : Ta) (ca cb : Nat) : (ninT a b ca cb).rows.Sublist a.rows:=List.filter_sublist
theorem NotIn_impl_t {a b : Ta} (ha : rsz a.rows ≤ 1048576) (hb : rsz b.rows ≤ 1048576) {ca cb : Nat} (h : joinT a b ca cb) (hl : b.rows.length ≤ 400) : Does Try.prog 44 [] [taD a,taD b,I ca,I cb] (.tup [taD (ninT a b ca cb),Bo true]) []:=by
 have h1:=haveColumns_ok a b ha hb ca cb
 rw [decide_eq_true h] at h1
 obtain ⟨⟨hta,_,hca⟩,htb,_,hcb⟩:=h
 obtain ⟨w,hw,hw6,hr,_,hl4⟩:=tOk_nat hta
 obtain ⟨s,⟨hp,hs⟩,h2⟩:=matcherFor_ok htb hl hcb ca
 have hsl : s.length ≤ 400:=by rw [hp.length_eq]; unfold valsT; rw [List.length_map]; exact hl
 have hsok : ∀ v,v ∈ s → v.ok:=fun v hv=>valsT_ok htb hcb v (hp.mem_iff.1 hv)
 have h3:=keptRows_ok hta (T:=108) (f:=201) (by kernel_rfl) ca s (fun r=>nin (valsT b cb) (colV ca r)) (fun x hx=>by
  have hxr:=hr x hx
  have hv:=colV_at (c:=ca) (r:=x) (by omega)
  have:=notIn_ok hv hsl hsok (hxr.2 _ (List.mem_of_getElem? hv)) hs
  rw [nin_perm hp] at this
  exact this)
 have hres : taD (ninT a b ca cb) = taD ⟨a.w,a.rows.filter (fun r=>nin (valsT b cb) (colV ca r))⟩:=rfl
 rw [hres]
 refine does0 c_Z64 mixed (Nat.le_of_ble_eq_true rfl) ?_
 conv=>arg 3; whnf
 repeat' (first|with_reducible refine acc_none ?_ | (conv in hold _=>simp (disch:=omega) only [go_sem])|refine Stp.go ?_|(with_reducible first|refine it_pos rfl ?_|refine it_neg (by decide) ?_|refine st_nil rfl ?_|refine s_op ?_ ?_|exact trivial)|((with_reducible first|refine dw_reg0 ?_|refine dw_regB ?_);(conv=>arg 3;whnf))|(refine Spl.go (fun hq he=>?_) (fun hq he=>?_)<;>first|(exfalso;clear hq;omega)|((try first|(conv=>arg 8;simp only [hq])|(conv=>arg 4;simp only [hq]));clear hq))|((with_reducible first|refine c_split (fun hq=>?_) (fun hq=>?_)|refine q_split (fun hq=>?_) (fun hq=>?_))<;>(try first|(conv=>arg 8;simp only [hq])|(conv=>arg 4;simp only [hq])))|(with_reducible refine fin_0 ?_ (by first|rfl|(conv=>lhs;simp only [go_sem])) ?_)|exact Sub.refl _|omega)
 refine c_doesE (h1) ?_ ?_ ?_
 ·((try (conv=>rhs;simp (disch:=omega) only [go_sem])); try rfl)
 ·first|rfl|(conv=>lhs;simp only [go_sem])
 repeat' (first|with_reducible refine acc_none ?_ | (conv in hold _=>simp (disch:=omega) only [go_sem])|refine Stp.go ?_|(with_reducible first|refine it_pos rfl ?_|refine it_neg (by decide) ?_|refine st_nil rfl ?_|refine s_op ?_ ?_|exact trivial)|((with_reducible first|refine dw_reg0 ?_|refine dw_regB ?_);(conv=>arg 3;whnf))|(refine Spl.go (fun hq he=>?_) (fun hq he=>?_)<;>first|(exfalso;clear hq;omega)|((try first|(conv=>arg 8;simp only [hq])|(conv=>arg 4;simp only [hq]));clear hq))|((with_reducible first|refine c_split (fun hq=>?_) (fun hq=>?_)|refine q_split (fun hq=>?_) (fun hq=>?_))<;>(try first|(conv=>arg 8;simp only [hq])|(conv=>arg 4;simp only [hq])))|(with_reducible refine fin_0 ?_ (by first|rfl|(conv=>lhs;simp only [go_sem])) ?_)|exact Sub.refl _|omega)
 refine c_doesE (h2) ?_ ?_ ?_
 ·((try (conv=>rhs;simp (disch:=omega) only [go_sem])); try rfl)
 ·first|rfl|(conv=>lhs;simp only [go_sem])
 repeat' (first|with_reducible refine acc_none ?_ | (conv in hold _=>simp (disch:=omega) only [go_sem])|refine Stp.go ?_|(with_reducible first|refine it_pos rfl ?_|refine it_neg (by decide) ?_|refine st_nil rfl ?_|refine s_op ?_ ?_|exact trivial)|((with_reducible first|refine dw_reg0 ?_|refine dw_regB ?_);(conv=>arg 3;whnf))|(refine Spl.go (fun hq he=>?_) (fun hq he=>?_)<;>first|(exfalso;clear hq;omega)|((try first|(conv=>arg 8;simp only [hq])|(conv=>arg 4;simp only [hq]));clear hq))|((with_reducible first|refine c_split (fun hq=>?_) (fun hq=>?_)|refine q_split (fun hq=>?_) (fun hq=>?_))<;>(try first|(conv=>arg 8;simp only [hq])|(conv=>arg 4;simp only [hq])))|(with_reducible refine fin_0 ?_ (by first|rfl|(conv=>lhs;simp only [go_sem])) ?_)|exact Sub.refl _|omega)
 refine c_doesE (h3) ?_ ?_ ?_
 ·((try (conv=>rhs;simp (disch:=omega) only [go_sem])); try rfl)
 ·first|rfl|(conv=>lhs;simp only [go_sem])
 repeat' (first|with_reducible refine acc_none ?_ | (conv in hold _=>simp (disch:=omega) only [go_sem])|refine Stp.go ?_|(with_reducible first|refine it_pos rfl ?_|refine it_neg (by decide) ?_|refine st_nil rfl ?_|refine s_op ?_ ?_|exact trivial)|((with_reducible first|refine dw_reg0 ?_|refine dw_regB ?_);(conv=>arg 3;whnf))|(refine Spl.go (fun hq he=>?_) (fun hq he=>?_)<;>first|(exfalso;clear hq;omega)|((try first|(conv=>arg 8;simp only [hq])|(conv=>arg 4;simp only [hq]));clear hq))|((with_reducible first|refine c_split (fun hq=>?_) (fun hq=>?_)|refine q_split (fun hq=>?_) (fun hq=>?_))<;>(try first|(conv=>arg 8;simp only [hq])|(conv=>arg 4;simp only [hq])))|(with_reducible refine fin_0 ?_ (by first|rfl|(conv=>lhs;simp only [go_sem])) ?_)|exact Sub.refl _|omega)
theorem NotIn_impl_f {a b : Ta} (ha : rsz a.rows ≤ 1048576) (hb : rsz b.rows ≤ 1048576) {ca cb : Int} (h : ¬ joinT a b ca cb) : Does Try.prog 44 [] [taD a,taD b,I ca,I cb] (.tup [taD ⟨0,[]⟩,Bo false]) []:=by
 have h1:=haveColumns_ok a b ha hb ca cb
 rw [decide_eq_false h] at h1
 refine does0 c_Z64 mixed (Nat.le_of_ble_eq_true rfl) ?_
 conv=>arg 3; whnf
 repeat' (first|with_reducible refine acc_none ?_ | (conv in hold _=>simp (disch:=omega) only [go_sem])|refine Stp.go ?_|(with_reducible first|refine it_pos rfl ?_|refine it_neg (by decide) ?_|refine st_nil rfl ?_|refine s_op ?_ ?_|exact trivial)|((with_reducible first|refine dw_reg0 ?_|refine dw_regB ?_);(conv=>arg 3;whnf))|(refine Spl.go (fun hq he=>?_) (fun hq he=>?_)<;>first|(exfalso;clear hq;omega)|((try first|(conv=>arg 8;simp only [hq])|(conv=>arg 4;simp only [hq]));clear hq))|((with_reducible first|refine c_split (fun hq=>?_) (fun hq=>?_)|refine q_split (fun hq=>?_) (fun hq=>?_))<;>(try first|(conv=>arg 8;simp only [hq])|(conv=>arg 4;simp only [hq])))|(with_reducible refine fin_0 ?_ (by first|rfl|(conv=>lhs;simp only [go_sem])) ?_)|exact Sub.refl _|omega)
 refine c_doesE (h1) ?_ ?_ ?_
 ·((try (conv=>rhs;simp (disch:=omega) only [go_sem])); try rfl)
 ·first|rfl|(conv=>lhs;simp only [go_sem])
 repeat' (first|with_reducible refine acc_none ?_ | (conv in hold _=>simp (disch:=omega) only [go_sem])|refine Stp.go ?_|(with_reducible first|refine it_pos rfl ?_|refine it_neg (by decide) ?_|refine st_nil rfl ?_|refine s_op ?_ ?_|exact trivial)|((with_reducible first|refine dw_reg0 ?_|refine dw_regB ?_);(conv=>arg 3;whnf))|(refine Spl.go (fun hq he=>?_) (fun hq he=>?_)<;>first|(exfalso;clear hq;omega)|((try first|(conv=>arg 8;simp only [hq])|(conv=>arg 4;simp only [hq]));clear hq))|((with_reducible first|refine c_split (fun hq=>?_) (fun hq=>?_)|refine q_split (fun hq=>?_) (fun hq=>?_))<;>(try first|(conv=>arg 8;simp only [hq])|(conv=>arg 4;simp only [hq])))|(with_reducible refine fin_0 ?_ (by first|rfl|(conv=>lhs;simp only [go_sem])) ?_)|exact Sub.refl _|omega)
 exact sub_zero
-- the model
theorem shasNull_ok {t : Ta} (ht : tOk t) {c : Nat} (hc : (c : Int) < t.w) : Does Try.prog 85 [] [taD t,I c] (Bo (nul (valsT t c))) []:=by
 obtain ⟨w,hw,hw6,hr,_,hl4⟩:=tOk_nat ht
 refine does0 c_Z60 mixed (Nat.le_of_ble_eq_true rfl) ?_
 conv=>arg 3; whnf
 repeat' (first|with_reducible refine acc_none ?_ | (conv in hold _=>simp (disch:=omega) only [go_sem])|refine Stp.go ?_|(with_reducible first|refine it_pos rfl ?_|refine it_neg (by decide) ?_|refine st_nil rfl ?_|refine s_op ?_ ?_|exact trivial)|((with_reducible first|refine dw_reg0 ?_|refine dw_regB ?_);(conv=>arg 3;whnf))|(refine Spl.go (fun hq he=>?_) (fun hq he=>?_)<;>first|(exfalso;clear hq;omega)|((try first|(conv=>arg 8;simp only [hq])|(conv=>arg 4;simp only [hq]));clear hq))|((with_reducible first|refine c_split (fun hq=>?_) (fun hq=>?_)|refine q_split (fun hq=>?_) (fun hq=>?_))<;>(try first|(conv=>arg 8;simp only [hq])|(conv=>arg 4;simp only [hq])))|(with_reducible refine fin_0 ?_ (by first|rfl|(conv=>lhs;simp only [go_sem])) ?_)|exact Sub.refl _|omega)
 refine dw_for (c:=1) (l:=fun i=>[(1,I c),(2,.ref 1000000 0),(5,I i),(1000000,.obj [I t.w,rowsD t.rows])]) t.rows.length (fun i=>∀ (j : Nat) (r : List V),j < i → t.rows[j]? = some r → (colV c r).b = false) 0 (fun j r hj=>by omega) (Wk.list [2000002] rfl rfl ?_) (fun i hi hJ=>?_) (Nat.zero_le _)
 ·repeat' (first|(conv in hold _=>simp (disch:=omega) only [go_sem])|exact trivial|exact Sub.refl _|omega)
  first | exact rfl | exact ⟨rfl,rfl⟩
 ·rcases at_or_end hi with ⟨x,hx,hlt⟩ | rfl
  ·have hxr:=hr x (List.mem_of_getElem? hx)
   have hv:=colV_at (c:=c) (r:=x) (by omega)
   cases hb : (colV c x).b with
   | true=>
    have hmt : nul (valsT t c) = true:=List.any_eq_true.2 ⟨_,List.mem_map.2 ⟨x,List.mem_of_getElem? hx,rfl⟩,hb⟩
    rw [hmt]
    repeat' (first|with_reducible refine acc_none ?_ | (conv in hold _=>simp (disch:=omega) only [go_sem,List.getElem?_map,hx,hv,Option.map_some,hb])|refine Stp.go ?_|(with_reducible first|refine it_pos rfl ?_|refine it_neg (by decide) ?_|refine st_nil rfl ?_|refine s_op ?_ ?_|exact trivial)|((with_reducible first|refine dw_reg0 ?_|refine dw_regB ?_);(conv=>arg 3;whnf))|(refine Spl.go (fun hq he=>?_) (fun hq he=>?_)<;>first|(exfalso;clear hq;omega)|((try first|(conv=>arg 8;simp only [hq])|(conv=>arg 4;simp only [hq]));clear hq))|((with_reducible first|refine c_split (fun hq=>?_) (fun hq=>?_)|refine q_split (fun hq=>?_) (fun hq=>?_))<;>(try first|(conv=>arg 8;simp only [hq])|(conv=>arg 4;simp only [hq])))|(with_reducible refine fin_0 ?_ (by first|rfl|(conv=>lhs;simp only [go_sem,List.getElem?_map,hx,hv,Option.map_some,hb])) ?_)|exact Sub.refl _|omega)
   | false=>
    repeat' (first|with_reducible refine acc_none ?_ | (conv in hold _=>simp (disch:=omega) only [go_sem,List.getElem?_map,hx,hv,Option.map_some,hb])|refine Stp.go ?_|(with_reducible first|refine it_pos rfl ?_|refine it_neg (by decide) ?_|refine st_nil rfl ?_|refine s_op ?_ ?_|exact trivial)|((with_reducible first|refine dw_reg0 ?_|refine dw_regB ?_);(conv=>arg 3;whnf))|(refine Spl.go (fun hq he=>?_) (fun hq he=>?_)<;>first|(exfalso;clear hq;omega)|((try first|(conv=>arg 8;simp only [hq])|(conv=>arg 4;simp only [hq]));clear hq))|((with_reducible first|refine c_split (fun hq=>?_) (fun hq=>?_)|refine q_split (fun hq=>?_) (fun hq=>?_))<;>(try first|(conv=>arg 8;simp only [hq])|(conv=>arg 4;simp only [hq])))|(with_reducible refine fin_0 ?_ (by first|rfl|(conv=>lhs;simp only [go_sem,List.getElem?_map,hx,hv,Option.map_some,hb])) ?_)|exact Sub.refl _|omega)
    refine ⟨hlt,fun j r hj hr'=>?_,Wk.list [1000000] rfl rfl ?_⟩
    ·by_cases hji : j = i
     ·subst hji
      rw [hx] at hr'
      cases hr'
      exact hb
     ·exact hJ j r (by omega) hr'
    ·repeat' (first|(conv in hold _=>simp (disch:=omega) only [go_sem])|exact trivial|exact Sub.refl _|omega)
  ·have hmt : nul (valsT t c) = false:=by
    unfold nul
    rw [Bool.eq_false_iff]
    intro h
    obtain ⟨y,hy,hyb⟩:=List.any_eq_true.1 h
    obtain ⟨r,hrm,rfl⟩:=List.mem_map.1 hy
    obtain ⟨j,hj⟩:=List.mem_iff_getElem?.1 hrm
    rw [hJ j r (List.getElem?_eq_some_iff.1 hj).1 hj] at hyb
    cases hyb
   rw [hmt]
   repeat' (first|with_reducible refine acc_none ?_ | (conv in hold _=>simp (disch:=omega) only [go_sem])|refine Stp.go ?_|(with_reducible first|refine it_pos rfl ?_|refine it_neg (by decide) ?_|refine st_nil rfl ?_|refine s_op ?_ ?_|exact trivial)|((with_reducible first|refine dw_reg0 ?_|refine dw_regB ?_);(conv=>arg 3;whnf))|(refine Spl.go (fun hq he=>?_) (fun hq he=>?_)<;>first|(exfalso;clear hq;omega)|((try first|(conv=>arg 8;simp only [hq])|(conv=>arg 4;simp only [hq]));clear hq))|((with_reducible first|refine c_split (fun hq=>?_) (fun hq=>?_)|refine q_split (fun hq=>?_) (fun hq=>?_))<;>(try first|(conv=>arg 8;simp only [hq])|(conv=>arg 4;simp only [hq])))|(with_reducible refine fin_0 ?_ (by first|rfl|(conv=>lhs;simp only [go_sem])) ?_)|exact Sub.refl _|omega)
end Go.Proofs.Ytedmegmhjmabcaa
