/-
  The copy of an expression, off a stack: the kinds of trees, and what a node's own kids are. No condition.
-/
import Derived.Test.YtclkehekhdfnnaaKSDca
import Derived.Test.YtclkehekhdfnnaaKSVClB
import Derived.Test.YtclkehekhdfnnaaKSVEsz
import Derived.Test.YtclkehekhdfnnaaSVGo
set_option maxHeartbeats 4000000
set_option maxRecDepth 100000
set_option linter.unusedVariables false
set_option linter.unusedSimpArgs false
namespace Go.Proofs.Ytclkehekhdfnnaa
open Go.RowKit
theorem eszL_sum : ∀ l : List E,eszL l = (l.map esz).sum
 | []=>rfl
 | e :: l=>by rw [eszL,eszL_sum l]; rfl
def holeE (e : E) (g n : Nat) : D:=.agg [I e.k,I e.c,Bo e.v.b,I e.v.n,.own g 5 n]
theorem holeE_ren (e : E) (g n : Nat) (L : List Nat) (g' : Nat) (h : nameOf L g = some g') : (holeE e g n).ren L = holeE e g' n:=by
 unfold holeE
 simp only [D.ren,D.renL,h]
def trE : Tr where
 α:=E
 s:=5
 d:=eD
 ks:=E.ks
 hole:=holeE
 size:=esz
 pur e:=by rw [eD_eq]; rfl
 fr e g:=by
  unfold holeE
  simp only [D.frz,D.frzL,List.length_map,Nat.le_refl,and_self,if_true]
  rw [take_all,eD_eq]
 ren:=holeE_ren
 one e:=by rw [esz_eq]; omega
 sum e:=by rw [esz_eq,eszL_sum]; exact Nat.le_refl _
theorem set_ren (R : List Nat) (es : List E) (i : Nat) (d : D) : D.renL R ((es.map eD).set i d) = (es.map eD).set i (d.ren R):=by
 rw [D.renL_map,List.map_set,← D.renL_map,exprs_ren]
theorem cloneKids_ok (es : List E) (h0 : 0 < es.length) (hl : es.length < 1000000) : Does Try.prog 54 [] [.sl 5 (es.map eD)] (.own 1000000 5 es.length) [.row 5 (es.map eD)]:=by
 refine Bk c_Z0 mixed 0 (go1 trivial ?_)
 refine fin_L [2000007] ?_ ?_ rfl ?_
 all_goals exact Ag trivial
theorem pre_raw {σ : Env} {t : Nat} {a : Option Addr} {c : Nat} (s : Nat) (ht : t < nb) (hr : σ t = .v (.slice a 0 c)) : PreOK σ [(t,.sl s [])] [t] [t]:=by
 refine ⟨fun p hpp=>by obtain rfl:=List.mem_singleton.1 hpp; exact List.mem_singleton.2 rfl,fun G τ ac x hag hR=>?_⟩
 obtain ⟨hd,F,m,h⟩:=hR
 have h1:=h.slots t ht
 rw [hag t (List.mem_singleton.2 rfl),hr] at h1
 refine ⟨hd,F,m,h.recast ht (fun _ _ _ _ he=>by cases he) ?_⟩
 generalize ac.tmps.getD t undef = y at h1
 cases h1 with
 | v _ _=>exact .sl0 m s a c
theorem bne_tf : (true != false) = true:=rfl
theorem bne_ff : (false != false) = false:=rfl
theorem cloneRaw_ok (a : Option Addr) (c : Nat) : Does Try.prog 54 [] [.v (.slice a 0 c)] (.sl 5 []) []:=by
 cases a with
 | none=>
  refine does0 c_Z0 mixed (Nat.le_of_ble_eq_true rfl) ?_
  conv=>arg 3; whnf
  repeat' (first|with_reducible refine acc_none ?_ | (conv in hold _=>simp (disch:=omega) only [go_sem,Option.isNone_none,bne_tf])|refine Stp.go ?_|(with_reducible first|refine it_pos rfl ?_|refine it_neg (by decide) ?_|refine st_nil rfl ?_|refine s_op ?_ ?_|exact trivial)|((with_reducible first|refine dw_reg0 ?_|refine dw_regB ?_);(conv=>arg 3;whnf))|(refine Spl.go (fun hq he=>?_) (fun hq he=>?_)<;>first|(exfalso;clear hq;omega)|((try first|(conv=>arg 8;simp only [hq])|(conv=>arg 4;simp only [hq]));clear hq))|((with_reducible first|refine c_split (fun hq=>?_) (fun hq=>?_)|refine q_split (fun hq=>?_) (fun hq=>?_))<;>(try first|(conv=>arg 8;simp only [hq])|(conv=>arg 4;simp only [hq])))|(with_reducible refine fin_0 ?_ (by first|rfl|(conv=>lhs;simp only [go_sem,Option.isNone_none,bne_tf])) ?_)|exact Sub.refl _|omega)
  exact Sub.nul 5
 | some A=>
  refine Bg c_Z0 mixed (go1R trivial ?_)
  (with_reducible first | refine dw_reg0 ?_ | refine dw_regB ?_)
  conv=>arg 3; whnf
  refine go1R trivial ?_
  (with_reducible first | refine dw_reg0 ?_ | refine dw_regB ?_)
  conv=>arg 3; whnf
  repeat' ((fail_if_success (with_reducible first | refine dw_reg0 ?_ | refine dw_regB ?_)); first | with_reducible refine acc_none ?_ | (conv in hold _=>simp (disch:=omega) only [go_sem,Option.isNone_some,bne_ff])|refine Stp.go ?_|(with_reducible first|refine it_pos rfl ?_|refine it_neg (by decide) ?_|refine st_nil rfl ?_|refine s_op ?_ ?_|exact trivial)|((with_reducible first|refine dw_reg0 ?_|refine dw_regB ?_);(conv=>arg 3;whnf))|(refine Spl.go (fun hq he=>?_) (fun hq he=>?_)<;>first|(exfalso;clear hq;omega)|((try first|(conv=>arg 8;simp only [hq])|(conv=>arg 4;simp only [hq]));clear hq))|((with_reducible first|refine c_split (fun hq=>?_) (fun hq=>?_)|refine q_split (fun hq=>?_) (fun hq=>?_))<;>(try first|(conv=>arg 8;simp only [hq])|(conv=>arg 4;simp only [hq])))|(with_reducible refine fin_0 ?_ (by first|rfl|(conv=>lhs;simp only [go_sem,Option.isNone_some,bne_ff])) ?_)|exact Sub.refl _|omega)
  (with_reducible first | refine dw_reg0 ?_ | refine dw_regB ?_)
  conv=>arg 3; whnf
  refine Stp.go ?_
  refine s_pre (pre_raw (t:=0) 5 (by decide) rfl) ?_
  refine go1F trivial ?_
  refine fin_wk (wk_frz 2 2000007 (by decide) (by decide) rfl ?_) ?_
  rotate_left
  (conv in hold _=>simp (disch:=omega) only [go_sem])
  ·refine fin_L [] ?_ ?_ rfl ?_
   all_goals exact Ag trivial
  ·rfl
theorem cloneNone_ok : Does Try.prog 54 [] [.sl 5 []] (.sl 5 []) []:=by
 intro w F m xs hxl hHle hwf hfz hblk hnone hinj
 match xs,hxl with
 | [x],_=>
  have h0:=hfz 0 _ x rfl rfl
  have hx : ∃ a c,x = .slice a 0 c:=by
   cases h0 with
   | sl0 _ _ a c=>exact ⟨_,_,rfl⟩
   | sl _ _ _ b off c=>exact ⟨_,_,rfl⟩
  obtain ⟨a,c,rfl⟩:=hx
  refine cloneRaw_ok a c w F m [.slice a 0 c] rfl hHle hwf (fun i d y hd hy=>?_) hblk hnone hinj
  match i with
  | 0=>
   obtain rfl : D.v (.slice a 0 c) = d:=by simpa using hd
   obtain rfl : Value.slice a 0 c = y:=by simpa using hy
   exact .v m _
  | i + 1=>simp at hd
theorem ck_ok (es : List E) (i : Nat) (e : E) (hi : es[i]? = some e) (h0 : 0 < e.ks.length) (hl : e.ks.length < 1000000) : Does Try.prog 53 [.row 5 (es.map eD)] [.eref 1000000 5 i 0] (.own 1000001 5 e.ks.length) [.row 5 ((es.map eD).set i (holeE e 1000001 e.ks.length)),.row 5 (e.ks.map eD)]:=by
 have hc:=cloneKids_ok e.ks h0 hl
 have hlt:=(List.getElem?_eq_some_iff.1 hi).1
 have hset : ∀ x : D,((es.map eD).set i x)[i]? = some x:=fun x=>by rw [List.getElem?_set_self (by rw [List.length_map]; exact hlt)]
 refine Bk c_Z5 mixed 1 (go1 @hi ?_)
 refine UcR [3000001] (cj2 @hi @hset) (hc) (go1 (cj2 @hi @hset) ?_)
 refine fin_L [1000000,3000001] ?_ ?_ rfl ?_
 all_goals exact Ag (cj2 @set_ren @holeE.eq_1)
theorem ck0_ok (es : List E) (i : Nat) (e : E) (hi : es[i]? = some e) (h0 : e.ks = []) : Does Try.prog 53 [.row 5 (es.map eD)] [.eref 1000000 5 i 0] (.sl 5 []) [.row 5 (es.map eD)]:=by
 have hc:=cloneNone_ok
 have hlt:=(List.getElem?_eq_some_iff.1 hi).1
 have hset : ∀ x : D,((es.map eD).set i x)[i]? = some x:=fun x=>by rw [List.getElem?_set_self (by rw [List.length_map]; exact hlt)]
 have hes : (es.map eD).set i (.agg [I e.k,I e.c,Bo e.v.b,I e.v.n,.sl 5 []]) = es.map eD:=by
  refine List.ext_getElem? fun j=>?_
  rw [List.getElem?_set]
  split
  ·rename_i h
   subst h
   rw [List.length_map,if_pos hlt,List.getElem?_map,hi,Option.map_some,eD_eq,h0]
   rfl
  ·rfl
 refine does c_Z5 mixed (Nat.le_of_ble_eq_true rfl) 1 rfl ?_
 conv=>arg 3; whnf
 repeat' (first|with_reducible refine acc_none ?_ | (conv in hold _=>simp (disch:=omega) only [go_sem,List.getElem?_map,hi,Option.map_some,List.length_map,h0,List.map_nil])|refine Stp.go ?_|(with_reducible first|refine it_pos rfl ?_|refine it_neg (by decide) ?_|refine st_nil rfl ?_|refine s_op ?_ ?_|exact trivial)|((with_reducible first|refine dw_reg0 ?_|refine dw_regB ?_);(conv=>arg 3;whnf))|(refine Spl.go (fun hq he=>?_) (fun hq he=>?_)<;>first|(exfalso;clear hq;omega)|((try first|(conv=>arg 8;simp only [hq])|(conv=>arg 4;simp only [hq]));clear hq))|((with_reducible first|refine c_split (fun hq=>?_) (fun hq=>?_)|refine q_split (fun hq=>?_) (fun hq=>?_))<;>(try first|(conv=>arg 8;simp only [hq])|(conv=>arg 4;simp only [hq])))|(with_reducible refine fin_0 ?_ (by first|rfl|(conv=>lhs;simp only [go_sem,List.getElem?_map,hi,Option.map_some,List.length_map,h0,List.map_nil])) ?_)|exact Sub.refl _|omega)
 refine Uc (cj2 @hi @hset) (hc) (go1 (cj2 @hi @hset) ?_)
 refine fin_L [1000000] ?_ ?_ rfl ?_
 all_goals exact Ag @hes
end Go.Proofs.Ytclkehekhdfnnaa
