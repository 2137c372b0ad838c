/-
  The program's iterators over the runs of sorted rows. No condition.
-/
import Derived.Test.YtedmegmhjmabcaaKSDca
import Derived.Test.YtedmegmhjmabcaaKSDcc
import Derived.Test.YtedmegmhjmabcaaKSDcd
import Derived.Test.YtedmegmhjmabcaaKSVGrp
import Derived.Test.YtedmegmhjmabcaaKSVCnt
import Derived.Test.YtedmegmhjmabcaaJSVDraw
import Derived.Test.YtedmegmhjmabcaaSVBox
import Derived.Test.YtedmegmhjmabcaaJSVGo
set_option maxHeartbeats 4000000
set_option maxRecDepth 100000
set_option linter.unusedVariables false
set_option linter.unusedSimpArgs false
namespace Go.Proofs.Ytedmegmhjmabcaa
open Go.RowKit
def tupG (g : List V × Nat) : D:=.tup [rowsD (List.replicate g.2 g.1)]
theorem tupG_at {gs : List (List V × Nat)} {i : Nat} {es : List D} (h : (gs.map tupG)[i]? = some (.tup es)) : ∃ g,gs[i]? = some g ∧ es = [rowsD (List.replicate g.2 g.1)]:=by
 rw [List.getElem?_map] at h
 cases hr : gs[i]? with
 | none=>rw [hr] at h; cases h
 | some r=>
  rw [hr] at h
  simp only [Option.map_some,Option.some.injEq,tupG,D.tup.injEq] at h
  exact ⟨r,rfl,h.symm⟩
theorem take_next_run {w : Nat} {l : List (List V)} (hw : RsW w l) (hw6 : w ≤ 6) (ha : Asc l) (hl : l.length ≤ 400) {i : Nat} {g : List V × Nat} (h : (grp l)[i]? = some g) :
  Does Try.prog 123 [.obj [rowsD (restG l i),.fn 90 []]] [.ref 1000000 0,rowD g.1] (rowsD (List.replicate g.2 g.1)) [.obj [rowsD (restG l (i + 1)),.fn 90 []]]:=by
 have hsub:=restG_sub l i
 have hg:=hw g.1 (grp_mem (List.mem_of_getElem? h)).1
 have hrw:=rsw_sub hsub hw
 obtain ⟨a,b,⟨hab,a1,a2,b1,b2⟩,hT⟩:=take_ok (restG l i) g.1 (by have:=hsub.length_le; omega) hg.2 (fun x hx=>⟨by rw [(hrw x hx).1,hg.1],by rw [(hrw x hx).1]; exact hw6,(hrw x hx).2⟩) (asc_take hrw (asc_sub hsub ha) hg.1 hg.2)
 obtain ⟨e1,e2⟩:=take_run hw ha h hab a1 b1 b2
 rw [e1,e2] at hT
 exact hT
theorem runs_ok {w : Nat} {l : List (List V)} (hw : RsW w l) (hw6 : w ≤ 6) (ha : Asc l) (hl : l.length ≤ 400) :
  Yields Try.prog 140 [.ptr [rowsD l],.ptr [.fn 90 []]] ((grp l).map tupG):=by
 refine yields c_Z8 mixed (Nat.le_of_ble_eq_true rfl) (fun i e=>?_)
 conv=>arg 3; whnf
 refine go1 trivial ?_
 refine dw_for (c:=1) (l:=fun j=>[(0,.v (.func (.yield i) #[] #[])),(4,.ref 1000000 0),(1000000,.obj [rowsD (restG l j),.fn 90 []]),(gh,.gho i ((grp l).map tupG) e j)]) (grp l).length (fun j=>j ≤ e) 0 (Nat.zero_le _) (Wk.list [2000004] rfl rfl ?_) (fun j hj hJ=>?_) (Nat.zero_le _)
 ·rw [restG_0]
  repeat' (first|(conv in hold _=>simp (disch:=omega) only [go_sem])|exact trivial|exact Sub.refl _|omega)
 ·by_cases hlt : j < (grp l).length
  ·have hg:=List.getElem?_eq_getElem hlt
   generalize (grp l)[j] = g at hg
   have hg2:=(grp_mem (List.mem_of_getElem? hg)).2
   have hT:=take_next_run hw hw6 ha hl hg
   have hn:=restG_next hg
   have h0 : (restG l j)[0]? = some g.1:=by rw [hn,List.getElem?_append_left (by rw [List.length_replicate]; omega),List.getElem?_replicate,if_pos (by omega)]
   have hpos : 0 < (restG l j).length:=(List.getElem?_eq_some_iff.1 h0).1
   generalize restG l j = R at *
   refine go1 @h0 ?_
   refine UcR [1000000] trivial (hT) (go1 trivial ?_)
   refine v_yld (by ((conv=>lhs; simp (disch:=omega) only [go_sem]); try rfl)) (hJ) ((by rw [List.getElem?_map,hg]; rfl)) (by first | rfl | (simp only [go_sem])) ?_
   repeat' (first|with_reducible refine acc_none ?_ | (conv in hold _=>simp (disch:=omega) only [go_sem])|refine Stp.go ?_|(with_reducible first|refine it_pos rfl ?_|refine it_neg (by decide) ?_|refine st_nil rfl ?_|refine s_op ?_ ?_|exact trivial)|((with_reducible first|refine dw_reg0 ?_|refine dw_regB ?_);(conv=>arg 3;whnf))|(refine Spl.go (fun hq he=>?_) (fun hq he=>?_)<;>first|(exfalso;clear hq;omega)|((try first|(conv=>arg 8;simp only [hq])|(conv=>arg 4;simp only [hq]));clear hq))|((with_reducible first|refine c_split (fun hq=>?_) (fun hq=>?_)|refine q_split (fun hq=>?_) (fun hq=>?_))<;>(try first|(conv=>arg 8;simp only [hq])|(conv=>arg 4;simp only [hq])))|(with_reducible refine fin_0 ?_ (by first|rfl|(conv=>lhs;simp only [go_sem])) ?_)|exact Sub.refl _|omega)
   ·refine ⟨(j + 1),?_,?_⟩
    ·((conv=>lhs; simp (disch:=omega) only [go_sem]); try rfl)
    simp only [List.length_map]
    omega
   ·refine ⟨hlt,by omega,Wk.list [1000000] rfl rfl ?_⟩
    repeat' (first|(conv in hold _=>simp (disch:=omega) only [go_sem])|exact trivial|exact Sub.refl _|omega)
  ·have hR : restG l j = []:=restG_end (by omega)
   rw [hR]
   refine go1 trivial ?_
   refine ⟨j,?_,?_⟩
   ·((conv=>lhs; simp (disch:=omega) only [go_sem]); try rfl)
   simp only [List.length_map]
   omega
theorem runsOf_ok (l : List (List V)) : Does Try.prog 122 [] [rowsD l,.fn 90 []] (.fn 140 [.ptr [rowsD l],.ptr [.fn 90 []]]) []:=by
 refine Bg c_Z9 mixed (go1F trivial ?_)
 refine fin_wk (wk_fro 4 2000002 (by decide) (by decide) rfl ?_) ?_
 rotate_left
 (conv in hold _=>simp (disch:=omega) only [go_sem])
 ·refine fin_wk (wk_fro 4 2000003 (by decide) (by decide) rfl ?_) ?_
  rotate_left
  (conv in hold _=>simp (disch:=omega) only [go_sem])
  ·refine fin_L [] ?_ ?_ rfl ?_
   repeat' (first|(conv in hold _=>simp (disch:=omega) only [go_sem])|exact trivial|exact Sub.refl _|omega)
  ·rfl
 ·rfl
def tupM (lb : List (List V)) (g : List V × Nat) : D:=.tup [rowsD (List.replicate g.2 g.1),rowsD (List.replicate (cntE g.1 lb) g.1)]
theorem tupM_at {lb : List (List V)} {gs : List (List V × Nat)} {i : Nat} {es : List D} (h : (gs.map (tupM lb))[i]? = some (.tup es)) : ∃ g,gs[i]? = some g ∧ es = [rowsD (List.replicate g.2 g.1),rowsD (List.replicate (cntE g.1 lb) g.1)]:=by
 rw [List.getElem?_map] at h
 cases hr : gs[i]? with
 | none=>rw [hr] at h; cases h
 | some r=>
  rw [hr] at h
  simp only [Option.map_some,Option.some.injEq,tupM,D.tup.injEq] at h
  exact ⟨r,rfl,h.symm⟩
theorem take_match {w : Nat} {la lb : List (List V)} (hw : RsW w la) (hwb : RsW w lb) (hw6 : w ≤ 6) (ha : Asc la) (hb : Asc lb) (hl : lb.length ≤ 400) {i : Nat} {g : List V × Nat} (h : (grp la)[i]? = some g) :
  Does Try.prog 123 [.obj [rowsD (restB lb (grp la) i),.fn 90 []]] [.ref 1000000 0,rowD g.1] (rowsD (List.replicate (cntE g.1 lb) g.1)) [.obj [rowsD (restB lb (grp la) (i + 1)),.fn 90 []]]:=by
 have hsub:=restB_sub lb (grp la) i
 have hg:=hw g.1 (grp_mem (List.mem_of_getElem? h)).1
 have hrw:=rsw_sub hsub hwb
 obtain ⟨a,b,⟨hab,a1,a2,b1,b2⟩,hT⟩:=take_ok (restB lb (grp la) i) g.1 (by have:=hsub.length_le; omega) hg.2 (fun x hx=>⟨by rw [(hrw x hx).1,hg.1],by rw [(hrw x hx).1]; exact hw6,(hrw x hx).2⟩) (asc_take hrw (asc_sub hsub hb) hg.1 hg.2)
 obtain ⟨e1,e2⟩:=take_filter hab a1 a2 b1 b2
 have e3 : restB lb (grp la) (i + 1) = (restB lb (grp la) i).filter (fun x=>decide (0 < cmpR x g.1)):=by
  rw [restB,List.getD_eq_getElem?_getD,h,Option.getD_some]
 rw [restB_cnt hw ha h i (Nat.le_refl _)] at e1
 rw [e1,e2,← e3] at hT
 exact hT
theorem matched_ok {w : Nat} {la lb : List (List V)} (hw : RsW w la) (hwb : RsW w lb) (hw6 : w ≤ 6) (ha : Asc la) (hb : Asc lb) (hla : la.length ≤ 400) (hlb : lb.length ≤ 400) :
  Yields Try.prog 121 [.ptr [rowsD lb],.ptr [.fn 90 []],.ptr [rowsD la]] ((grp la).map (tupM lb)):=by
 have hY:=runs_ok hw hw6 ha hla
 have h1:=runsOf_ok la
 refine yields c_Z4 mixed (Nat.le_of_ble_eq_true rfl) (fun i e=>?_)
 conv=>arg 3; whnf
 refine go1 trivial ?_
 refine Uc trivial (h1) (go1 trivial ?_)
 have hp0 : ∀ (j : Nat) (g : List V × Nat),(grp la)[j]? = some g → (List.replicate g.2 g.1)[0]? = some g.1 ∧ 0 < g.2:=fun j g hg=>by
  have:=(grp_mem (List.mem_of_getElem? hg)).2
  exact ⟨by rw [List.getElem?_replicate,if_pos (by omega)],by omega⟩
 by_cases hel : e < (grp la).length
 ·refine dw_rngX 140 [.ptr [rowsD la],.ptr [.fn 90 []]] ((grp la).map tupG) e 2 2 [(4,.ref 1000000 0),(5,.ref 1000001 0),(12,.fn 140 [.ptr [rowsD la],.ptr [.fn 90 []]])] (fun j=>[(1000000,.obj [.v (.func (.yield i) #[] #[])]),(1000001,.obj [rowsD (restB lb (grp la) j),.fn 90 []]),(gh,.gho i ((grp la).map (tupM lb)) e j)]) hY (by kernel_rfl) rfl (Nat.zero_le _) (Nat.le_refl _) (by decide) ?_ (fun j=>namesOK_of rfl) (Wk.list [2000004,2000005] rfl rfl ?_) rfl (fun j es h=>by obtain ⟨_,_,rfl⟩:=tupG_at h; rfl) (by rw [List.length_map]; exact hel) (fun j es hj h hp=>?_) (fun es h hp=>?_)
  ·simp (disch:=omega) only [go_sem,and_self,Nat.reduceLT]
  ·repeat' (first|(conv in hold _=>simp (disch:=omega) only [go_sem])|exact trivial|exact Sub.refl _|omega)
   exact rfl
  ·obtain ⟨g,hg,rfl⟩:=tupG_at h
   obtain ⟨h0,hpos⟩:=hp0 j g hg
   have hT:=take_match hw hwb hw6 ha hb hlb hg
   refine go1 @h0 ?_
   refine UcR [1000001] trivial (hT) (go1 trivial ?_)
   refine v_yld (by ((conv=>lhs; simp (disch:=omega) only [go_sem]); try rfl)) ((show j ≤ e by omega)) ((by rw [List.getElem?_map,hg]; rfl)) (by first | rfl | (simp only [go_sem])) ?_
   refine go1 trivial ?_
   refine Wk.list [1000000,1000001] rfl rfl ?_
   repeat' (first|(conv in hold _=>simp (disch:=omega) only [go_sem])|exact trivial|exact Sub.refl _|omega)
  ·obtain ⟨g,hg,rfl⟩:=tupG_at h
   obtain ⟨h0,hpos⟩:=hp0 e g hg
   have hT:=take_match hw hwb hw6 ha hb hlb hg
   refine go1 @h0 ?_
   refine UcR [1000001] trivial (hT) (go1 trivial ?_)
   refine v_yld (by ((conv=>lhs; simp (disch:=omega) only [go_sem]); try rfl)) ((Nat.le_refl e)) ((by rw [List.getElem?_map,hg]; rfl)) (by first | rfl | (simp only [go_sem])) ?_
   refine go1 trivial ?_
   refine ⟨[(1000000,.obj [.v (.func (.yield i) #[] #[])]),(1000001,.obj [rowsD (restB lb (grp la) (e + 1)),.fn 90 []]),(gh,.gho i ((grp la).map (tupM lb)) e (e + 1))],namesOK_of rfl,Wk.list [1000000,1000001] rfl rfl ?_,?_⟩
   ·repeat' (first|(conv in hold _=>simp (disch:=omega) only [go_sem])|exact trivial|exact Sub.refl _|omega)
   ·refine ⟨(e + 1),?_,?_⟩
    ·((conv=>lhs; simp (disch:=omega) only [go_sem]); try rfl)
    exact .inr ⟨rfl,by rw [List.length_map]; exact hel⟩
 ·refine dw_rng 140 [.ptr [rowsD la],.ptr [.fn 90 []]] ((grp la).map tupG) 2 2 [(4,.ref 1000000 0),(5,.ref 1000001 0),(12,.fn 140 [.ptr [rowsD la],.ptr [.fn 90 []]])] (fun j=>[(1000000,.obj [.v (.func (.yield i) #[] #[])]),(1000001,.obj [rowsD (restB lb (grp la) j),.fn 90 []]),(gh,.gho i ((grp la).map (tupM lb)) e j)]) hY (by kernel_rfl) rfl (Nat.zero_le _) (Nat.le_refl _) (by decide) ?_ (fun j=>namesOK_of rfl) (Wk.list [2000004,2000005] rfl rfl ?_) rfl (fun j es h=>by obtain ⟨_,_,rfl⟩:=tupG_at h; rfl) (fun j es h hp=>?_) ?_
  ·simp (disch:=omega) only [go_sem,and_self,Nat.reduceLT]
  ·repeat' (first|(conv in hold _=>simp (disch:=omega) only [go_sem])|exact trivial|exact Sub.refl _|omega)
   exact rfl
  ·obtain ⟨g,hg,rfl⟩:=tupG_at h
   obtain ⟨h0,hpos⟩:=hp0 j g hg
   have hjl:=(List.getElem?_eq_some_iff.1 hg).1
   have hT:=take_match hw hwb hw6 ha hb hlb hg
   refine go1 @h0 ?_
   refine UcR [1000001] trivial (hT) (go1 trivial ?_)
   refine v_yld (by ((conv=>lhs; simp (disch:=omega) only [go_sem]); try rfl)) ((show j ≤ e by omega)) ((by rw [List.getElem?_map,hg]; rfl)) (by first | rfl | (simp only [go_sem])) ?_
   refine go1 trivial ?_
   refine Wk.list [1000000,1000001] rfl rfl ?_
   repeat' (first|(conv in hold _=>simp (disch:=omega) only [go_sem])|exact trivial|exact Sub.refl _|omega)
  ·refine go1 trivial ?_
   refine ⟨(grp la).length,?_,?_⟩
   ·((conv=>lhs; simp (disch:=omega) only [go_sem]); try rfl)
   exact .inl ⟨by rw [List.length_map],by rw [List.length_map]; omega⟩
theorem matchedRuns_ok (la lb : List (List V)) : Does Try.prog 89 [] [rowsD la,rowsD lb,.fn 90 []] (.fn 121 [.ptr [rowsD lb],.ptr [.fn 90 []],.ptr [rowsD la]]) []:=by
 refine Bg c_Z6 mixed (go1F trivial ?_)
 refine fin_wk (wk_fro 6 2000003 (by decide) (by decide) rfl ?_) ?_
 rotate_left
 (conv in hold _=>simp (disch:=omega) only [go_sem])
 ·refine fin_wk (wk_fro 6 2000004 (by decide) (by decide) rfl ?_) ?_
  rotate_left
  (conv in hold _=>simp (disch:=omega) only [go_sem])
  ·refine fin_wk (wk_fro 6 2000005 (by decide) (by decide) rfl ?_) ?_
   rotate_left
   (conv in hold _=>simp (disch:=omega) only [go_sem])
   ·refine fin_L [] ?_ ?_ rfl ?_
    repeat' (first|(conv in hold _=>simp (disch:=omega) only [go_sem])|exact trivial|exact Sub.refl _|omega)
   ·rfl
  ·rfl
 ·rfl
end Go.Proofs.Ytedmegmhjmabcaa
