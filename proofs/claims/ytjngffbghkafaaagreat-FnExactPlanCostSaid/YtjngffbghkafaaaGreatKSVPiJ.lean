/-
  Unions, distinct rows and groups, as the program hands them out. No condition.
-/
import Derived.Test.YtjngffbghkafaaaGreatKSDca
import Derived.Test.YtjngffbghkafaaaGreatJSDce
import Derived.Test.YtjngffbghkafaaaGreatKSVPiI
import Derived.Test.YtjngffbghkafaaaGreatJSVPiD
import Derived.Test.YtjngffbghkafaaaGreatKSVPeD
import Derived.Test.YtjngffbghkafaaaGreatJSVGo
set_option maxHeartbeats 4000000
set_option maxRecDepth 100000
set_option linter.unusedVariables false
set_option linter.unusedSimpArgs false
namespace Go.Proofs.YtjngffbghkafaaaGreat
open Go.RowKit
theorem growR_ok (n : Nat) (h0 : 0 < n) (hn : n ≤ 1000000) : Does Tryz.prog 190 [] [.nul,I n] (.own 1000000 1 0) [.row 1 (List.replicate n .nul)]:=by
 have hp : D.renL [2000022] (List.replicate n .nul) = List.replicate n .nul:=by rw [D.renL_map,List.map_replicate]; rfl
 refine Bk c_Z5 mixed 0 (go1 (cj3 @cast0 @Int.sub_self @Int.sub_zero) ?_)
 refine fin_L [2000022] ?_ ?_ rfl ?_
 repeat' (first|(conv in hold _=>simp (disch:=omega) only [go_sem,cast0,Int.sub_self,Int.sub_zero,hp])|exact trivial|exact Sub.refl _|omega)
theorem growR_0 : Does Tryz.prog 190 [] [.nul,I 0] .nul []:=by
 exact Bg c_Z5 mixed (go0 (cj3 @cast0 @Int.sub_self @Int.sub_zero))
theorem concatR_own (a b : List (List V)) (hl : a.length + b.length ≤ 100000) : Does Tryz.prog 153 [] [.sl 1 [rowsD a,rowsD b]] (.own 1000000 1 (a.length + b.length)) [.row 1 ((a ++ b).map rowD)]:=by
 by_cases h0 : 0 < a.length + b.length
 ·have hg:=growR_ok (a.length + b.length) h0 (by omega)
  have e0 : (List.replicate (a.length + b.length) D.nul).take 0 = []:=rfl
  have ea:=take_all rowD a
  have hp : ∀ L,D.renL L (List.replicate (a.length + b.length) .nul) = List.replicate (a.length + b.length) .nul:=fun L=>by rw [D.renL_map,List.map_replicate]; rfl
  have ec : (((a.length + b.length : Nat) : Int)) = (a.length : Int) + (b.length : Int):=by omega
  refine Bk c_Z3 mixed 0 (go1 trivial ?_)
  refine dw_for (c:=0) (l:=fun i=>[(0,.sl 1 [rowsD a,rowsD b]),(3,I (at3 0 (a.length : Int) (a.length + b.length : Nat) i)),(9,.sl 1 [rowsD a,rowsD b]),(10,I 2),(11,I (at3 0 1 2 i))]) 2 (fun _=>True) 0 trivial (Wk.list [] rfl rfl ?_) (fun i hi _=>?_) (by decide)
  ·repeat' (first|(conv in hold _=>simp (disch:=omega) only [go_sem,at3_0,Int.reduceAdd])|exact trivial|exact Sub.refl _|omega)
   first | exact rfl | exact ⟨rfl,rfl⟩
  ·have h3 : i = 0 ∨ i = 1 ∨ i = 2:=by omega
   rcases h3 with rfl | rfl | rfl
   ·refine go1 (cj2 @at3_0 @Int.zero_add) ?_
    refine ⟨by decide,trivial,Wk.list [] rfl rfl ?_⟩
    repeat' (first|(conv in hold _=>simp (disch:=omega) only [go_sem,at3_1,Nat.reduceAdd,Int.reduceAdd])|exact trivial|exact Sub.refl _|omega)
   ·refine go1 @at3_1 ?_
    refine ⟨by decide,trivial,Wk.list [] rfl rfl ?_⟩
    repeat' (first|(conv in hold _=>simp (disch:=omega) only [go_sem,at3_2,Nat.reduceAdd,Int.reduceAdd,ec])|exact trivial|exact Sub.refl _|omega)
   ·refine go1 @at3_2 ?_
    refine UcR [3000001] trivial (hg) (go1 trivial ?_)
    refine dw_for (c:=1) (l:=fun i=>[(6,.own 1000000 1 (at3 0 a.length (a.length + b.length) i)),(25,.sl 1 [rowsD a,rowsD b]),(26,I 2),(27,I (at3 0 1 2 i)),(1000000,.row 1 (at3 (List.replicate (a.length + b.length) .nul) (a.map rowD) ((a ++ b).map rowD) i))]) 2 (fun _=>True) 0 trivial (Wk.list [3000001] rfl rfl ?_) (fun i hi _=>?_) (by decide)
    ·repeat' (first|(conv in hold _=>simp (disch:=omega) only [go_sem,at3_0,Int.reduceAdd,hp])|exact trivial|exact Sub.refl _|omega)
     first | exact rfl | exact ⟨rfl,rfl⟩
    ·have h3 : i = 0 ∨ i = 1 ∨ i = 2:=by omega
     rcases h3 with rfl | rfl | rfl
     ·refine go1 (cj2 @at3_0 @e0) ?_
      refine ⟨by decide,trivial,Wk.list [2000033] rfl rfl ?_⟩
      repeat' (first|(conv in hold _=>simp (disch:=omega) only [go_sem,at3_1,Nat.reduceAdd,Int.reduceAdd,e0])|exact trivial|exact Sub.refl _|omega)
     ·refine go1 (cj2 @at3_1 @ea) ?_
      refine ⟨by decide,trivial,Wk.list [2000033] rfl rfl ?_⟩
      repeat' (first|(conv in hold _=>simp (disch:=omega) only [go_sem,at3_2,Nat.reduceAdd,Int.reduceAdd,ea])|exact trivial|exact Sub.refl _|omega)
      rw [List.map_append]
     ·refine go1 @at3_2 ?_
      refine fin_L [1000000] ?_ ?_ rfl ?_
      repeat' (first|(conv in hold _=>simp (disch:=omega) only [go_sem,at3_2])|exact trivial|exact Sub.refl _|omega)
 ·obtain rfl : a = []:=List.eq_nil_of_length_eq_zero (by omega)
  obtain rfl : b = []:=List.eq_nil_of_length_eq_zero (by omega)
  have hg:=growR_0
  refine Bk c_Z3 mixed 0 (go1 trivial ?_)
  refine dw_for (c:=0) (l:=fun i=>[(0,.sl 1 [rowsD [],rowsD []]),(3,I 0),(9,.sl 1 [rowsD [],rowsD []]),(10,I 2),(11,I (at3 0 1 2 i))]) 2 (fun _=>True) 0 trivial (Wk.list [] rfl rfl ?_) (fun i hi _=>?_) (by decide)
  ·repeat' (first|(conv in hold _=>simp (disch:=omega) only [go_sem,at3_0,Int.reduceAdd])|exact trivial|exact Sub.refl _|omega)
   first | exact rfl | exact ⟨rfl,rfl⟩
  ·have h3 : i = 0 ∨ i = 1 ∨ i = 2:=by omega
   rcases h3 with rfl | rfl | rfl
   ·refine go1 (cj4 @at3_0 @Int.zero_add @cast0 @Int.add_zero) ?_
    refine ⟨by decide,trivial,Wk.list [] rfl rfl ?_⟩
    repeat' (first|(conv in hold _=>simp (disch:=omega) only [go_sem,at3_1,Nat.reduceAdd,Int.reduceAdd,cast0])|exact trivial|exact Sub.refl _|omega)
   ·refine go1 (cj3 @at3_1 @cast0 @Int.add_zero) ?_
    refine ⟨by decide,trivial,Wk.list [] rfl rfl ?_⟩
    repeat' (first|(conv in hold _=>simp (disch:=omega) only [go_sem,at3_2,Nat.reduceAdd,Int.reduceAdd,cast0])|exact trivial|exact Sub.refl _|omega)
   ·refine go1 @at3_2 ?_
    refine Uc trivial (hg) (go1 trivial ?_)
    refine dw_for (c:=1) (l:=fun i=>[(6,.own 1000000 1 0),(25,.sl 1 [rowsD [],rowsD []]),(26,I 2),(27,I (at3 0 1 2 i)),(1000000,.row 1 [])]) 2 (fun _=>True) 0 trivial ((wk_row 6 2000090 1 (by decide) (by decide) rfl rfl).trans (Wk.list [2000090] rfl rfl ?_)) (fun i hi _=>?_) (by decide)
    ·repeat' (first|(conv in hold _=>simp (disch:=omega) only [go_sem,at3_0,Int.reduceAdd])|exact trivial|exact Sub.refl _|omega)
     first | exact rfl | exact ⟨rfl,rfl⟩
    ·have h3 : i = 0 ∨ i = 1 ∨ i = 2:=by omega
     rcases h3 with rfl | rfl | rfl
     ·repeat' (first|with_reducible refine acc_none ?_ | (conv in hold _=>simp (disch:=omega) only [go_sem,at3_0,Int.reduceToNat,List.take_nil])|refine Stp.go ?_|(with_reducible first|refine it_pos rfl ?_|refine it_neg (by decide) ?_|refine st_nil rfl ?_|refine s_op ?_ ?_|exact trivial)|((with_reducible first|refine dw_reg0 ?_|refine dw_regB ?_);(conv=>arg 3;whnf))|(refine Spl.go (fun hq he=>?_) (fun hq he=>?_)<;>first|(exfalso;clear hq;omega)|((try first|(conv=>arg 8;simp only [hq])|(conv=>arg 4;simp only [hq]));clear hq))|((with_reducible first|refine c_split (fun hq=>?_) (fun hq=>?_)|refine q_split (fun hq=>?_) (fun hq=>?_))<;>(try first|(conv=>arg 8;simp only [hq])|(conv=>arg 4;simp only [hq])))|(with_reducible refine fin_0 ?_ (by first|rfl|(conv=>lhs;simp only [go_sem,at3_0,Int.reduceToNat,List.take_nil])) ?_)|exact Sub.refl _|omega)
      refine ⟨by decide,trivial,Wk.list [2000033] rfl rfl ?_⟩
      repeat' (first|(conv in hold _=>simp (disch:=omega) only [go_sem,at3_1,Nat.reduceAdd,Int.reduceAdd,List.take_nil])|exact trivial|exact Sub.refl _|omega)
     ·repeat' (first|with_reducible refine acc_none ?_ | (conv in hold _=>simp (disch:=omega) only [go_sem,at3_1,Int.reduceToNat,List.take_nil])|refine Stp.go ?_|(with_reducible first|refine it_pos rfl ?_|refine it_neg (by decide) ?_|refine st_nil rfl ?_|refine s_op ?_ ?_|exact trivial)|((with_reducible first|refine dw_reg0 ?_|refine dw_regB ?_);(conv=>arg 3;whnf))|(refine Spl.go (fun hq he=>?_) (fun hq he=>?_)<;>first|(exfalso;clear hq;omega)|((try first|(conv=>arg 8;simp only [hq])|(conv=>arg 4;simp only [hq]));clear hq))|((with_reducible first|refine c_split (fun hq=>?_) (fun hq=>?_)|refine q_split (fun hq=>?_) (fun hq=>?_))<;>(try first|(conv=>arg 8;simp only [hq])|(conv=>arg 4;simp only [hq])))|(with_reducible refine fin_0 ?_ (by first|rfl|(conv=>lhs;simp only [go_sem,at3_1,Int.reduceToNat,List.take_nil])) ?_)|exact Sub.refl _|omega)
      refine ⟨by decide,trivial,Wk.list [2000033] rfl rfl ?_⟩
      repeat' (first|(conv in hold _=>simp (disch:=omega) only [go_sem,at3_2,Nat.reduceAdd,Int.reduceAdd,List.take_nil])|exact trivial|exact Sub.refl _|omega)
     ·refine go1 @at3_2 ?_
      refine fin_L [1000000] ?_ ?_ rfl ?_
      repeat' (first|(conv in hold _=>simp (disch:=omega) only [go_sem,at3_2])|exact trivial|exact Sub.refl _|omega)
theorem keyRows (w : Nat) (hw : w < 1000) : KeyF 96 [] (fun x=>x) w (okR w) where
 ent:=by kernel_rfl
 pur:=rfl
 call x y hx hy:=compareRows_impl x y (by rw [hx.1,hy.1]) (by have:=hx.1; omega) hx.2 hy.2
 wid x hx:=hx
theorem distinctRows_p (rs : List (List V)) : Does Tryz.prog 154 [] [rowsD rs] (.fn 191 [.ptr [rowsD rs]]) []:=by
 refine Bg c_Z53 mixed (go1F trivial ?_)
 refine fin_wk (wk_fro 2 2000001 (by decide) (by decide) rfl ?_) ?_
 rotate_left
 (conv in hold _=>simp (disch:=omega) only [go_sem])
 ·refine fin_L [] ?_ ?_ rfl ?_
  repeat' (first|(conv in hold _=>simp (disch:=omega) only [go_sem])|exact trivial|exact Sub.refl _|omega)
 ·rfl
noncomputable def dstQ (rs : List (List V)) : List (List V):=(runK (fun x=>x) (srK (fun x=>x) rs)).map (fun g=>g.headD [])
theorem distinctRows_yields {w : Nat} (hw : w < 1000) (rs : List (List V)) (hs : RsW w rs) (hl : rs.length ≤ 400) : Yields Tryz.prog 191 [.ptr [rowsD rs]] ((dstQ rs).map tupR):=by
 have hK:=keyRows w hw
 have hsp:=srK_perm hK.wid hs
 have hsa:=srK_asc hK.wid hs
 have h1:=sortedRows_ok hK rs hs (by omega)
 have h2:=runsOfK_ok hK (srK (fun x=>x) rs)
 have hq : ∀ x,x ∈ srK (fun x=>x) rs → okR w x:=fun x hx=>hs x (hsp.mem_iff.1 hx)
 have hsl:=hsp.length_eq
 have hY:=runsK_yields hK hq hsa (by omega)
 unfold dstQ
 have hne : ∀ g,g ∈ runK (fun x=>x) (srK (fun x=>x) rs) → g[0]? = some (g.headD []) ∧ 0 < g.length:=fun g hg=>by
  cases g with
  | nil=>exact absurd rfl (runK_ne hg).1
  | cons x y=>exact ⟨rfl,Nat.succ_pos _⟩
 generalize srK (fun x=>x) rs = S at *
 have htk : (S.map rowD).take rs.length = S.map rowD:=by rw [← hsl]; exact take_all rowD S
 refine yields c_Z40 mixed (Nat.le_of_ble_eq_true rfl) (fun i e=>?_)
 conv=>arg 3; whnf
 refine go1 trivial ?_
 refine UcR [3000001] trivial (h1) (go1C trivial ?_)
 refine s_pre (pre_frz (t:=5) (g:=3000001) (by decide) (by decide) rfl ?_) ?_
 rotate_left
 refine go1 (cj2 @htk @hsl) ?_
 ·refine Uc trivial (h2) (go1 trivial ?_)
  generalize runK (fun x=>x) S = G at hY hne
  by_cases hel : e < G.length
  ·refine dw_rngX 222 [.ptr [rowsD S],.ptr [.fn 96 []]] (G.map tupS) e 1 1 [(2,.ref 1000000 0),(6,.fn 222 [.ptr [rowsD S],.ptr [.fn 96 []]])] (fun j=>[(1000000,.obj [.v (.func (.yield i) #[] #[])]),(gh,.gho i ((G.map (fun g=>g.headD [])).map tupR) e j)]) hY (by kernel_rfl) rfl (Nat.zero_le _) (Nat.le_refl _) (by decide) ?_ (fun j=>namesOK_of rfl) (Wk.list [2000002] rfl rfl ?_) rfl (fun j es h=>by obtain ⟨_,_,rfl⟩:=tupS_at h; rfl) (by rw [List.length_map]; exact hel) (fun j es hj h hp=>?_) (fun es h hp=>?_)
   ·simp (disch:=omega) only [go_sem,and_self,Nat.reduceLT]
   ·repeat' (first|(conv in hold _=>simp (disch:=omega) only [go_sem])|exact trivial|exact Sub.refl _|omega)
    try exact rfl
   ·obtain ⟨g,hg,rfl⟩:=tupS_at h
    obtain ⟨h0,hpos⟩:=hne g (List.mem_of_getElem? hg)
    refine go1 @h0 ?_
    refine v_yld (by ((conv=>lhs; simp (disch:=omega) only [go_sem]); try rfl)) ((show j ≤ e by omega)) ((by rw [List.getElem?_map,List.getElem?_map,hg]; rfl)) (by first | rfl | (simp only [go_sem])) ?_
    refine go1 trivial ?_
    refine Wk.list [1000000] rfl rfl ?_
    repeat' (first|(conv in hold _=>simp (disch:=omega) only [go_sem])|exact trivial|exact Sub.refl _|omega)
   ·obtain ⟨g,hg,rfl⟩:=tupS_at h
    obtain ⟨h0,hpos⟩:=hne g (List.mem_of_getElem? hg)
    refine go1 @h0 ?_
    refine v_yld (by ((conv=>lhs; simp (disch:=omega) only [go_sem]); try rfl)) ((Nat.le_refl e)) ((by rw [List.getElem?_map,List.getElem?_map,hg]; rfl)) (by first | rfl | (simp only [go_sem])) ?_
    refine go1 trivial ?_
    refine ⟨[(1000000,.obj [.v (.func (.yield i) #[] #[])]),(gh,.gho i ((G.map (fun g=>g.headD [])).map tupR) e (e + 1))],namesOK_of rfl,Wk.list [1000000] rfl rfl ?_,?_⟩
    ·repeat' (first|(conv in hold _=>simp (disch:=omega) only [go_sem])|exact trivial|exact Sub.refl _|omega)
    ·refine ⟨(e + 1),?_,?_⟩
     ·((conv=>lhs; simp (disch:=omega) only [go_sem]); try rfl)
     exact .inr ⟨rfl,by rw [List.length_map,List.length_map]; exact hel⟩
  ·refine dw_rng 222 [.ptr [rowsD S],.ptr [.fn 96 []]] (G.map tupS) 1 1 [(2,.ref 1000000 0),(6,.fn 222 [.ptr [rowsD S],.ptr [.fn 96 []]])] (fun j=>[(1000000,.obj [.v (.func (.yield i) #[] #[])]),(gh,.gho i ((G.map (fun g=>g.headD [])).map tupR) e j)]) hY (by kernel_rfl) rfl (Nat.zero_le _) (Nat.le_refl _) (by decide) ?_ (fun j=>namesOK_of rfl) (Wk.list [2000002] rfl rfl ?_) rfl (fun j es h=>by obtain ⟨_,_,rfl⟩:=tupS_at h; rfl) (fun j es h hp=>?_) ?_
   ·simp (disch:=omega) only [go_sem,and_self,Nat.reduceLT]
   ·repeat' (first|(conv in hold _=>simp (disch:=omega) only [go_sem])|exact trivial|exact Sub.refl _|omega)
    try exact rfl
   ·obtain ⟨g,hg,rfl⟩:=tupS_at h
    obtain ⟨h0,hpos⟩:=hne g (List.mem_of_getElem? hg)
    have hjl:=(List.getElem?_eq_some_iff.1 hg).1
    refine go1 @h0 ?_
    refine v_yld (by ((conv=>lhs; simp (disch:=omega) only [go_sem]); try rfl)) ((show j ≤ e by omega)) ((by rw [List.getElem?_map,List.getElem?_map,hg]; rfl)) (by first | rfl | (simp only [go_sem])) ?_
    refine go1 trivial ?_
    refine Wk.list [1000000] rfl rfl ?_
    repeat' (first|(conv in hold _=>simp (disch:=omega) only [go_sem])|exact trivial|exact Sub.refl _|omega)
   ·rw [List.length_map]
    refine go1 trivial ?_
    refine ⟨G.length,?_,?_⟩
    ·((conv=>lhs; simp (disch:=omega) only [go_sem]); try rfl)
    exact .inl ⟨by rw [List.length_map,List.length_map],by rw [List.length_map,List.length_map]; omega⟩
 ·exact rows_pur _
end Go.Proofs.YtjngffbghkafaaaGreat
