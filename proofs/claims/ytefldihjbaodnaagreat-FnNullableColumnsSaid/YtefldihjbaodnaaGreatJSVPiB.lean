/-
  Drawn tables. No condition.
-/
import Derived.Test.YtefldihjbaodnaaGreatKSDca
import Derived.Test.YtefldihjbaodnaaGreatKSDcf
import Derived.Test.YtefldihjbaodnaaGreatJSVDrawTb
import Derived.Test.YtefldihjbaodnaaGreatJSVGo
import Derived.Test.YtefldihjbaodnaaGreatJSVLaw
import Derived.Test.YtefldihjbaodnaaGreatKSDcj
import Derived.Test.YtefldihjbaodnaaGreatJSVOutB
import Derived.Test.YtefldihjbaodnaaGreatKSDcd
import Derived.Test.YtefldihjbaodnaaGreatJSVDraw
import Derived.Test.YtefldihjbaodnaaGreatJSVWidE
import Derived.Test.YtefldihjbaodnaaGreatKSVTerm
set_option maxHeartbeats 4000000
set_option maxRecDepth 100000
set_option linter.unusedVariables false
set_option linter.unusedSimpArgs false
namespace Go.Proofs.YtefldihjbaodnaaGreat
open Go.RowKit
theorem rsz_le {k : Nat} : ∀ l : List (List V),(∀ r,r ∈ l → r.length ≤ k) → rsz l ≤ l.length * (k + 1)
 | [],_=>Nat.zero_le _
 | a :: l,h=>by
  have h1:=h a (List.mem_cons_self ..)
  have h2:=rsz_le l (fun r hr=>h r (List.mem_cons_of_mem _ hr))
  rw [rsz,List.length_cons,Nat.add_mul]
  omega
theorem randomTable_own {bs : List Nat} (hs : Src bs) (w : Nat) (hw : w < 1000) (m : Nat) (hm : m ≤ 100) (p : Nat) (hp : p < 600000000) : ∃ (rs : List (List V)) (q : Nat),
  (Does Tryz.prog 101 [rdD bs p] [.ref 1000000 0,I w,I m] (.agg [I w,.own 1000001 1 rs.length]) [rdD bs q,.row 1 ((srt rs).map rowD)] ∧ RsW w rs ∧ rs.length ≤ m) ∧ p ≤ q ∧ q ≤ p + 201000:=by
 obtain ⟨k,hk,k0,k1,_⟩:=pick_ok hs p (by omega) ((m : Int) + 1) (by omega)
 have hk1:=k1 (by omega)
 obtain ⟨n,rfl⟩:=Int.eq_ofNat_of_zero_le k0
 have hnm : n ≤ m:=by omega
 have hnw : n * (w * 2) ≤ 100 * 2000:=Nat.mul_le_mul (by omega) (by omega)
 obtain ⟨rs,ps,hl,h0,hd,hp0,hp1⟩:=draws (fun p (v : List V) q=>Does Tryz.prog 150 [rdD bs p] [.ref 1000000 0,I w] (rowD v) [rdD bs q] ∧ v.length = w ∧ ∀ u,u ∈ v → u.ok) 800000000 (w * 2) (fun p hp=>randomRow_fz hs w hw p hp) n (p + 1) (by omega)
 have hr : RsW w rs:=fun r hr=>by
  obtain ⟨i,hi⟩:=List.mem_iff_getElem?.1 hr
  exact (hd i r hi).2
 have ht:=tableOf_own w w hw rs (by omega) hr
 refine ⟨rs,ps n,⟨?_,hr,by omega⟩,by omega,by omega⟩
 refine Bk c_Z112 mixed 1 (go1 trivial ?_)
 refine UcR [1000000] trivial (hk) (go1 trivial ?_)
 refine dw_for (c:=3) (l:=fun i=>[(0,.ref 1000000 0),(1,I w),(2,I m),(6,.ref 1000001 0),(7,.own 1000002 1 i),(8,I ((n : Int) - i)),(1000000,rdD bs (ps i)),(1000001,.obj [I 0,.nul]),(1000002,.row 1 ((rs.take i).map rowD))]) n (fun _=>True) 0 trivial ((wk_row 7 2000090 1 (by decide) (by decide) rfl rfl).trans (Wk.list [1000000,2000006,2000090] rfl rfl ?_)) (fun i hi _=>?_) (Nat.zero_le _)
 ·rw [h0]
  repeat' (first|(conv in hold _=>simp (disch:=omega) only [go_sem])|exact trivial|exact Sub.refl _|omega)
  exact congrArg (fun n=>D.v (Value.int .i64 n)) (by omega)
 ·have htl:=take_len (vs:=rs) (i:=i) (by omega)
  have hmk:=take_map rowD (vs:=rs) (i:=i) (by omega)
  by_cases hlt : i < n
  ·obtain ⟨x,hx⟩ : ∃ x,rs[i]? = some x:=⟨_,List.getElem?_eq_getElem (by omega)⟩
   have hdi:=(hd i x hx).1
   have hnx:=take_next hx
   refine go1 trivial ?_
   refine UcR [1000000] trivial (hdi) (go1 trivial ?_)
   refine ⟨hlt,trivial,Wk.list [1000000,1000001,2000023] rfl rfl ?_⟩
   repeat' (first|(conv in hold _=>simp (disch:=omega) only [go_sem,List.length_map,htl])|exact trivial|exact Sub.refl _|omega)
   refine ⟨congrArg (fun n=>D.v (Value.int .i64 n)) (by omega),?_⟩
   rw [hmk,hnx,List.map_append]
   rfl
  ·obtain rfl : i = n:=by omega
   have e1 : rs.take i = rs:=List.take_of_length_le (by omega)
   have e2 : (rs.map rowD).take i = rs.map rowD:=by rw [← hl]; exact take_all rowD rs
   refine go1C @e1 ?_
   refine s_pre (pre_frz (t:=25) (g:=1000002) (by decide) (by decide) rfl ?_) ?_
   rotate_left
   refine go1 (cj3 @e1 @e2 @hl) ?_
   refine c_doesR [3000001] (ht) (callOK_of rfl (Nat.le_of_ble_eq_true rfl) rfl ?_ ?_) ?_ ?_
   ·repeat' (first|(conv in hold _=>simp (disch:=omega) only [go_sem])|exact trivial|exact Sub.refl _|omega)
   ·repeat' (first|(conv in hold _=>simp (disch:=omega) only [go_sem])|exact trivial|exact Sub.refl _|omega)
   ·((conv=>rhs;simp (disch:=omega) only [go_sem]); try rfl)
   repeat' (first|with_reducible refine acc_none ?_ | (conv in hold _=>simp (disch:=omega) only [go_sem])|refine Stp.go ?_|(with_reducible first|refine it_pos rfl ?_|refine it_neg (by decide) ?_|refine st_nil rfl ?_|refine s_op ?_ ?_|exact trivial)|((with_reducible first|refine dw_reg0 ?_|refine dw_regB ?_);(conv=>arg 3;whnf))|(refine Spl.go (fun hq he=>?_) (fun hq he=>?_)<;>first|(exfalso;clear hq;omega)|((try first|(conv=>arg 8;simp only [hq])|(conv=>arg 4;simp only [hq]));clear hq))|((with_reducible first|refine c_split (fun hq=>?_) (fun hq=>?_)|refine q_split (fun hq=>?_) (fun hq=>?_))<;>(try first|(conv=>arg 8;simp only [hq])|(conv=>arg 4;simp only [hq])))|(with_reducible refine fin_0 ?_ (by first|rfl|(conv=>lhs;simp only [go_sem])) ?_)|exact Sub.refl _|omega)
   ·refine fin_L [1000000,3000001] ?_ ?_ rfl ?_
    repeat' (first|(conv in hold _=>simp (disch:=omega) only [go_sem])|exact trivial|exact Sub.refl _|omega)
   ·exact rows_pur _
structure NearT (w m : Nat) (t : Ta) : Prop where
 len : t.rows.length ≤ m + 1
 row : ∀ r,r ∈ t.rows → r.length ≤ w + 7
theorem NearT.sz {w m : Nat} {t : Ta} (h : NearT w m t) (hw : w ≤ 100) (hm : m ≤ 100) : rsz t.rows ≤ 20000:=by
 have h1:=rsz_le t.rows h.row
 have h2:=h.len
 have h3 : t.rows.length * (w + 7 + 1) ≤ 101 * 108:=Nat.mul_le_mul (by omega) (by omega)
 omega
theorem anyTable_w {bs : List Nat} (hs : Src bs) (w : Nat) (hw0 : 0 < w) (hw : w < 100) (m : Nat) (hm : m ≤ 100) (p : Nat) (hp : p < 500000000) : ∃ (t : Ta) (q : Nat),
  (Does Tryz.prog 61 [rdD bs p] [.ref 1000000 0,I w,I m] (taD t) [rdD bs q] ∧ NearT w m t ∧ 0 ≤ t.w ∧ t.w ≤ 100) ∧ p ≤ q ∧ q ≤ p + 300000:=by
 obtain ⟨rs,q,⟨ht,hr,hl⟩,q0,q1⟩:=randomTable_own hs w (by omega) m hm p (by omega)
 obtain ⟨k,hk,k0,k1,_⟩:=pick_ok hs q (by omega) 20 (by omega)
 have hsl:=srt_len rs
 have hsr : RsW w (srt rs):=srt_rsw hr
 have hrow : ∀ r,r ∈ srt rs → r.length ≤ w + 7:=fun r hm=>by have:=(hsr r hm).1; omega
 have htk : ((srt rs).map rowD).take rs.length = (srt rs).map rowD:=by rw [← hsl]; exact take_all rowD (srt rs)
 by_cases h0 : k = 0
 ·obtain ⟨x,hx,hm⟩:=one_ok hs (q + 1) (by omega) [0,7,2] (by decide) (by decide)
  simp only [List.mem_cons,List.not_mem_nil,or_false] at hm
  refine ⟨⟨x,srt rs⟩,q + 2,⟨?_,⟨by show (srt rs).length ≤ m + 1; omega,hrow⟩,by show 0 ≤ x; omega,by show x ≤ 100; omega⟩,by omega,by omega⟩
  refine Bk c_Z166 mixed 1 (go1F trivial ?_)
  refine UcR [1000000,3000001] trivial (ht) (go1F trivial ?_)
  refine UcR [1000000] trivial (hk) (go1F trivial ?_)
  refine UcR [1000000] trivial (hx) (go1 trivial ?_)
  refine fin_wk (wk_frzO 2000006 3000001 (by decide) (by decide) rfl (by decide) rfl ?_) ?_
  rotate_left
  (conv in hold _=>simp (disch:=omega) only [go_sem,htk,hsl,List.length_map,Nat.le_refl])
  ·refine fin_L [1000000] ?_ ?_ rfl ?_
   repeat' (first|(conv in hold _=>simp (disch:=omega) only [go_sem])|exact trivial|exact Sub.refl _|omega)
  ·exact rows_pur _
 ·by_cases hn : rs.length = 0
  ·have hrs : rs = []:=List.length_eq_zero_iff.1 hn
   refine ⟨⟨w,srt rs⟩,q + 1,⟨?_,⟨by show (srt rs).length ≤ m + 1; omega,hrow⟩,by show (0 : Int) ≤ w; omega,by show (w : Int) ≤ 100; omega⟩,by omega,by omega⟩
   refine Bk c_Z166 mixed 1 (go1F trivial ?_)
   refine UcR [1000000,3000001] trivial (ht) (go1F trivial ?_)
   refine c_doesR [1000000] (hk) (callOK_of rfl (Nat.le_of_ble_eq_true rfl) rfl ?_ ?_) ?_ ?_
   ·repeat' (first|(conv in hold _=>simp (disch:=omega) only [go_sem])|exact trivial|exact Sub.refl _|omega)
   ·repeat' (first|(conv in hold _=>simp (disch:=omega) only [go_sem])|exact trivial|exact Sub.refl _|omega)
   ·((conv=>rhs;simp (disch:=omega) only [go_sem]); try rfl)
   repeat' (first|with_reducible refine acc_none ?_ | (conv in hold _=>simp (disch:=omega) only [go_sem])|refine Stp.go ?_|(with_reducible first|refine it_pos rfl ?_|refine it_neg (by decide) ?_|refine st_nil rfl ?_|refine s_op ?_ ?_|exact trivial)|((with_reducible first|refine dw_reg0 ?_|refine dw_regB ?_);(conv=>arg 3;whnf))|(refine Spl.go (fun hq he=>?_) (fun hq he=>?_)<;>first|(exfalso;clear hq;omega)|((try first|(conv=>arg 8;simp only [hq])|(conv=>arg 4;simp only [hq]));clear hq))|((with_reducible first|refine c_split (fun hq=>?_) (fun hq=>?_)|refine q_split (fun hq=>?_) (fun hq=>?_))<;>(try first|(conv=>arg 8;simp only [hq])|(conv=>arg 4;simp only [hq])))|exact Sub.refl _|omega)
   all_goals
    refine fin_wk (wk_frzO 2000006 3000001 (by decide) (by decide) rfl (by decide) rfl ?_) ?_
    rotate_left
    (conv in hold _=>simp (disch:=omega) only [go_sem,htk,hsl,List.length_map,Nat.le_refl])
    ·refine fin_L [1000000] ?_ ?_ rfl ?_
     repeat' (first|(conv in hold _=>simp (disch:=omega) only [go_sem])|exact trivial|exact Sub.refl _|omega)
    ·exact rows_pur _
  ·obtain ⟨r0,hr0⟩ : ∃ r,(srt rs)[0]? = some r:=⟨_,List.getElem?_eq_getElem (by omega)⟩
   have hr0m:=hsr r0 (List.mem_of_getElem? hr0)
   have hcp:=copyRow_ok r0 (by omega)
   by_cases h1 : k = 1
   ·have htk2 : ((srt rs).map rowD ++ [rowD r0]).take (rs.length + 1) = (srt rs ++ [r0]).map rowD:=by
     rw [List.map_append]
     exact List.take_of_length_le (by rw [List.length_append,List.length_map,hsl]; exact Nat.le_refl _)
    rw [rowD] at htk2
    refine ⟨⟨w,srt rs ++ [r0]⟩,q + 1,⟨?_,⟨by show (srt rs ++ [r0]).length ≤ m + 1; rw [List.length_append,hsl]; show rs.length + 1 ≤ m + 1; omega,fun r hrm=>?_⟩,by show (0 : Int) ≤ w; omega,by show (w : Int) ≤ 100; omega⟩,by omega,by omega⟩
    ·refine Bk c_Z166 mixed 1 (go1F trivial ?_)
     refine UcR [1000000,3000001] trivial (ht) (go1F trivial ?_)
     refine UcR [1000000] @hr0 (hk) (go1F @hr0 ?_)
     refine Uc (cj2 @htk @hsl) (hcp) (go1F (cj2 @htk @hsl) ?_)
     refine fin_wk (wk_frzO 2000006 2000034 (by decide) (by decide) rfl (by decide) rfl ?_) ?_
     rotate_left
     (conv in hold _=>simp (disch:=omega) only [go_sem,htk,htk2,hsl,List.length_map,List.length_append,Nat.le_refl])
     ·refine fin_L [1000000] ?_ ?_ rfl ?_
      repeat' (first|(conv in hold _=>simp (disch:=omega) only [go_sem])|exact trivial|exact Sub.refl _|omega)
     ·exact (show D.purL ((srt rs).map rowD ++ [r0].map rowD) = true by rw [← List.map_append]; exact rows_pur _)
    ·rcases List.mem_append.1 hrm with hrm | hrm
     ·exact hrow r hrm
     ·rw [List.mem_singleton.1 hrm]
      exact hrow r0 (List.mem_of_getElem? hr0)
   ·by_cases h2 : k = 2
    ·obtain ⟨x,q',⟨hx,hxl,_⟩,q2,q3⟩:=anyRow_ok hs w hw0 (by omega) (q + 1) (by omega)
     have htk3 : ((srt rs).map rowD).set 0 (rowD x) = ((srt rs).set 0 x).map rowD:=by rw [List.map_set]
     have htk4 : (((srt rs).set 0 x).map rowD).take rs.length = ((srt rs).set 0 x).map rowD:=List.take_of_length_le (by rw [List.length_map,List.length_set,hsl]; exact Nat.le_refl _)
     rw [rowD] at htk3
     refine ⟨⟨w,(srt rs).set 0 x⟩,q',⟨?_,⟨by show ((srt rs).set 0 x).length ≤ m + 1; rw [List.length_set]; omega,fun r hrm=>?_⟩,by show (0 : Int) ≤ w; omega,by show (w : Int) ≤ 100; omega⟩,by omega,by omega⟩
     ·refine Bk c_Z166 mixed 1 (go1F trivial ?_)
      refine UcR [1000000,3000001] trivial (ht) (go1F trivial ?_)
      refine UcR [1000000] @hr0 (hk) (go1F @hr0 ?_)
      refine UcR [1000000] @hr0 (hx) (go1F @hr0 ?_)
      refine fin_wk (wk_frzO 2000006 3000001 (by decide) (by decide) rfl (by decide) rfl ?_) ?_
      rotate_left
      (conv in hold _=>simp (disch:=omega) only [go_sem,htk3,htk4,hsl,List.length_map,List.length_set,Nat.le_refl])
      ·refine fin_L [1000000] ?_ ?_ rfl ?_
       repeat' (first|(conv in hold _=>simp (disch:=omega) only [go_sem])|exact trivial|exact Sub.refl _|omega)
      ·exact (by rw [htk3]; exact rows_pur _)
     ·rcases List.mem_or_eq_of_mem_set hrm with hrm | rfl
      ·exact hrow r hrm
      ·omega
    ·refine ⟨⟨w,srt rs⟩,q + 1,⟨?_,⟨by show (srt rs).length ≤ m + 1; omega,hrow⟩,by show (0 : Int) ≤ w; omega,by show (w : Int) ≤ 100; omega⟩,by omega,by omega⟩
     refine Bk c_Z166 mixed 1 (go1F trivial ?_)
     refine UcR [1000000,3000001] trivial (ht) (go1F trivial ?_)
     refine UcR [1000000] trivial (hk) (go1F trivial ?_)
     refine fin_wk (wk_frzO 2000006 3000001 (by decide) (by decide) rfl (by decide) rfl ?_) ?_
     rotate_left
     (conv in hold _=>simp (disch:=omega) only [go_sem,htk,hsl,List.length_map,Nat.le_refl])
     ·refine fin_L [1000000] ?_ ?_ rfl ?_
      repeat' (first|(conv in hold _=>simp (disch:=omega) only [go_sem])|exact trivial|exact Sub.refl _|omega)
     ·exact rows_pur _
end Go.Proofs.YtefldihjbaodnaaGreat
set_option maxHeartbeats 4000000
set_option maxRecDepth 100000
namespace Go.Proofs.YtefldihjbaodnaaGreat
open Go.RowKit
theorem range8 {a : Int} (h : 0 ≤ a ∧ a ≤ 7) : a = 0 ∨ a = 1 ∨ a = 2 ∨ a = 3 ∨ a = 4 ∨ a = 5 ∨ a = 6 ∨ a = 7:=by omega
theorem min_ok (x y : Int) : Does Tryz.prog 255 [] [I x,I y] (I (min x y)) []:=by
 exact Bg c_Z119 mixed (go0 trivial)
theorem max_ok (x y : Int) : Does Tryz.prog 256 [] [I x,I y] (I (max x y)) []:=by
 exact Bg c_Z120 mixed (go0 trivial)
def notS (a : Int) : Int:=intBit .or .i64 (intBit .or .i64 (intBit .and .i64 a 4) (IntKind.i64.wrap (intBit .and .i64 a 1 * 2 ^ min 1 64))) ((intBit .and .i64 a 2).fdiv (2 ^ min 1 64))
def in7 (n : Int) : Bool:=decide (0 ≤ n ∧ n ≤ 7)
theorem in7_iff {n : Int} (h : in7 n = true) : 0 ≤ n ∧ n ≤ 7:=of_decide_eq_true h
theorem tab_not {a : Int} (h : 0 ≤ a ∧ a ≤ 7) : notS a = neg a ∧ in7 (neg a) = true:=by
 rcases range8 h with rfl | rfl | rfl | rfl | rfl | rfl | rfl | rfl
 all_goals exact ⟨by kernel_rfl,by kernel_rfl⟩
theorem tab_and {a b : Int} (h : 0 ≤ a ∧ a ≤ 7) (h' : 0 ≤ b ∧ b ≤ 7) : tsS 8 a b = tsI min a b ∧ in7 (tsI min a b) = true:=by
 rcases range8 h with rfl | rfl | rfl | rfl | rfl | rfl | rfl | rfl
 all_goals rcases range8 h' with rfl | rfl | rfl | rfl | rfl | rfl | rfl | rfl
 all_goals exact ⟨by kernel_rfl,by kernel_rfl⟩
theorem tab_or {a b : Int} (h : 0 ≤ a ∧ a ≤ 7) (h' : 0 ≤ b ∧ b ≤ 7) : tsS 9 a b = tsI max a b ∧ in7 (tsI max a b) = true:=by
 rcases range8 h with rfl | rfl | rfl | rfl | rfl | rfl | rfl | rfl
 all_goals rcases range8 h' with rfl | rfl | rfl | rfl | rfl | rfl | rfl | rfl
 all_goals exact ⟨by kernel_rfl,by kernel_rfl⟩
def r04 (a b : Int) : Bool:=intBit .and .i64 (intBit .or .i64 a b) 4 == 0 || intBit .and .i64 (intBit .or .i64 a b) 4 == 4
theorem tab_r {a b : Int} (h : 0 ≤ a ∧ a ≤ 7) (h' : 0 ≤ b ∧ b ≤ 7) : intBit .and .i64 (intBit .or .i64 a b) 4 = 0 ∨ intBit .and .i64 (intBit .or .i64 a b) 4 = 4:=by
 have h1 : r04 a b = true:=by
  rcases range8 h with rfl | rfl | rfl | rfl | rfl | rfl | rfl | rfl
  all_goals rcases range8 h' with rfl | rfl | rfl | rfl | rfl | rfl | rfl | rfl
  all_goals kernel_rfl
 unfold r04 at h1
 rw [Bool.or_eq_true,beq_iff_eq,beq_iff_eq] at h1
 exact h1
theorem o02 : intBit .or .i64 0 2 = 2:=by kernel_rfl
theorem o01 : intBit .or .i64 0 1 = 1:=by kernel_rfl
theorem o21 : intBit .or .i64 2 1 = 3:=by kernel_rfl
theorem o03 : intBit .or .i64 0 3 = 3:=by kernel_rfl
theorem o43 : intBit .or .i64 4 3 = 7:=by kernel_rfl
theorem o34 : intBit .or .i64 3 4 = 7:=by kernel_rfl
theorem o74 : intBit .or .i64 7 4 = 7:=by kernel_rfl
theorem a03 : intBit .and .i64 0 3 = 0:=by kernel_rfl
theorem a43 : intBit .and .i64 4 3 = 0:=by kernel_rfl
theorem a33 : intBit .and .i64 3 3 = 3:=by kernel_rfl
theorem a73 : intBit .and .i64 7 3 = 3:=by kernel_rfl
def ntV (a : Int) : Int:=if intBit .and .i64 a 4 = 0 then (if intBit .and .i64 a 3 = 0 then 0 else 1) else if intBit .and .i64 a 3 = 0 then 2 else 3
theorem ntV_range (a : Int) : 0 ≤ ntV a ∧ ntV a ≤ 7:=by
 unfold ntV
 repeat' split
 all_goals decide
theorem null_ok (a : Int) : Does Tryz.prog 253 [] [I a] (I (ntV a)) []:=by
 unfold ntV
 by_cases h4 : intBit .and .i64 a 4 = 0
 ·rw [if_pos h4]
  by_cases h3 : intBit .and .i64 a 3 = 0
  ·rw [if_pos h3]
   exact Bg c_Z63 mixed (go0 (cj3 @o02 @o01 @o21))
  ·rw [if_neg h3]
   exact Bg c_Z63 mixed (go0 (cj3 @o02 @o01 @o21))
 ·rw [if_neg h4]
  by_cases h3 : intBit .and .i64 a 3 = 0
  ·rw [if_pos h3]
   exact Bg c_Z63 mixed (go0 (cj3 @o02 @o01 @o21))
  ·rw [if_neg h3]
   exact Bg c_Z63 mixed (go0 (cj3 @o02 @o01 @o21))
def both (a b : Int) : Prop:=¬ intBit .and .i64 a 3 = 0 ∧ ¬ intBit .and .i64 b 3 = 0
noncomputable instance bothDec (a b : Int) : Decidable (both a b):=Classical.propDecidable _
theorem cmp_no {a b r : Int} (hr : intBit .and .i64 (intBit .or .i64 a b) 4 = r) (h : ¬ both a b) : Does Tryz.prog 257 [] [I a,I b] (I r) []:=by
 unfold both at h
 exact Bg c_Z45 mixed (go0 @hr)
theorem cmp_0 {a b : Int} (hr : intBit .and .i64 (intBit .or .i64 a b) 4 = 0) (h : both a b) : Does Tryz.prog 257 [] [I a,I b] (I 3) []:=by
 unfold both at h
 exact Bg c_Z45 mixed (go0 (cj2 @hr @o03))
theorem cmp_4 {a b : Int} (hr : intBit .and .i64 (intBit .or .i64 a b) 4 = 4) (h : both a b) : Does Tryz.prog 257 [] [I a,I b] (I 7) []:=by
 unfold both at h
 exact Bg c_Z45 mixed (go0 (cj2 @hr @o43))
theorem ari_0 {a b : Int} (h : Does Tryz.prog 257 [] [I a,I b] (I 0) []) : Does Tryz.prog 258 [] [I a,I b] (I 0) []:=by
 refine Bg c_Z43 mixed (go1 trivial ?_)
 exact Uc @a03 (h) (go0 @a03)
theorem ari_4 {a b : Int} (h : Does Tryz.prog 257 [] [I a,I b] (I 4) []) : Does Tryz.prog 258 [] [I a,I b] (I 4) []:=by
 refine Bg c_Z43 mixed (go1 trivial ?_)
 exact Uc @a43 (h) (go0 @a43)
theorem ari_3 {a b : Int} (h : Does Tryz.prog 257 [] [I a,I b] (I 3) []) : Does Tryz.prog 258 [] [I a,I b] (I 7) []:=by
 refine Bg c_Z43 mixed (go1 trivial ?_)
 exact Uc (cj2 @a33 @o34) (h) (go0 (cj2 @a33 @o34))
theorem ari_7 {a b : Int} (h : Does Tryz.prog 257 [] [I a,I b] (I 7) []) : Does Tryz.prog 258 [] [I a,I b] (I 7) []:=by
 refine Bg c_Z43 mixed (go1 trivial ?_)
 exact Uc (cj2 @a73 @o74) (h) (go0 (cj2 @a73 @o74))
end Go.Proofs.YtefldihjbaodnaaGreat
set_option maxHeartbeats 4000000
set_option maxRecDepth 100000
set_option linter.unusedVariables false
set_option linter.unusedSimpArgs false
namespace Go.Proofs.YtefldihjbaodnaaGreat
open Go.RowKit
theorem holds_itr (ex : E) (r : List V) : (itr (ev ex r) == 2) = holdsB ex r:=by
 unfold holdsB itr tr
 split
 ·rfl
 ·split <;> rfl
theorem fil_at {p : List V → Bool} {rs : List (List V)} {j : Nat} {x : List V} (hx : rs[j]? = some x) (hp : p x = true) : (rs.filter p)[((rs.take j).filter p).length]? = some x:=by
 have h1 : rs.filter p = ((rs.take j).filter p ++ [x]) ++ (rs.drop (j + 1)).filter p:=by
  rw [← fil_t hx hp,← List.filter_append,List.take_append_drop]
 rw [h1,List.append_assoc,List.getElem?_append_right (Nat.le_refl _),Nat.sub_self]
 rfl
theorem filteredRows_yields {w : Nat} (rs : List (List V)) (hl : rs.length ≤ 100000) (hs : RsW w rs) (ex : E) (hex : eOk ex w 8) :
  Yields Tryz.prog 155 [.ptr [rowsD rs],.ptr [tD ex]] ((rs.filter (holdsB ex)).map tupR):=by
 refine yields c_Z60 mixed (Nat.le_of_ble_eq_true rfl) (fun i e=>?_)
 conv=>arg 3; whnf
 refine go1 trivial ?_
 refine dw_for (c:=0) (l:=fun j=>[(0,.v (.func (.yield i) #[] #[])),(1,.ptr [rowsD rs]),(2,.ptr [tD ex]),(6,rowsD rs),(7,I rs.length),(8,I j),(gh,.gho i ((rs.filter (holdsB ex)).map tupR) e ((rs.take j).filter (holdsB ex)).length)]) rs.length (fun j=>((rs.take j).filter (holdsB ex)).length ≤ e) 0 (Nat.zero_le _) (Wk.list [] rfl rfl ?_) (fun j hj hJ=>?_) (Nat.zero_le _)
 ·repeat' (first|(conv in hold _=>simp (disch:=omega) only [go_sem])|exact trivial|exact Sub.refl _|omega)
  first | exact rfl | exact ⟨rfl,rfl⟩
 ·rcases at_or_end hj with ⟨x,hx,hlt⟩ | rfl
  ·have hxr:=hs x (List.mem_of_getElem? hx)
   obtain ⟨_,t,e0,f,hd,hp0,hm,hv⟩:=termOf_ok hxr.2 ex 8 (by rw [hxr.1]; exact hex)
   have ht:=truth_of_ok (ev ex x)
   have hh:=holds_itr ex x
   generalize ev ex x = v at hv ht hh
   cases hq : holdsB ex x with
   | true=>
    rw [hq] at hh
    have hh2 : itr v = 2:=beq_iff_eq.1 hh
    rw [hh2] at ht
    have hat:=fil_at hx hq
    have hnx:=fil_t hx hq
    have hcl:=(List.getElem?_eq_some_iff.1 hat).1
    have hnl : ((rs.take (j + 1)).filter (holdsB ex)).length = ((rs.take j).filter (holdsB ex)).length + 1:=by rw [hnx,List.length_append]; rfl
    generalize ((rs.take j).filter (holdsB ex)).length = c at hJ hat hcl hnl
    refine go1 (cj2 @hx @hd) ?_
    refine i_meth (hm) ?_
    refine Uc (cj2 @hd @hp0) (hv) (go1 (cj2 @hd @hp0) ?_)
    refine Uc trivial (ht) (go1 trivial ?_)
    refine v_yld (by ((conv=>lhs; simp (disch:=omega) only [go_sem]); try rfl)) (hJ) ((by rw [List.getElem?_map,hat]; rfl)) (by first | rfl | (simp only [go_sem])) ?_
    repeat' (first|with_reducible refine acc_none ?_ | (conv in hold _=>simp (disch:=omega) only [go_sem])|refine Stp.go ?_|(with_reducible first|refine it_pos rfl ?_|refine it_neg (by decide) ?_|refine st_nil rfl ?_|refine s_op ?_ ?_|exact trivial)|((with_reducible first|refine dw_reg0 ?_|refine dw_regB ?_);(conv=>arg 3;whnf))|(refine Spl.go (fun hq he=>?_) (fun hq he=>?_)<;>first|(exfalso;clear hq;omega)|((try first|(conv=>arg 8;simp only [hq])|(conv=>arg 4;simp only [hq]));clear hq))|((with_reducible first|refine c_split (fun hq=>?_) (fun hq=>?_)|refine q_split (fun hq=>?_) (fun hq=>?_))<;>(try first|(conv=>arg 8;simp only [hq])|(conv=>arg 4;simp only [hq])))|(with_reducible refine fin_0 ?_ (by first|rfl|(conv=>lhs;simp only [go_sem])) ?_)|exact Sub.refl _|omega)
    ·refine ⟨(c + 1),?_,?_⟩
     ·((conv=>lhs; simp (disch:=omega) only [go_sem]); try rfl)
     simp only [List.length_map]
     omega
    ·refine ⟨hlt,by omega,Wk.list [] rfl rfl ?_⟩
     repeat' (first|(conv in hold _=>simp (disch:=omega) only [go_sem,hnl,hd])|exact trivial|exact Sub.refl _|omega)
   | false=>
    rw [hq] at hh
    have hnx:=fil_f hx hq
    refine go1 (cj2 @hx @hd) ?_
    refine i_meth (hm) ?_
    refine Uc (cj2 @hd @hp0) (hv) (go1 (cj2 @hd @hp0) ?_)
    refine Uc @hh (ht) (go1 @hh ?_)
    refine ⟨hlt,by rw [hnx]; exact hJ,Wk.list [] rfl rfl ?_⟩
    repeat' (first|(conv in hold _=>simp (disch:=omega) only [go_sem,hnx,hd])|exact trivial|exact Sub.refl _|omega)
  ·rw [List.take_length] at hJ ⊢
   refine go1 trivial ?_
   refine ⟨(rs.filter (holdsB ex)).length,?_,?_⟩
   ·((conv=>lhs; simp (disch:=omega) only [go_sem]); try rfl)
   rw [List.length_map]
   omega
end Go.Proofs.YtefldihjbaodnaaGreat
