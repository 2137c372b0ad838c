/-
  Unions of tables, in both packages; two drawn tables. No condition.
-/
import Derived.Test.YtedmegmhjmabcaaKSDca
import Derived.Test.YtedmegmhjmabcaaKSDcc
import Derived.Test.YtedmegmhjmabcaaKSVDrawTb
import Derived.Test.YtedmegmhjmabcaaKSVClone
import Derived.Test.YtedmegmhjmabcaaKSVDrawTc
import Derived.Test.YtedmegmhjmabcaaSVGo
set_option maxHeartbeats 4000000
set_option maxRecDepth 100000
set_option linter.unusedVariables false
set_option linter.unusedSimpArgs false
namespace Go.Proofs.Ytedmegmhjmabcaa
open Go.RowKit
def sameT (a b : Ta) : Prop:=tOk a ∧ tOk b ∧ a.w = b.w
noncomputable instance sameTDec (a b : Ta) : Decidable (sameT a b):=Classical.propDecidable _
theorem sameT.symm {a b : Ta} (h : sameT a b) : sameT b a:=⟨h.2.1,h.1,h.2.2.symm⟩
theorem haveSameWidth_ok (a b : Ta) (ha : rsz a.rows ≤ 1048576) (hb : rsz b.rows ≤ 1048576) : Does Try.prog 88 [] [taD a,taD b] (Bo (decide (sameT a b))) []:=by
 have h1:=ValidTable_impl a ha
 have h2:=ValidTable_impl b hb
 by_cases h : tOk a
 ·rw [decide_eq_true h] at h1
  by_cases h' : tOk b
  ·rw [decide_eq_true h'] at h2
   refine Bg c_Z4 mixed (go1 trivial ?_)
   refine Uc trivial (h1) (go1 trivial ?_)
   refine Uc trivial (h2) (go1 trivial ?_)
   exact sub_iff (by rw [beq_iff_eq]; exact ⟨fun x=>⟨h,h',x⟩,fun x=>x.2.2⟩)
  ·rw [decide_eq_false h'] at h2
   refine Bg c_Z4 mixed (go1 trivial ?_)
   refine Uc trivial (h1) (go1 trivial ?_)
   refine Uc trivial (h2) (go1 trivial ?_)
   exact sub_f (fun x=>h' x.2.1)
 ·rw [decide_eq_false h] at h1
  refine Bg c_Z4 mixed (go1 trivial ?_)
  refine Uc trivial (h1) (go1 trivial ?_)
  exact sub_f (fun x=>h x.1)
theorem tOk_nat {t : Ta} (h : tOk t) : ∃ w : Nat,t.w = (w : Int) ∧ (1 ≤ w ∧ w ≤ 6) ∧ RsW w t.rows ∧ Asc t.rows ∧ t.rows.length ≤ 400:=by
 have h1:=h.1.1
 refine ⟨t.w.toNat,by omega,by omega,rsw_of_tOk h,asc_of_tOk h,h.1.2⟩
theorem UnionAll_impl_t {a b : Ta} (ha : rsz a.rows ≤ 1048576) (hb : rsz b.rows ≤ 1048576) (h : sameT a b) (hl : a.rows.length + b.rows.length ≤ 400) : Does Try.prog 54 [] [taD a,taD b] (.tup [taD ⟨a.w,srt (a.rows ++ b.rows)⟩,Bo true]) []:=by
 have h1:=haveSameWidth_ok a b ha hb
 rw [decide_eq_true h] at h1
 obtain ⟨w,hw,hw6,hra,_,hla⟩:=tOk_nat h.1
 obtain ⟨w',hw',_,hrb,_,hlb⟩:=tOk_nat h.2.1
 obtain rfl : w = w':=by have:=h.2.2; omega
 have h2:=cloneRows_own a.rows (fun r hm=>by have:=(hra r hm).1; omega) (by omega)
 have h3:=cloneRows_own b.rows (fun r hm=>by have:=(hrb r hm).1; omega) (by omega)
 have h4:=sortedTable_ok w (by omega) (a.rows ++ b.rows) (rsw_app hra hrb) (by rw [List.length_append]; omega)
 rw [List.map_append,List.length_append,← hw] at h4
 have e1:=take_all rowD a.rows
 have e2:=take_all rowD b.rows
 have hren : D.renL [2000030] (a.rows.map rowD ++ b.rows.map rowD) = a.rows.map rowD ++ b.rows.map rowD:=by rw [← List.map_append]; exact rows_ren _ _
 refine Bg c_Z30 mixed (go1 trivial ?_)
 refine Uc trivial (h1) (go1 trivial ?_)
 refine UcR [3000001] trivial (h2) (go1 trivial ?_)
 refine UcR [3000002] trivial (h3) (go1 trivial ?_)
 exact UcR [2000030] (cj3 @e1 @e2 @hren) (h4) (go0 (cj3 @e1 @e2 @hren))
theorem UnionAll_impl_f {a b : Ta} (ha : rsz a.rows ≤ 1048576) (hb : rsz b.rows ≤ 1048576) (h : ¬ sameT a b) : Does Try.prog 54 [] [taD a,taD b] (.tup [taD ⟨0,[]⟩,Bo false]) []:=by
 have h1:=haveSameWidth_ok a b ha hb
 rw [decide_eq_false h] at h1
 refine Bg c_Z30 mixed (go1 trivial ?_)
 refine Uc trivial (h1) (go1 trivial ?_)
 exact sub_zero
theorem unionAll_ok {a b : Ta} (h : sameT a b) (hl : a.rows.length + b.rows.length ≤ 400) : Does Try.prog 96 [] [taD a,taD b] (taD ⟨a.w,srt (a.rows ++ b.rows)⟩) []:=by
 obtain ⟨w,hw,hw6,hra,_,hla⟩:=tOk_nat h.1
 obtain ⟨w',hw',_,hrb,_,hlb⟩:=tOk_nat h.2.1
 obtain rfl : w = w':=by have:=h.2.2; omega
 have hap : (a.rows ++ b.rows).length = a.rows.length + b.rows.length:=List.length_append
 have h4:=tableOf_own a.w w (by omega) (a.rows ++ b.rows) (by omega) (rsw_app hra hrb)
 have e1:=take_all rowD a.rows
 have e2:=take_all rowD b.rows
 have e3 : (a.rows.map rowD ++ b.rows.map rowD).take (a.rows.length + b.rows.length) = (a.rows ++ b.rows).map rowD:=by rw [List.map_append]; exact List.take_of_length_le (by rw [List.length_append,List.length_map,List.length_map]; exact Nat.le_refl _)
 have hsl:=srt_len (a.rows ++ b.rows)
 have htk : ((srt (a.rows ++ b.rows)).map rowD).take (a.rows.length + b.rows.length) = (srt (a.rows ++ b.rows)).map rowD:=by rw [← hap,← hsl]; exact take_all rowD _
 rw [hap] at h4 hsl
 refine Bg c_Z36 mixed (go1FC trivial ?_)
 refine s_pre (pre_frz (t:=13) (g:=2000013) (by decide) (by decide) rfl ?_) ?_
 rotate_left
 refine go1F (cj3 @e1 @e2 @e3) ?_
 refine c_doesR [3000001] (h4) (callOK_of rfl (Nat.le_of_ble_eq_true rfl) rfl ?_ ?_) ?_ ?_
 ·repeat' (first|(conv in hold _=>simp (disch:=omega) only [go_sem])|exact trivial|exact Sub.refl _|omega)
 ·repeat' (first|(conv in hold _=>simp (disch:=omega) only [go_sem])|exact trivial|exact Sub.refl _|omega)
 ·((conv=>rhs;simp (disch:=omega) only [go_sem]); try rfl)
 repeat' (first|with_reducible refine acc_none ?_ | (conv in hold _=>simp (disch:=omega) only [go_sem])|refine Stp.go ?_|(with_reducible first|refine it_pos rfl ?_|refine it_neg (by decide) ?_|refine st_nil rfl ?_|refine s_op ?_ ?_|exact trivial)|((with_reducible first|refine dw_reg0 ?_|refine dw_regB ?_);(conv=>arg 3;whnf))|(refine Spl.go (fun hq he=>?_) (fun hq he=>?_)<;>first|(exfalso;clear hq;omega)|((try first|(conv=>arg 8;simp only [hq])|(conv=>arg 4;simp only [hq]));clear hq))|((with_reducible first|refine c_split (fun hq=>?_) (fun hq=>?_)|refine q_split (fun hq=>?_) (fun hq=>?_))<;>(try first|(conv=>arg 8;simp only [hq])|(conv=>arg 4;simp only [hq])))|exact Sub.refl _|omega)
 ·refine fin_wk (wk_frzO 2000004 3000001 (by decide) (by decide) rfl (by decide) rfl ?_) ?_
  rotate_left
  (conv in hold _=>simp (disch:=omega) only [go_sem,htk,hsl,List.length_map,Nat.le_refl])
  ·refine fin_L [] ?_ ?_ rfl ?_
   repeat' (first|(conv in hold _=>simp (disch:=omega) only [go_sem])|exact trivial|exact Sub.refl _|omega)
  ·exact rows_pur _
 ·exact (by rw [← List.map_append]; exact rows_pur _)
theorem UnionAll_spec_t {a b : Ta} (ha : rsz a.rows ≤ 1048576) (hb : rsz b.rows ≤ 1048576) (h : sameT a b) (hl : a.rows.length + b.rows.length ≤ 400) : Does Try.prog 53 [] [taD a,taD b] (.tup [taD ⟨a.w,srt (a.rows ++ b.rows)⟩,Bo true]) []:=by
 have h1:=validTable_ok a ha
 have h2:=validTable_ok b hb
 rw [decide_eq_true h.1] at h1
 rw [decide_eq_true h.2.1] at h2
 have h3:=unionAll_ok h hl
 have hw:=h.2.2
 refine Bg c_Z35 mixed (go1 trivial ?_)
 refine Uc trivial (h1) (go1 trivial ?_)
 refine Uc trivial (h2) (go1 trivial ?_)
 exact Uc trivial (h3) (go0 trivial)
theorem UnionAll_spec_f {a b : Ta} (ha : rsz a.rows ≤ 1048576) (hb : rsz b.rows ≤ 1048576) (h : ¬ sameT a b) : Does Try.prog 53 [] [taD a,taD b] (.tup [taD ⟨0,[]⟩,Bo false]) []:=by
 have h1:=validTable_ok a ha
 have h2:=validTable_ok b hb
 by_cases h3 : tOk a
 ·rw [decide_eq_true h3] at h1
  by_cases h4 : tOk b
  ·rw [decide_eq_true h4] at h2
   have hw : ¬ a.w = b.w:=fun e=>h ⟨h3,h4,e⟩
   refine Bg c_Z35 mixed (go1 trivial ?_)
   refine Uc trivial (h1) (go1 trivial ?_)
   refine Uc trivial (h2) (go1 trivial ?_)
   exact sub_zero
  ·rw [decide_eq_false h4] at h2
   refine Bg c_Z35 mixed (go1 trivial ?_)
   refine Uc trivial (h1) (go1 trivial ?_)
   refine Uc trivial (h2) (go1 trivial ?_)
   exact sub_zero
 ·rw [decide_eq_false h3] at h1
  refine Bg c_Z35 mixed (go1 trivial ?_)
  refine Uc trivial (h1) (go1 trivial ?_)
  exact sub_zero
theorem NearT.mono {w w' m : Nat} {t : Ta} (h : NearT w m t) (hw : w ≤ w') : NearT w' m t:=⟨h.len,fun r hr=>by have:=h.row r hr; omega⟩
end Go.Proofs.Ytedmegmhjmabcaa
