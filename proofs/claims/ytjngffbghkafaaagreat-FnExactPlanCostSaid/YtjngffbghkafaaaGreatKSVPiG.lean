/-
  The rows of a left join, as the program hands them out; all rows of a join. No condition.
-/
import Derived.Test.YtjngffbghkafaaaGreatKSDca
import Derived.Test.YtjngffbghkafaaaGreatKSDcf
import Derived.Test.YtjngffbghkafaaaGreatJSVPlanC
import Derived.Test.YtjngffbghkafaaaGreatJSVGo
set_option maxHeartbeats 4000000
set_option maxRecDepth 100000
set_option linter.unusedVariables false
set_option linter.unusedSimpArgs false
namespace Go.Proofs.YtjngffbghkafaaaGreat
open Go.RowKit
attribute [go_sem] maD
theorem matches_ok (r : List V) (wb : Nat) (rb : List (List V)) (ex : E) (hpx : (tD ex).pur = true) (h1 : (tD ex).one = true) :
  Does Tryz.prog 150 [] [.agg (maD wb rb ex),rowD r] (.fn 185 [.ptr [rowD r],.ptr (maD wb rb ex)]) []:=by
 unfold maD
 have hrx:=fun L=>ren_pure L _ hpx
 refine Bg c_Z33 mixed (go1F (cj2 @hpx @hrx) ?_)
 refine fin_wk (wk_fro 4 2000002 (by decide) (by decide) rfl ?_) ?_
 rotate_left
 (conv in hold _=>simp (disch:=omega) only [go_sem,hpx,hrx])
 ·refine fin_wk (wk_fro 4 2000003 (by decide) (by decide) rfl ?_) ?_
  rotate_left
  (conv in hold _=>simp (disch:=omega) only [go_sem,hpx,hrx])
  ·refine fin_L [] ?_ ?_ rfl ?_
   repeat' (first|(conv in hold _=>simp (disch:=omega) only [go_sem,hpx,hrx])|exact trivial|exact Sub.refl _|omega)
  ·rfl
 ·simp only [go_sem,hpx]
theorem matchesOrNulls_ok (r : List V) (wb : Nat) (rb : List (List V)) (ex : E) (hpx : (tD ex).pur = true) (h1 : (tD ex).one = true) :
  Does Tryz.prog 151 [] [.agg (maD wb rb ex),rowD r] (.fn 188 [.ptr (maD wb rb ex),.ptr [rowD r]]) []:=by
 unfold maD
 have hrx:=fun L=>ren_pure L _ hpx
 refine Bg c_Z23 mixed (go1F (cj2 @hpx @hrx) ?_)
 refine fin_wk (wk_fro 4 2000002 (by decide) (by decide) rfl ?_) ?_
 rotate_left
 (conv in hold _=>simp (disch:=omega) only [go_sem,hpx,hrx])
 ·refine fin_wk (wk_fro 4 2000003 (by decide) (by decide) rfl ?_) ?_
  rotate_left
  (conv in hold _=>simp (disch:=omega) only [go_sem,hpx,hrx])
  ·refine fin_L [] ?_ ?_ rfl ?_
   repeat' (first|(conv in hold _=>simp (disch:=omega) only [go_sem,hpx,hrx])|exact trivial|exact Sub.refl _|omega)
  ·rfl
 ·simp only [go_sem,hpx]
theorem outL_nil {n : Nat} {ex : E} {r : List V} {rb : List (List V)} (h : mtL ex r rb = []) : outL true n ex r rb = [r ++ nulR n]:=by
 unfold outL
 rw [h]
 rfl
theorem outL_some {n : Nat} {ex : E} {r : List V} {rb : List (List V)} (h : 0 < (mtL ex r rb).length) : outL true n ex r rb = mtL ex r rb:=by
 unfold outL
 cases hm : mtL ex r rb with
 | nil=>rw [hm] at h; exact absurd h (Nat.lt_irrefl _)
 | cons a l=>rfl
theorem matchesOrNulls_yields {w wb : Nat} (r : List V) (hr : r.length = w ∧ ∀ v,v ∈ r → v.ok) (rb : List (List V)) (hb : RsW wb rb) (hlb : rb.length ≤ 1000) (hw0 : 0 < wb) (hw : w + wb ≤ 500) (ex : E) (hex : eOk ex ((w : Int) + (wb : Int)) 8) :
  Yields Tryz.prog 188 [.ptr (maD wb rb ex),.ptr [rowD r]] ((outL true wb ex r rb).map tupR):=by
 have hY:=matches_yields r hr rb hb hlb hw0 hw ex hex
 have hn:=nullRow_ok wb hw0 (by omega)
 have hnl:=(nulR_ok wb).1
 have hcc:=concatV_own r (nulR wb) (by omega) (by omega)
 have hpx:=tD_pur hex
 have hrx:=fun L=>ren_pure L _ hpx
 obtain ⟨t,e0,hd,hp0,_⟩:=termOf_w (w:=w + wb) (e:=ex) (by rw [Int.natCast_add]; exact hex)
 have h1x : (tD ex).one = true:=by rw [hd]; rfl
 have hm:=matches_ok r wb rb ex hpx h1x
 have hrl : (r ++ nulR wb).length = r.length + wb:=by rw [List.length_append,hnl]
 have htt : ((r ++ nulR wb).map vD).take (r.length + wb) = (r ++ nulR wb).map vD:=by rw [← hrl]; exact take_all vD _
 have htn:=take_all vD r
 rw [hnl] at hcc
 refine yields c_Z21 mixed (Nat.le_of_ble_eq_true rfl) (fun i e=>?_)
 conv=>arg 3; whnf
 refine go1 (cj2 @hpx @hrx) ?_
 refine Uc (cj2 @hpx @hrx) (hm) (go1 (cj2 @hpx @hrx) ?_)
 by_cases hM : 0 < (mtL ex r rb).length
 ·rw [outL_some hM]
  have hdt : ∀ j : Nat,decide (0 < j + 1) = true:=fun j=>decide_eq_true (Nat.succ_pos j)
  generalize mtL ex r rb = M at hY hM
  have hdM : decide (0 < M.length) = true:=decide_eq_true hM
  by_cases hel : e < M.length
  ·refine dw_rngX 185 [.ptr [rowD r],.ptr (maD wb rb ex)] (M.map tupR) e 2 2 [(1,.ptr (maD wb rb ex)),(2,.ptr [rowD r]),(3,.ref 1000000 0),(4,.ref 1000001 0),(8,.fn 185 [.ptr [rowD r],.ptr (maD wb rb ex)])] (fun j=>[(1000000,.obj [.v (.func (.yield i) #[] #[])]),(1000001,.obj [Bo (decide (0 < j))]),(gh,.gho i (M.map tupR) e j)]) hY (by kernel_rfl) rfl (Nat.zero_le _) (Nat.le_refl _) (by decide) ?_ (fun j=>namesOK_of rfl) (Wk.list [2000003,2000004] rfl rfl ?_) rfl (fun j es h=>by obtain ⟨_,_,rfl⟩:=tupR_at h; rfl) (by rw [List.length_map]; exact hel) (fun j es hj h hp=>?_) (fun es h hp=>?_)
   ·simp (disch:=omega) only [go_sem,and_self,Nat.reduceLT]
   ·repeat' (first|(conv in hold _=>simp (disch:=omega) only [go_sem])|exact trivial|exact Sub.refl _|omega)
    try exact rfl
   ·obtain ⟨x,hx,rfl⟩:=tupR_at h
    refine go1 trivial ?_
    refine v_yld (by ((conv=>lhs; simp (disch:=omega) only [go_sem]); try rfl)) ((show j ≤ e by omega)) ((by rw [List.getElem?_map,hx]; rfl)) (by first | rfl | (simp only [go_sem])) ?_
    refine go1 trivial ?_
    refine Wk.list [1000000,1000001] rfl rfl ?_
    repeat' (first|(conv in hold _=>simp (disch:=omega) only [go_sem,hdt])|exact trivial|exact Sub.refl _|omega)
   ·obtain ⟨x,hx,rfl⟩:=tupR_at h
    refine go1 trivial ?_
    refine v_yld (by ((conv=>lhs; simp (disch:=omega) only [go_sem]); try rfl)) ((Nat.le_refl e)) ((by rw [List.getElem?_map,hx]; rfl)) (by first | rfl | (simp only [go_sem])) ?_
    refine go1 trivial ?_
    refine ⟨[(1000000,.obj [.v (.func (.yield i) #[] #[])]),(1000001,.obj [Bo true]),(gh,.gho i (M.map tupR) e (e + 1))],namesOK_of rfl,Wk.list [1000000,1000001] rfl rfl ?_,?_⟩
    ·repeat' (first|(conv in hold _=>simp (disch:=omega) only [go_sem])|exact trivial|exact Sub.refl _|omega)
    ·refine ⟨(e + 1),?_,?_⟩
     ·((conv=>lhs; simp (disch:=omega) only [go_sem]); try rfl)
     exact .inr ⟨rfl,by rw [List.length_map]; exact hel⟩
  ·refine dw_rng 185 [.ptr [rowD r],.ptr (maD wb rb ex)] (M.map tupR) 2 2 [(1,.ptr (maD wb rb ex)),(2,.ptr [rowD r]),(3,.ref 1000000 0),(4,.ref 1000001 0),(8,.fn 185 [.ptr [rowD r],.ptr (maD wb rb ex)])] (fun j=>[(1000000,.obj [.v (.func (.yield i) #[] #[])]),(1000001,.obj [Bo (decide (0 < j))]),(gh,.gho i (M.map tupR) e j)]) hY (by kernel_rfl) rfl (Nat.zero_le _) (Nat.le_refl _) (by decide) ?_ (fun j=>namesOK_of rfl) (Wk.list [2000003,2000004] rfl rfl ?_) rfl (fun j es h=>by obtain ⟨_,_,rfl⟩:=tupR_at h; rfl) (fun j es h hp=>?_) ?_
   ·simp (disch:=omega) only [go_sem,and_self,Nat.reduceLT]
   ·repeat' (first|(conv in hold _=>simp (disch:=omega) only [go_sem])|exact trivial|exact Sub.refl _|omega)
    try exact rfl
   ·obtain ⟨x,hx,rfl⟩:=tupR_at h
    have hjl:=(List.getElem?_eq_some_iff.1 hx).1
    refine go1 trivial ?_
    refine v_yld (by ((conv=>lhs; simp (disch:=omega) only [go_sem]); try rfl)) ((show j ≤ e by omega)) ((by rw [List.getElem?_map,hx]; rfl)) (by first | rfl | (simp only [go_sem])) ?_
    refine go1 trivial ?_
    refine Wk.list [1000000,1000001] rfl rfl ?_
    repeat' (first|(conv in hold _=>simp (disch:=omega) only [go_sem,hdt])|exact trivial|exact Sub.refl _|omega)
   ·rw [List.length_map]
    refine go1 @hdM ?_
    refine ⟨M.length,?_,?_⟩
    ·((conv=>lhs; simp (disch:=omega) only [go_sem]); try rfl)
    exact .inl ⟨by rw [List.length_map],by rw [List.length_map]; omega⟩
 ·have hM0 : mtL ex r rb = []:=List.eq_nil_of_length_eq_zero (by omega)
  rw [outL_nil hM0]
  rw [hM0] at hY
  refine dw_rng 185 [.ptr [rowD r],.ptr (maD wb rb ex)] [] 2 2 [(1,.ptr (maD wb rb ex)),(2,.ptr [rowD r]),(3,.ref 1000000 0),(4,.ref 1000001 0),(8,.fn 185 [.ptr [rowD r],.ptr (maD wb rb ex)])] (fun j=>[(1000000,.obj [.v (.func (.yield i) #[] #[])]),(1000001,.obj [Bo false]),(gh,.gho i ([r ++ nulR wb].map tupR) e 0)]) hY (by kernel_rfl) rfl (Nat.zero_le _) (Nat.le_refl _) (by decide) ?_ (fun j=>namesOK_of rfl) (Wk.list [2000003,2000004] rfl rfl ?_) rfl (fun j es h=>by cases h) (fun j es h hp=>by cases h) ?_
  ·simp (disch:=omega) only [go_sem,and_self,Nat.reduceLT]
  ·repeat' (first|(conv in hold _=>simp (disch:=omega) only [go_sem])|exact trivial|exact Sub.refl _|omega)
  ·refine go1 trivial ?_
   refine Uc trivial (hn) (go1 trivial ?_)
   refine UcR [3000001] trivial (hcc) (go1C trivial ?_)
   refine s_pre (pre_frz (t:=23) (g:=3000001) (by decide) (by decide) rfl ?_) ?_
   rotate_left
   refine go1 (cj2 @htt @hrl) ?_
   ·refine v_yld (by ((conv=>lhs; simp (disch:=omega) only [go_sem]); try rfl)) ((Nat.zero_le _)) (rfl) (by first | rfl | (simp only [go_sem])) ?_
    refine go1 trivial ?_
    refine ⟨1,?_,?_⟩
    ·((conv=>lhs; simp (disch:=omega) only [go_sem]); try rfl)
    rcases Nat.eq_zero_or_pos e with rfl | h0
    ·exact .inr ⟨rfl,Nat.zero_lt_one⟩
    ·exact .inl ⟨rfl,h0⟩
   ·exact vals_pur _
structure MatchI (f : FuncId) (mD : D) (g : FuncId) (caps : List V → List D) (L : List V → List (List V)) (ra : List (List V)) : Prop where
 ent : enters Tryz.prog f = true
 pur : mD.pur = true
 entg : enters Tryz.prog g = true
 purg : ∀ r,D.purL (caps r) = true
 call : ∀ r,r ∈ ra → Does Tryz.prog f [] [mD,rowD r] (.fn g (caps r)) []
 yld : ∀ r,r ∈ ra → Yields Tryz.prog g (caps r) ((L r).map tupR)
theorem flat_next {L : List V → List (List V)} {ra : List (List V)} {j : Nat} {x : List V} (hx : ra[j]? = some x) : (ra.take (j + 1)).flatMap L = (ra.take j).flatMap L ++ L x:=by
 rw [take_next hx,List.flatMap_append,List.flatMap_cons,List.flatMap_nil,List.append_nil]
theorem flat_in {L : List V → List (List V)} {ra : List (List V)} {j : Nat} {x : List V} (hx : ra[j]? = some x) {k : Nat} {y : List V} (hy : (L x)[k]? = some y) : (ra.flatMap L)[((ra.take j).flatMap L).length + k]? = some y:=by
 have h1 : ra.flatMap L = (ra.take j).flatMap L ++ (L x ++ (ra.drop (j + 1)).flatMap L):=by
  rw [← List.append_assoc,← flat_next hx,← List.flatMap_append,List.take_append_drop]
 have hk:=(List.getElem?_eq_some_iff.1 hy).1
 rw [h1,List.getElem?_append_right (Nat.le_add_right _ _),Nat.add_sub_cancel_left,List.getElem?_append_left hk]
 exact hy
theorem joinedRows_yields {f g : FuncId} {mD : D} {caps : List V → List D} {L : List V → List (List V)} {ra : List (List V)} (h : MatchI f mD g caps L ra) (hl : ra.length ≤ 100000) :
  Yields Tryz.prog 184 [.ptr [rowsD ra],.ptr [.mv f mD]] ((ra.flatMap L).map tupR):=by
 have hmp:=h.pur
 have hmr:=fun K=>ren_pure K _ hmp
 refine yields c_Z56 mixed (Nat.le_of_ble_eq_true rfl) (fun i e=>?_)
 conv=>arg 3; whnf
 refine go1 (cj2 @hmp @hmr) ?_
 refine dw_for (c:=1) (l:=fun j=>[(1,.ptr [rowsD ra]),(2,.ptr [.mv f mD]),(3,.ref 1000000 0),(7,rowsD ra),(8,I ra.length),(9,I j),(1000000,.obj [.v (.func (.yield i) #[] #[])]),(gh,.gho i ((ra.flatMap L).map tupR) e ((ra.take j).flatMap L).length)]) ra.length (fun j=>((ra.take j).flatMap L).length ≤ e) 0 (Nat.zero_le _) (Wk.list [2000003] rfl rfl ?_) (fun j hj hJ=>?_) (Nat.zero_le _)
 ·repeat' (first|(conv in hold _=>simp (disch:=omega) only [go_sem])|exact trivial|exact Sub.refl _|omega)
  first | exact rfl | exact ⟨rfl,rfl⟩
 ·rcases at_or_end hj with ⟨x,hx,hlt⟩ | rfl
  ·have hc:=h.call x (List.mem_of_getElem? hx)
   have hY:=h.yld x (List.mem_of_getElem? hx)
   have hpg:=h.purg x
   have hrg:=fun K=>ren_pure.renL_pure K _ hpg
   have hnx:=flat_next (L:=L) hx
   have hin:=fun {k : Nat} {y : List V} (hy : (L x)[k]? = some y)=>flat_in hx hy
   generalize hcq : caps x = cs at hc hY hpg hrg
   have hnl : ((ra.take (j + 1)).flatMap L).length = ((ra.take j).flatMap L).length + (L x).length:=by rw [hnx,List.length_append]
   generalize ((ra.take j).flatMap L).length = c at hJ hnl hin
   refine go1 (cj2 @hx @hmp) ?_
   refine v_mv (h.ent) ?_
   refine Uc (cj3 @hmp @hpg @hrg) (hc) (go1 (cj3 @hmp @hpg @hrg) ?_)
   by_cases hel : e < c + (L x).length
   ·refine dw_rngX g cs ((L x).map tupR) (e - c) 1 1 [(1,.ptr [rowsD ra]),(2,.ptr [.mv f mD]),(3,.ref 1000000 0),(7,rowsD ra),(8,I ra.length),(9,I j),(15,.fn g cs)] (fun k=>[(1000000,.obj [.v (.func (.yield i) #[] #[])]),(gh,.gho i ((ra.flatMap L).map tupR) e (c + k))]) hY h.entg hpg (Nat.zero_le _) (Nat.le_refl _) (by decide) ?_ (fun k=>namesOK_of rfl) (Wk.list [1000000] rfl rfl ?_) rfl (fun k es h=>by obtain ⟨_,_,rfl⟩:=tupR_at h; rfl) (by rw [List.length_map]; omega) (fun k es hk h hp=>?_) (fun es h hp=>?_)
    ·simp (disch:=omega) only [go_sem,hmp,hmr,hpg,hrg,and_self,Nat.reduceLT]
    ·repeat' (first|(conv in hold _=>simp (disch:=omega) only [go_sem,hmp,hmr,hpg,hrg])|exact trivial|exact Sub.refl _|omega)
    ·obtain ⟨y,hy,rfl⟩:=tupR_at h
     refine go1 (cj2 @hmp @hpg) ?_
     refine v_yld (by ((conv=>lhs; simp (disch:=omega) only [go_sem]); try rfl)) ((show c + k ≤ e by omega)) ((by rw [List.getElem?_map,hin hy]; rfl)) (by first | rfl | (simp only [go_sem])) ?_
     refine go1 trivial ?_
     refine Wk.list [1000000] rfl rfl ?_
     repeat' (first|(conv in hold _=>simp (disch:=omega) only [go_sem,hmp,hpg])|exact trivial|exact Sub.refl _|omega)
     exact rfl
    ·obtain ⟨y,hy,rfl⟩:=tupR_at h
     have hce : c + (e - c) = e:=by omega
     have hey:=hin hy
     rw [hce] at hey
     refine go1 (cj3 @hmp @hpg @hce) ?_
     refine v_yld (by ((conv=>lhs; simp (disch:=omega) only [go_sem]); try rfl)) ((Nat.le_refl e)) ((by rw [List.getElem?_map,hey]; rfl)) (by first | rfl | (simp only [go_sem])) ?_
     refine go1 trivial ?_
     refine ⟨[(1000000,.obj [.v (.func (.yield i) #[] #[])]),(gh,.gho i ((ra.flatMap L).map tupR) e (e + 1))],namesOK_of rfl,Wk.list [1000000] rfl rfl ?_,?_⟩
     ·repeat' (first|(conv in hold _=>simp (disch:=omega) only [go_sem,hmp,hpg])|exact trivial|exact Sub.refl _|omega)
     ·refine ⟨(e + 1),?_,?_⟩
      ·((conv=>lhs; simp (disch:=omega) only [go_sem]); try rfl)
      exact .inr ⟨rfl,by rw [List.length_map]; exact (List.getElem?_eq_some_iff.1 hey).1⟩
   ·refine dw_rng g cs ((L x).map tupR) 1 1 [(1,.ptr [rowsD ra]),(2,.ptr [.mv f mD]),(3,.ref 1000000 0),(7,rowsD ra),(8,I ra.length),(9,I j),(15,.fn g cs)] (fun k=>[(1000000,.obj [.v (.func (.yield i) #[] #[])]),(gh,.gho i ((ra.flatMap L).map tupR) e (c + k))]) hY h.entg hpg (Nat.zero_le _) (Nat.le_refl _) (by decide) ?_ (fun k=>namesOK_of rfl) (Wk.list [1000000] rfl rfl ?_) rfl (fun k es h=>by obtain ⟨_,_,rfl⟩:=tupR_at h; rfl) (fun k es h hp=>?_) ?_
    ·simp (disch:=omega) only [go_sem,hmp,hmr,hpg,hrg,and_self,Nat.reduceLT]
    ·repeat' (first|(conv in hold _=>simp (disch:=omega) only [go_sem,hmp,hmr,hpg,hrg])|exact trivial|exact Sub.refl _|omega)
    ·obtain ⟨y,hy,rfl⟩:=tupR_at h
     have hkl:=(List.getElem?_eq_some_iff.1 hy).1
     refine go1 (cj2 @hmp @hpg) ?_
     refine v_yld (by ((conv=>lhs; simp (disch:=omega) only [go_sem]); try rfl)) ((show c + k ≤ e by omega)) ((by rw [List.getElem?_map,hin hy]; rfl)) (by first | rfl | (simp only [go_sem])) ?_
     refine go1 trivial ?_
     refine Wk.list [1000000] rfl rfl ?_
     repeat' (first|(conv in hold _=>simp (disch:=omega) only [go_sem,hmp,hpg])|exact trivial|exact Sub.refl _|omega)
     exact rfl
    ·rw [List.length_map]
     refine go1 (cj2 @hmp @hpg) ?_
     refine ⟨hlt,by omega,Wk.list [1000000] rfl rfl ?_⟩
     repeat' (first|(conv in hold _=>simp (disch:=omega) only [go_sem,hnl,hmp,hpg,hmr])|exact trivial|exact Sub.refl _|omega)
  ·rw [List.take_length] at hJ ⊢
   refine go1 @hmp ?_
   refine ⟨(ra.flatMap L).length,?_,?_⟩
   ·((conv=>lhs; simp (disch:=omega) only [go_sem]); try rfl)
   rw [List.length_map]
   omega
theorem joinedRows_ok (ra : List (List V)) (f : FuncId) (mD : D) (hp : mD.pur = true) : Does Tryz.prog 149 [] [rowsD ra,.mv f mD] (.fn 184 [.ptr [rowsD ra],.ptr [.mv f mD]]) []:=by
 have hmr:=fun K=>ren_pure K _ hp
 refine Bg c_Z83 mixed (go1F (cj2 @hp @hmr) ?_)
 refine fin_wk (wk_fro 4 2000002 (by decide) (by decide) rfl ?_) ?_
 rotate_left
 (conv in hold _=>simp (disch:=omega) only [go_sem,hp,hmr])
 ·refine fin_wk (wk_fro 4 2000003 (by decide) (by decide) rfl ?_) ?_
  rotate_left
  (conv in hold _=>simp (disch:=omega) only [go_sem,hp,hmr])
  ·refine fin_L [] ?_ ?_ rfl ?_
   repeat' (first|(conv in hold _=>simp (disch:=omega) only [go_sem,hp,hmr])|exact trivial|exact Sub.refl _|omega)
  ·simp only [go_sem,hp]
 ·simp only [go_sem,hp]
end Go.Proofs.YtjngffbghkafaaaGreat
