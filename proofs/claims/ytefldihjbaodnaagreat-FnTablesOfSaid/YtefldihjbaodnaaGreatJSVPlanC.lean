/-
  The rows of a join, as the program hands them out: a row with those that match it. No condition.
-/
import Derived.Test.YtefldihjbaodnaaGreatKSDca
import Derived.Test.YtefldihjbaodnaaGreatKSDcf
import Derived.Test.YtefldihjbaodnaaGreatJSVPlanQ
import Derived.Test.YtefldihjbaodnaaGreatJSVWidF
import Derived.Test.YtefldihjbaodnaaGreatJSDcWTbP
import Derived.Test.YtefldihjbaodnaaGreatJSVGo
import Derived.Test.YtefldihjbaodnaaGreatJSVWidE
import Derived.Test.YtefldihjbaodnaaGreatJSVTru
set_option maxHeartbeats 4000000
set_option maxRecDepth 100000
set_option linter.unusedVariables false
set_option linter.unusedSimpArgs false
namespace Go.Proofs.YtefldihjbaodnaaGreat
open Go.RowKit
theorem flatVs (vs : List V) : flatRow (.row 2 (vs.map vD)):=⟨2,vs.map vD,rfl,fun d hd=>by
 obtain ⟨e,he,hd⟩:=List.mem_flatMap.1 hd
 obtain ⟨v,_,rfl⟩:=List.mem_map.1 he
 have hd : d ∈ [Bo v.b,I v.n]:=hd
 rcases List.mem_cons.1 hd with rfl | hd
 ·exact ⟨_,rfl⟩
 ·obtain rfl:=List.mem_singleton.1 hd; exact ⟨_,rfl⟩⟩
theorem lentV {P : Program} {f : FuncId} {e0 : D} {vs : List V} {v : V} (h : Does P f [] [e0,rowD vs] (vD v) []) (hp : e0.pur = true) :
  Does P f [.row 2 (vs.map vD)] [e0,.own 1000000 2 vs.length] (vD v) [.row 2 (vs.map vD)]:=by
 have:=h.lent (H:=[.row 2 (vs.map vD)]) (ds:=[e0,.own 1000000 2 vs.length]) rfl (fun i c d hc hd=>by
  match i with
  | 0=>
   obtain rfl : e0 = c:=by simpa using hc
   obtain rfl : e0 = d:=by simpa using hd
   exact .same _ hp
  | 1=>
   obtain rfl : D.own 1000000 2 vs.length = c:=by simpa using hc
   obtain rfl : rowD vs = d:=by simpa using hd
   have:=Lent.own (H:=[.row 2 (vs.map vD)]) 0 2 (vs.map vD) rfl
   rw [List.length_map] at this
   exact this
  | i + 2=>simp at hc) (fun d hd=>by obtain rfl:=List.mem_singleton.1 hd; exact flatVs vs) (fun d hd=>by cases hd) rfl
 exact this
theorem lentClone {P : Program} {f : FuncId} {vs : List V} (h : Does P f [] [rowD vs] (.own 1000000 2 vs.length) [.row 2 (vs.map vD)]) :
  Does P f [.row 2 (vs.map vD)] [.own 1000000 2 vs.length] (.own 1000001 2 vs.length) [.row 2 (vs.map vD),.row 2 (vs.map vD)]:=by
 have:=h.lent (H:=[.row 2 (vs.map vD)]) (ds:=[.own 1000000 2 vs.length]) rfl (fun i c d hc hd=>by
  match i with
  | 0=>
   obtain rfl : D.own 1000000 2 vs.length = c:=by simpa using hc
   obtain rfl : rowD vs = d:=by simpa using hd
   have:=Lent.own (H:=[.row 2 (vs.map vD)]) 0 2 (vs.map vD) rfl
   rw [List.length_map] at this
   exact this
  | i + 1=>simp at hc) (fun d hd=>by obtain rfl:=List.mem_singleton.1 hd; exact flatVs vs) (fun d hd=>by obtain rfl:=List.mem_singleton.1 hd; exact flatVs vs) rfl
 exact this
def bothR (r : List V) (rb : List (List V)) (wb k : Nat) : List V:=if k = 0 then r ++ nulR wb else r ++ rb.getD (k - 1) []
theorem bothR_0 (r : List V) (rb : List (List V)) (wb : Nat) : bothR r rb wb 0 = r ++ nulR wb:=rfl
theorem bothR_s {r : List V} {rb : List (List V)} {wb k : Nat} {y : List V} (h : rb[k]? = some y) : bothR r rb wb (k + 1) = r ++ y:=by
 unfold bothR
 rw [if_neg (by omega),List.getD_eq_getElem?_getD,Nat.add_sub_cancel,h,Option.getD_some]
theorem bothR_len {r : List V} {rb : List (List V)} {wb : Nat} (hb : RsW wb rb) {k : Nat} (hk : k ≤ rb.length) : (bothR r rb wb k).length = r.length + wb:=by
 cases k with
 | zero=>rw [bothR_0,List.length_append,(nulR_ok wb).1]
 | succ k=>
  have hy:=List.getElem?_eq_getElem (show k < rb.length by omega)
  rw [bothR_s hy,List.length_append,(hb _ (List.mem_of_getElem? hy)).1]
theorem both_cpy {r c y : List V} {wb : Nat} (hc : c.length = r.length + wb) (ht : c.take r.length = r) (hy : y.length = wb) : cpyL (c.map vD) r.length wb (y.map vD) = (r ++ y).map vD:=by
 rw [cpyL,D.setAll,← List.map_take,ht,List.take_of_length_le (by rw [List.length_map]; omega),List.length_map,List.drop_of_length_le (by rw [List.length_map]; omega),List.append_nil,List.map_append]
theorem both_take (r : List V) (rb : List (List V)) (wb k : Nat) : (bothR r rb wb k).take r.length = r:=by
 unfold bothR
 split <;> exact List.take_left' rfl
def maD (wb : Nat) (rb : List (List V)) (ex : E) : List D:=[I wb,rowsD rb,tD ex]
theorem matches_yields {w wb : Nat} (r : List V) (hr : r.length = w ∧ ∀ v,v ∈ r → v.ok) (rb : List (List V)) (hb : RsW wb rb) (hlb : rb.length ≤ 1000) (hw0 : 0 < wb) (hw : w + wb ≤ 500) (ex : E) (hex : eOk ex ((w : Int) + (wb : Int)) 8) :
  Yields Tryz.prog 160 [.ptr [rowD r],.ptr (maD wb rb ex)] ((mtL ex r rb).map tupR):=by
 have hn:=nullRow_ok wb hw0 (by omega)
 have hnl:=(nulR_ok wb).1
 have hcc:=concatV_own r (nulR wb) (by omega) (by omega)
 have hpx:=tD_pur hex
 have hrx:=fun L=>ren_pure L _ hpx
 unfold maD
 refine yields c_Z28 mixed (Nat.le_of_ble_eq_true rfl) (fun i e=>?_)
 conv=>arg 3; whnf
 refine go1 (cj2 @hpx @hrx) ?_
 refine Uc (cj2 @hpx @hrx) (hn) (go1 (cj2 @hpx @hrx) ?_)
 refine UcR [3000001] (cj3 @hpx @hrx @hnl) (hcc) (go1 (cj3 @hpx @hrx @hnl) ?_)
 refine dw_for (c:=1) (l:=fun k=>[(0,.v (.func (.yield i) #[] #[])),(1,.ptr [rowD r]),(2,.ptr [I wb,rowsD rb,tD ex]),(4,.own 1000000 2 (r.length + wb)),(16,rowsD rb),(17,I rb.length),(18,I k),(1000000,.row 2 ((bothR r rb wb k).map vD)),(gh,.gho i ((mtL ex r rb).map tupR) e (mtL ex r (rb.take k)).length)]) rb.length (fun k=>(mtL ex r (rb.take k)).length ≤ e) 0 (Nat.zero_le _) (Wk.list [3000001] rfl rfl ?_) (fun k hk hJ=>?_) (Nat.zero_le _)
 ·repeat' (first|(conv in hold _=>simp (disch:=omega) only [go_sem,hpx,hrx])|exact trivial|exact Sub.refl _|omega)
  exact ⟨rfl,rfl,rfl⟩
 ·rcases at_or_end hk with ⟨y,hy,hlt⟩ | rfl
  ·have hyb:=hb y (List.mem_of_getElem? hy)
   have hcl:=bothR_len (r:=r) hb hk
   have hcp:=both_cpy hcl (both_take r rb wb k) hyb.1
   have hs2:=bothR_s (r:=r) (wb:=wb) hy
   have hrl : (r ++ y).length = r.length + wb:=by rw [List.length_append,hyb.1]
   have hrv : ∀ v,v ∈ r ++ y → v.ok:=fun v hv=>(List.mem_append.1 hv).elim (hr.2 v) (hyb.2 v)
   have hyl : (y.map vD).length = wb:=by rw [List.length_map]; exact hyb.1
   have hsub : r.length + wb - r.length = wb:=Nat.add_sub_cancel_left ..
   have hmw : min wb wb = wb:=Nat.min_self wb
   have hrw:=hr.1
   have e1 : (((r ++ y).length : Nat) : Int) = (w : Int) + (wb : Int):=by omega
   obtain ⟨_,t,e0,f,hd,hp0,hm,hv⟩:=termOf_ok hrv ex 8 (by rw [e1]; exact hex)
   have hv:=lentV hv hp0
   have hcv:=lentClone (cloneV_own (r ++ y) (by omega) (by omega))
   rw [hrl] at hv hcv
   have ht:=truth_of_ok (ev ex (r ++ y))
   have hh:=holds_itr ex (r ++ y)
   have hx : (rb.map (fun b=>r ++ b))[k]? = some (r ++ y):=by rw [List.getElem?_map,hy]; rfl
   have hnx:=mtL_next (e:=ex) (r:=r) hy
   generalize hbq : bothR r rb wb k = c0 at hcl hcp
   generalize ev ex (r ++ y) = v at hv ht hh
   rw [hd]
   cases hq : holdsB ex (r ++ y) with
   | true=>
    rw [hq] at hh hnx
    have hh2 : itr v = 2:=beq_iff_eq.1 hh
    rw [hh2] at ht
    have hat : (mtL ex r rb)[(mtL ex r (rb.take k)).length]? = some (r ++ y):=by
     unfold mtL
     rw [List.map_take]
     exact fil_at hx hq
    have hcx:=(List.getElem?_eq_some_iff.1 hat).1
    have hnl2 : (mtL ex r (rb.take (k + 1))).length = (mtL ex r (rb.take k)).length + 1:=by rw [hnx,List.length_append]; rfl
    generalize (mtL ex r (rb.take k)).length = c at hJ hat hcx hnl2
    have htt : ((r ++ y).map vD).take (r.length + wb) = (r ++ y).map vD:=by rw [← hrl]; exact take_all vD _
    refine go1 (cj8 @hy @hsub @hcp @hyl @hyb @hmw @hcl @hp0) ?_
    have hre:=fun L=>ren_pure L _ hp0
    refine i_meth (hm) ?_
    refine UcR [1000000] (cj2 @hp0 @hre) (hv) (go1 (cj2 @hp0 @hre) ?_)
    refine Uc (cj2 @hp0 @hre) (ht) (go1 (cj2 @hp0 @hre) ?_)
    refine UcR [1000000,3000001] (cj2 @hp0 @hre) (hcv) (go1C (cj2 @hp0 @hre) ?_)
    refine s_pre (pre_frz (t:=37) (g:=3000001) (by decide) (by decide) rfl ?_) ?_
    rotate_left
    refine go1 (cj4 @htt @hrl @hp0 @hre) ?_
    ·refine v_yld (by ((conv=>lhs; simp (disch:=omega) only [go_sem]); try rfl)) (hJ) ((by rw [List.getElem?_map,hat]; rfl)) (by first | rfl | (simp only [go_sem])) ?_
     repeat' (first|with_reducible refine acc_none ?_ | (conv in hold _=>simp (disch:=omega) only [go_sem])|refine Stp.go ?_|(with_reducible first|refine it_pos rfl ?_|refine it_neg (by decide) ?_|refine st_nil rfl ?_|refine s_op ?_ ?_|exact trivial)|((with_reducible first|refine dw_reg0 ?_|refine dw_regB ?_);(conv=>arg 3;whnf))|(refine Spl.go (fun hq he=>?_) (fun hq he=>?_)<;>first|(exfalso;clear hq;omega)|((try first|(conv=>arg 8;simp only [hq])|(conv=>arg 4;simp only [hq]));clear hq))|((with_reducible first|refine c_split (fun hq=>?_) (fun hq=>?_)|refine q_split (fun hq=>?_) (fun hq=>?_))<;>(try first|(conv=>arg 8;simp only [hq])|(conv=>arg 4;simp only [hq])))|(with_reducible refine fin_0 ?_ (by first|rfl|(conv=>lhs;simp only [go_sem])) ?_)|exact Sub.refl _|omega)
     ·refine ⟨(c + 1),?_,?_⟩
      ·((conv=>lhs; simp (disch:=omega) only [go_sem]); try rfl)
      simp only [List.length_map]
      omega
     ·refine ⟨hlt,by omega,Wk.list [1000000] rfl rfl ?_⟩
      repeat' (first|(conv in hold _=>simp (disch:=omega) only [go_sem,hnl2,hs2,hd,hp0,hre])|exact trivial|exact Sub.refl _|omega)
    ·exact vals_pur _
   | false=>
    rw [hq] at hh hnx
    have hre:=fun L=>ren_pure L _ hp0
    have hnl2 : mtL ex r (rb.take (k + 1)) = mtL ex r (rb.take k):=by rw [hnx,if_neg (by decide),List.append_nil]
    refine go1 (cj8 @hy @hsub @hcp @hyl @hyb @hmw @hcl @hp0) ?_
    refine i_meth (hm) ?_
    refine UcR [1000000] (cj2 @hp0 @hre) (hv) (go1 (cj2 @hp0 @hre) ?_)
    refine Uc (cj3 @hh @hp0 @hre) (ht) (go1 (cj3 @hh @hp0 @hre) ?_)
    refine ⟨hlt,by rw [hnl2]; exact hJ,Wk.list [1000000] rfl rfl ?_⟩
    repeat' (first|(conv in hold _=>simp (disch:=omega) only [go_sem,hnl2,hs2,hd,hp0,hre])|exact trivial|exact Sub.refl _|omega)
  ·rw [List.take_length] at hJ ⊢
   refine go1 @hpx ?_
   refine ⟨(mtL ex r rb).length,?_,?_⟩
   ·((conv=>lhs; simp (disch:=omega) only [go_sem]); try rfl)
   rw [List.length_map]
   omega
end Go.Proofs.YtefldihjbaodnaaGreat
set_option maxHeartbeats 4000000
set_option maxRecDepth 100000
set_option linter.unusedVariables false
set_option linter.unusedSimpArgs false
namespace Go.Proofs.YtefldihjbaodnaaGreat
open Go.RowKit
def natI (l : List Nat) : List Int:=l.map (fun n : Nat=>(n : Int))
theorem natI_at {l : List Nat} {i : Nat} {x : Int} (h : (natI l)[i]? = some x) : ∃ n : Nat,l[i]? = some n ∧ x = (n : Int):=by
 unfold natI at h
 rw [List.getElem?_map] at h
 cases hl : l[i]? with
 | none=>rw [hl] at h; cases h
 | some n=>rw [hl] at h; cases h; exact ⟨n,rfl,rfl⟩
theorem natI_of {l : List Nat} {i : Nat} {n : Nat} (h : l[i]? = some n) : (natI l)[i]? = some (n : Int):=by
 unfold natI
 rw [List.getElem?_map,h]
 rfl
theorem two_of {α : Type} {l : List α} (h : l.length = 2) : ∃ a b,l = [a,b]:=by
 match l,h with
 | [a,b],_=>exact ⟨a,b,rfl⟩
theorem wt_of {ws : List Nat} {p : Pl} {ns : List Nat} (hl : ns.length = p.ks.length) (hk : p.k ≠ 1) (hn : ∀ (i : Nat) (x : Pl) (n : Nat),p.ks[i]? = some x → ns[i]? = some n → Wt ws x n)
  (hf : fieldsI p) (hfit : fitsV p (natI ns)) : ∃ m : Nat,fromV p (natI ns) = (m : Int) ∧ Wt ws p m:=by
 have hf1:=hf.1
 have hf3:=hf.2
 unfold fields at hf1
 unfold fitsV at hfit
 unfold fromV
 by_cases h2 : p.k = 2
 ·rw [if_neg (by omega),if_neg (by omega)] at hfit
  rw [if_neg (by omega),if_neg (by omega),if_neg (by omega)]
  obtain ⟨q,hq⟩:=List.length_eq_one_iff.1 (show p.ks.length = 1 by omega)
  obtain ⟨n,rfl⟩:=List.length_eq_one_iff.1 (show ns.length = 1 by omega)
  obtain ⟨e,he⟩:=List.length_eq_one_iff.1 (show p.es.length = 1 by omega)
  have h1:=(hfit 0 e (by rw [he]; rfl)).2
  rw [show (natI [n]).sum = (n : Int) by simp [natI]] at h1
  exact ⟨n,rfl,.filter h2 hq he (hn 0 q n (by rw [hq]; rfl) rfl) h1⟩
 ·by_cases h3 : p.k = 3
  ·rw [if_neg (by omega),if_neg (by omega)] at hfit
   rw [if_pos h3]
   obtain ⟨q,hq⟩:=List.length_eq_one_iff.1 (show p.ks.length = 1 by omega)
   obtain ⟨n,rfl⟩:=List.length_eq_one_iff.1 (show ns.length = 1 by omega)
   refine ⟨p.es.length,rfl,.project h3 hq (hn 0 q n (by rw [hq]; rfl) rfl) (fun e he=>?_) (hf3 h3)⟩
   obtain ⟨j,hj⟩:=List.mem_iff_getElem?.1 he
   have h1:=(hfit j e hj).2
   rwa [show (natI [n]).sum = (n : Int) by simp [natI]] at h1
  ·by_cases h45 : p.k = 4 ∨ p.k = 5
   ·rw [if_neg (by omega),if_neg (by omega)] at hfit
    rw [if_neg h3,if_pos h45]
    obtain ⟨q,r,hq⟩:=two_of (show p.ks.length = 2 by omega)
    obtain ⟨n,m,rfl⟩:=two_of (show ns.length = 2 by omega)
    obtain ⟨e,he⟩:=List.length_eq_one_iff.1 (show p.es.length = 1 by omega)
    have h1:=hfit 0 e (by rw [he]; rfl)
    have hs : (natI [n,m]).sum = (n : Int) + (m : Int):=by simp [natI]
    rw [hs] at h1 ⊢
    exact ⟨n + m,by omega,.join h45 hq he (hn 0 q n (by rw [hq]; rfl) rfl) (hn 1 r m (by rw [hq]; rfl) rfl) h1.2 (by omega)⟩
   ·by_cases h6 : p.k = 6
    ·rw [if_pos h6] at hfit
     rw [if_neg h3,if_neg h45,if_neg (by omega)]
     obtain ⟨q,r,hq⟩:=two_of (show p.ks.length = 2 by omega)
     obtain ⟨n,m,rfl⟩:=two_of (show ns.length = 2 by omega)
     have hnm : (n : Int) = (m : Int):=hfit
     obtain rfl : n = m:=by omega
     exact ⟨n,rfl,.union h6 hq (hn 0 q n (by rw [hq]; rfl) rfl) (hn 1 r n (by rw [hq]; rfl) rfl)⟩
    ·by_cases h7 : p.k = 7
     ·rw [if_neg h3,if_neg h45,if_neg (by omega)]
      obtain ⟨q,hq⟩:=List.length_eq_one_iff.1 (show p.ks.length = 1 by omega)
      obtain ⟨n,rfl⟩:=List.length_eq_one_iff.1 (show ns.length = 1 by omega)
      exact ⟨n,rfl,.distinct h7 hq (hn 0 q n (by rw [hq]; rfl) rfl)⟩
     ·have h8 : p.k = 8:=by omega
      rw [if_neg h6,if_pos h8] at hfit
      rw [if_neg h3,if_neg h45,if_pos h8]
      obtain ⟨q,hq⟩:=List.length_eq_one_iff.1 (show p.ks.length = 1 by omega)
      obtain ⟨n,rfl⟩:=List.length_eq_one_iff.1 (show ns.length = 1 by omega)
      refine ⟨p.cs.length + 1,by omega,.group h8 hq (hn 0 q n (by rw [hq]; rfl) rfl) (fun c hc=>?_) hfit.1⟩
      obtain ⟨j,hj⟩:=List.mem_iff_getElem?.1 hc
      have h1:=hfit.2 j c hj
      unfold colAt at h1
      have h2 : (natI [n]).getD 0 0 = (n : Int):=rfl
      rw [h2] at h1
      omega
end Go.Proofs.YtefldihjbaodnaaGreat
set_option maxHeartbeats 4000000
set_option maxRecDepth 100000
set_option linter.unusedVariables false
set_option linter.unusedSimpArgs false
namespace Go.Proofs.YtefldihjbaodnaaGreat
open Go.RowKit
def pzb (S : Nat) : Nat → Nat
 | 0=>0
 | d + 1=>2 * pzb S d + S + 100
def prb (K : Nat) : Nat → Nat
 | 0=>10
 | d + 1=>prb K d + K + 1000
theorem psz_one (k t : Int) (es : List E) (cs : List Int) (x : Pl) : psz (.mk k t es cs [x]) = eszL es + cs.length + (1 + psz x):=by
 rw [psz,pszL,pszL]; omega
theorem psz_two (k t : Int) (es : List E) (cs : List Int) (x y : Pl) : psz (.mk k t es cs [x,y]) = eszL es + cs.length + (1 + psz x + (1 + psz y)):=by
 rw [psz,pszL,pszL,pszL]; omega
theorem eszL_1 (e : E) : eszL [e] = esz e:=by rw [eszL,eszL]; omega
theorem psz_scan (t : Int) : psz (.mk 1 t [] [] []) = 0:=by rw [psz,eszL,pszL]; rfl
def PlanAt (bs : List Nat) (ws : List Int) (p j u d : Nat) (S K : Nat) : Prop:=∃ (x : Pl) (q j' u' : Nat),(DPlan bs ws p j u d x q j' u' ∧ OPlan bs ws p j u d x q j' u') ∧ p ≤ q ∧ q ≤ p + K ∧ psz x ≤ S ∧ j' ≤ j ∧ u' ≤ u ∧ rb x ≤ capB (j - j') (u - u') ∧ (x.k = 6 → x.es = [])
theorem pD_pur (x : Pl) : (pD x).pur = true:=by
 have:=plans_pur [x]
 rw [List.map_cons,D.purL,Bool.and_eq_true] at this
 exact this.1
theorem wid_of {ws : List Int} (hw : wsOk ws) (x : Pl) (hx : psz x ≤ 900000) : ∃ n : Int,(0 ≤ n ∧ n ≤ 6) ∧ DWid ws x n:=by
 obtain ⟨n,hn,h,_⟩:=width_ok hw x (by omega) 8 (by omega)
 exact ⟨n,hn,Does.lent (H:=[wrD ws]) (ds:=[pD x,.own 1000000 1 ws.length,I 8]) h rfl (Lent.cons (.same _ (pD_pur x)) (Lent.cons (Lent.row 0 rfl (List.length_map ..) _ rfl) (Lent.one (.same _ rfl)))) (flats_1 (flat_ints _)) flats_0 rfl⟩
theorem plan_ind {bs : List Nat} (hs : Src bs) {ws : List Int} (hw : wsOk ws) (S K j T : Nat) (hT : T ≤ 250000000) (hj : j ≤ 1) (hoth : j = 1 → ∀ (u d p : Nat),u ≤ 1 → d ≤ 1 → p < T → PlanAt bs ws p 0 u d S K) :
  ∀ (d u p : Nat),u ≤ 1 → d ≤ 100 → p + prb K d < T → pzb S d ≤ 400000 → PlanAt bs ws p j u d (pzb S d) (prb K d):=by
 have hl:=hw.1
 intro d
 induction d with
 | zero=>
  intro u p hu hd hp hz
  rw [prb] at hp
  obtain ⟨t,h1,_⟩:=pick_ok hs p (by omega) ws.length (by omega)
  exact ⟨_,_,_,_,⟨plan_zero (by omega) h1,oplan_zero (by omega) h1⟩,by omega,by rw [prb]; omega,by rw [psz_scan]; exact Nat.zero_le _,Nat.le_refl _,Nat.le_refl _,by rw [rb_0 rfl]; exact cap_5 _ _,fun h=>absurd h (by decide : ¬ (1 : Int) = 6)⟩
 | succ d ih=>
  intro u p hu hd hp hz
  rw [prb] at hp
  rw [pzb] at hz
  obtain ⟨t,h1,_⟩:=pick_ok hs p (by omega) ws.length (by omega)
  obtain ⟨k6,h2,_⟩:=pick_ok hs (p + 1) (by omega) 6 (by omega)
  by_cases h6 : k6 = 0
  ·subst h6
   exact ⟨_,_,_,_,⟨plan_scan (by omega) d h1 h2,oplan_scan (by omega) d h1 h2⟩,by omega,by rw [prb]; omega,by rw [psz_scan]; exact Nat.zero_le _,Nat.le_refl _,Nat.le_refl _,by rw [rb_0 rfl]; exact cap_5 _ _,fun h=>absurd h (by decide : ¬ (1 : Int) = 6)⟩
  obtain ⟨x,q,j1,u1,⟨hk,_⟩,hq0,hq1,hxs,hj1,hu1,hrb,_⟩:=ih u (p + 2) hu (by omega) (by omega) (by omega)
  obtain ⟨n,hn,hwx⟩:=wid_of hw x (by omega)
  obtain ⟨c,h3,c0,c1,_⟩:=pick_ok hs q (by omega) 10 (by omega)
  have hc9:=c1 (by omega)
  have hpre : Pre bs ws p j u d x t k6 c n q j1 u1:=⟨by omega,by omega,h1,h2,h6,hk,hwx,hn,h3,by omega,by omega⟩
  obtain ⟨e,q2,hce,he0,he1,hez⟩:=randomCondition_ok hs n (by omega) (q + 1) (by omega)
  have hfz : psz (.mk 2 0 [e] [] [x]) = esz e + 0 + (1 + psz x):=by rw [psz_one,eszL_1]; rfl
  rw [PlanAt,prb,pzb]
  by_cases hA : c = 0 ∨ c = 1 ∨ c = 2
  ·exact ⟨_,_,_,_,⟨plan_fil hpre hA hce,oplan_fil hpre hA hce⟩,by omega,by omega,by omega,hj1,hu1,by rw [rb_1 rfl]; exact hrb,fun h=>absurd h (by decide : ¬ (2 : Int) = 6)⟩
  by_cases hB : c = 3 ∨ c = 4
  ·obtain ⟨mm,hmm,m0,m1,_⟩:=pick_ok hs (q + 1) (by omega) 2 (by omega)
   have hm1:=m1 (by omega)
   obtain ⟨m,rfl⟩:=Int.eq_ofNat_of_zero_le m0
   obtain ⟨es,ps,hel,h0,hes,hp0,hp1⟩:=draws (DOne bs n) 600000000 60 (fun p hp=>one_drawn hs n (by omega) p hp) (1 + m) (q + 2) (by omega)
   have hpj:=plan_proj hpre hB hmm (by omega) hel h0 hes
   have hpo:=oplan_proj hpre hB hmm (by omega) hel h0 hes
   have hez:=eszL_bound es (fun i e he=>(hes i e he).2)
   refine ⟨_,_,_,_,⟨hpj,hpo⟩,by omega,by omega,?_,hj1,hu1,by rw [rb_1 rfl]; exact hrb,fun h=>absurd h (by decide : ¬ (3 : Int) = 6)⟩
   rw [psz_one]
   show eszL es + 0 + (1 + psz x) ≤ _
   rw [hel] at hez
   omega
  by_cases hC : (c = 5 ∨ c = 6) ∧ 0 < j1 ∧ n ≤ 4
  ·obtain ⟨hc5,hj0,hn4⟩:=hC
   obtain ⟨dd,hdd,d0,d1,_⟩:=pick_ok hs (q + 1) (by omega) 2 (by omega)
   have hd1:=d1 (by omega)
   obtain ⟨m,rfl⟩:=Int.eq_ofNat_of_zero_le d0
   have hj11 : j1 - 1 = 0:=by omega
   obtain ⟨y,q3,j2,u2,⟨hy,_⟩,hy0,hy1,hyz,hj2,hu2,hrby,_⟩:=hoth (by omega) u1 m (q + 2) (by omega) (by omega) (by omega)
   rw [← hj11] at hy
   obtain ⟨n2,hn2,hwy⟩:=wid_of hw y (by omega)
   by_cases hwide : n + n2 ≤ 6
   ·obtain ⟨k,hkk,hkm⟩:=one_ok hs q3 (by omega) [4,5] (by decide) (by decide)
    obtain ⟨e',q4,hce',he0',he1',hez'⟩:=randomCondition_ok hs (n + n2) (by omega) (q3 + 1) (by omega)
    have hk6 : k ≠ 6:=by
     rcases List.mem_cons.1 hkm with rfl | hkm
     ·decide
     ·rw [List.mem_singleton.1 hkm]; decide
    have hb0 : j - j1 = 0:=by omega
    have hb1 : j1 - 1 - j2 = 0:=by omega
    have hjb : rb (.mk k 0 [e'] [] [x,y]) ≤ capB (j - j2) (u - u2):=by
     rw [rb_2 (q:=x) (r:=y) rfl,if_neg (show ¬ (Pl.mk k 0 [e'] [] [x,y]).k = 6 from hk6)]
     rw [hb0] at hrb
     rw [show 0 - j2 = 0 by omega] at hrby
     refine Nat.le_trans (cap_join hrb hrby (by omega)) (cap_mono (by omega) (by omega))
    have hjz : psz (.mk k 0 [e'] [] [x,y]) = esz e' + 0 + (1 + psz x + (1 + psz y)):=by rw [psz_two,eszL_1]; rfl
    exact ⟨_,_,_,_,⟨plan_join hpre hc5 hj0 hn4 hdd hy hwy hn2 hwide hkk hce',oplan_join hpre hc5 hj0 hn4 hdd hy hwy hn2 hwide hkk hce'⟩,by omega,by omega,by omega,by omega,by omega,hjb,fun h=>absurd h hk6⟩
   ·obtain ⟨e',q4,hce',he0',he1',hez'⟩:=randomCondition_ok hs n (by omega) q3 (by omega)
    have hfz' : psz (.mk 2 0 [e'] [] [x]) = esz e' + 0 + (1 + psz x):=by rw [psz_one,eszL_1]; rfl
    exact ⟨_,_,_,_,⟨plan_wide hpre hc5 hj0 hn4 hdd hy hwy hn2 hwide hce',oplan_wide hpre hc5 hj0 hn4 hdd hy hwy hn2 hwide hce'⟩,by omega,by omega,by omega,by omega,by omega,by rw [rb_1 rfl]; exact Nat.le_trans hrb (cap_mono (by omega) (by omega)),fun h=>absurd h (by decide : ¬ (2 : Int) = 6)⟩
  by_cases hD : c = 7 ∧ 0 < u1
  ·have hub : rb (.mk 6 0 [] [] [x,.mk 2 0 [e] [] [x]]) ≤ capB (j - j1) (u - (u1 - 1)):=by
    rw [rb_2 (q:=x) (r:=.mk 2 0 [e] [] [x]) rfl,if_pos (show (Pl.mk 6 0 [] [] [x,.mk 2 0 [e] [] [x]]).k = 6 from rfl),rb_1 (p:=.mk 2 0 [e] [] [x]) (q:=x) rfl,show u - (u1 - 1) = 1 by omega]
    rw [show u - u1 = 0 by omega] at hrb
    exact cap_uni hrb
   have huz : psz (.mk 6 0 [] [] [x,.mk 2 0 [e] [] [x]]) = 0 + 0 + (1 + psz x + (1 + psz (.mk 2 0 [e] [] [x]))):=by rw [psz_two]; rfl
   exact ⟨_,_,_,_,⟨plan_uni hpre hD.1 hD.2 (by omega) hce,oplan_uni hpre hD.1 hD.2 (by omega) hce⟩,by omega,by omega,by omega,hj1,by omega,hub,fun _=>rfl⟩
  by_cases hE : c = 8
  ·have hdz : psz (.mk 7 0 [] [] [x]) = 0 + 0 + (1 + psz x):=by rw [psz_one]; rfl
   exact ⟨_,_,_,_,⟨plan_dist hpre hE,oplan_dist hpre hE⟩,by omega,by omega,by omega,hj1,hu1,by rw [rb_1 rfl]; exact hrb,fun h=>absurd h (by decide : ¬ (7 : Int) = 6)⟩
  by_cases hF : c = 9
  ·by_cases hn1 : 1 < n
   ·obtain ⟨g,hg,_⟩:=pick_ok hs (q + 1) (by omega) n (by omega)
    have hgz : psz (.mk 8 0 [] [g] [x]) = 0 + 1 + (1 + psz x):=by rw [psz_one]; rfl
    exact ⟨_,_,_,_,⟨plan_grpc hpre hF hn1 hg,oplan_grpc hpre hF hn1 hg⟩,by omega,by omega,by omega,hj1,hu1,by rw [rb_1 rfl]; exact hrb,fun h=>absurd h (by decide : ¬ (8 : Int) = 6)⟩
   ·have hgz : psz (.mk 8 0 [] [] [x]) = 0 + 0 + (1 + psz x):=by rw [psz_one]; rfl
    exact ⟨_,_,_,_,⟨plan_grp hpre hF hn1,oplan_grp hpre hF hn1⟩,by omega,by omega,by omega,hj1,hu1,by rw [rb_1 rfl]; exact hrb,fun h=>absurd h (by decide : ¬ (8 : Int) = 6)⟩
  ·have hdf : ((c = 5 ∨ c = 6) ∧ ¬ (0 < j1 ∧ n ≤ 4)) ∨ (c = 7 ∧ u1 = 0):=by
    by_cases h5 : c = 5 ∨ c = 6
    ·exact Or.inl ⟨h5,fun h=>hC ⟨h5,h.1,h.2⟩⟩
    ·have h7 : c = 7:=by omega
     refine Or.inr ⟨h7,?_⟩
     by_cases h0 : 0 < u1
     ·exact (hD ⟨h7,h0⟩).elim
     ·omega
   exact ⟨_,_,_,_,⟨plan_def hpre hdf hce,oplan_def hpre hdf hce⟩,by omega,by omega,by omega,hj1,hu1,by rw [rb_1 rfl]; exact hrb,fun h=>absurd h (by decide : ¬ (2 : Int) = 6)⟩
theorem PlanAt.wide {bs : List Nat} {ws : List Int} {p j u d S K S' K' : Nat} (h : PlanAt bs ws p j u d S K) (hS : S ≤ S') (hK : K ≤ K') : PlanAt bs ws p j u d S' K':=by
 obtain ⟨x,q,j',u',h0,h1,h2,h3,h4,h5,h6,h7⟩:=h
 exact ⟨x,q,j',u',h0,h1,by omega,by omega,h4,h5,h6,h7⟩
theorem plan_any {bs : List Nat} (hs : Src bs) {ws : List Int} (hw : wsOk ws) (d p : Nat) (hd : d ≤ 4) (hp : p < 200000000) : PlanAt bs ws p 1 1 d 10000 20000:=by
 have z : ∀ d,d ≤ 4 → pzb 0 d ≤ 1500 ∧ prb 0 d ≤ 4010:=by decide
 have z2 : ∀ d,d ≤ 4 → pzb 1500 d ≤ 30000 ∧ prb 4010 d ≤ 30000:=by decide
 have z3 : pzb 0 1 ≤ 100 ∧ prb 0 1 ≤ 1010:=by decide
 have z4 : ∀ d,d ≤ 4 → pzb 100 d ≤ 10000 ∧ prb 1010 d ≤ 20000:=by decide
 have h0 : ∀ (u d p : Nat),u ≤ 1 → d ≤ 1 → p < 240000000 → PlanAt bs ws p 0 u d 100 1010:=fun u d p hu hd hp=>by
  have hd' : d = 0 ∨ d = 1:=by omega
  have z5:=z d (by omega)
  refine (plan_ind hs hw 0 0 0 250000000 (by omega) (by omega) (fun h=>by omega) d u p hu (by omega) (by omega) (by omega)).wide ?_ ?_
  ·rcases hd' with rfl | rfl
   ·decide
   ·exact z3.1
  ·rcases hd' with rfl | rfl
   ·decide
   ·exact z3.2
 have z6:=z4 d hd
 exact (plan_ind hs hw 100 1010 1 240000000 (by omega) (by omega) (fun _ u d p hu hd hp=>h0 u d p hu hd hp) d 1 p (by omega) (by omega) (by omega) (by omega)).wide z6.1 z6.2
end Go.Proofs.YtefldihjbaodnaaGreat
