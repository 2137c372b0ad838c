/-
  The rows of a join, as the program hands them out: a row with those that match it. No condition.
-/
import Derived.Test.YtjngffbghkafaaaGreatKSDca
import Derived.Test.YtjngffbghkafaaaGreatKSDcf
import Derived.Test.YtjngffbghkafaaaGreatKSVPiE
import Derived.Test.YtjngffbghkafaaaGreatJSVPiD
import Derived.Test.YtjngffbghkafaaaGreatJSDcWXPc
import Derived.Test.YtjngffbghkafaaaGreatJSVGo
import Derived.Test.YtjngffbghkafaaaGreatJSVPlanO
import Derived.Test.YtjngffbghkafaaaGreatRows
import Derived.Test.YtjngffbghkafaaaGreatJSVRwA
set_option maxHeartbeats 4000000
set_option maxRecDepth 100000
set_option linter.unusedVariables false
set_option linter.unusedSimpArgs false
namespace Go.Proofs.YtjngffbghkafaaaGreat
open Go.RowKit
theorem flatVs (vs : List V) : flatRow (.row 2 (vs.map vD)):=⟨2,vs.map vD,rfl,fun d hd=>by
 obtain ⟨e,he,hd⟩:=List.mem_flatMap.1 hd
 obtain ⟨v,_,rfl⟩:=List.mem_map.1 he
 have hd : d ∈ [Bo v.b,I v.n]:=hd
 rcases List.mem_cons.1 hd with rfl | hd
 ·exact ⟨_,rfl⟩
 ·obtain rfl:=List.mem_singleton.1 hd; exact ⟨_,rfl⟩⟩
theorem lentV {P : Program} {f : FuncId} {e0 : D} {vs : List V} {v : V} (h : Does P f [] [e0,rowD vs] (vD v) []) (hp : e0.pur = true) :
  Does P f [.row 2 (vs.map vD)] [e0,.own 1000000 2 vs.length] (vD v) [.row 2 (vs.map vD)]:=by
 have:=h.lent (H:=[.row 2 (vs.map vD)]) (ds:=[e0,.own 1000000 2 vs.length]) rfl (fun i c d hc hd=>by
  match i with
  | 0=>
   obtain rfl : e0 = c:=by simpa using hc
   obtain rfl : e0 = d:=by simpa using hd
   exact .same _ hp
  | 1=>
   obtain rfl : D.own 1000000 2 vs.length = c:=by simpa using hc
   obtain rfl : rowD vs = d:=by simpa using hd
   have:=Lent.own (H:=[.row 2 (vs.map vD)]) 0 2 (vs.map vD) rfl
   rw [List.length_map] at this
   exact this
  | i + 2=>simp at hc) (fun d hd=>by obtain rfl:=List.mem_singleton.1 hd; exact flatVs vs) (fun d hd=>by cases hd) rfl
 exact this
theorem lentClone {P : Program} {f : FuncId} {vs : List V} (h : Does P f [] [rowD vs] (.own 1000000 2 vs.length) [.row 2 (vs.map vD)]) :
  Does P f [.row 2 (vs.map vD)] [.own 1000000 2 vs.length] (.own 1000001 2 vs.length) [.row 2 (vs.map vD),.row 2 (vs.map vD)]:=by
 have:=h.lent (H:=[.row 2 (vs.map vD)]) (ds:=[.own 1000000 2 vs.length]) rfl (fun i c d hc hd=>by
  match i with
  | 0=>
   obtain rfl : D.own 1000000 2 vs.length = c:=by simpa using hc
   obtain rfl : rowD vs = d:=by simpa using hd
   have:=Lent.own (H:=[.row 2 (vs.map vD)]) 0 2 (vs.map vD) rfl
   rw [List.length_map] at this
   exact this
  | i + 1=>simp at hc) (fun d hd=>by obtain rfl:=List.mem_singleton.1 hd; exact flatVs vs) (fun d hd=>by obtain rfl:=List.mem_singleton.1 hd; exact flatVs vs) rfl
 exact this
def bothR (r : List V) (rb : List (List V)) (wb k : Nat) : List V:=if k = 0 then r ++ nulR wb else r ++ rb.getD (k - 1) []
theorem bothR_0 (r : List V) (rb : List (List V)) (wb : Nat) : bothR r rb wb 0 = r ++ nulR wb:=rfl
theorem bothR_s {r : List V} {rb : List (List V)} {wb k : Nat} {y : List V} (h : rb[k]? = some y) : bothR r rb wb (k + 1) = r ++ y:=by
 unfold bothR
 rw [if_neg (by omega),List.getD_eq_getElem?_getD,Nat.add_sub_cancel,h,Option.getD_some]
theorem bothR_len {r : List V} {rb : List (List V)} {wb : Nat} (hb : RsW wb rb) {k : Nat} (hk : k ≤ rb.length) : (bothR r rb wb k).length = r.length + wb:=by
 cases k with
 | zero=>rw [bothR_0,List.length_append,(nulR_ok wb).1]
 | succ k=>
  have hy:=List.getElem?_eq_getElem (show k < rb.length by omega)
  rw [bothR_s hy,List.length_append,(hb _ (List.mem_of_getElem? hy)).1]
theorem both_cpy {r c y : List V} {wb : Nat} (hc : c.length = r.length + wb) (ht : c.take r.length = r) (hy : y.length = wb) : cpyL (c.map vD) r.length wb (y.map vD) = (r ++ y).map vD:=by
 rw [cpyL,D.setAll,← List.map_take,ht,List.take_of_length_le (by rw [List.length_map]; omega),List.length_map,List.drop_of_length_le (by rw [List.length_map]; omega),List.append_nil,List.map_append]
theorem both_take (r : List V) (rb : List (List V)) (wb k : Nat) : (bothR r rb wb k).take r.length = r:=by
 unfold bothR
 split <;> exact List.take_left' rfl
def maD (wb : Nat) (rb : List (List V)) (ex : E) : List D:=[I wb,rowsD rb,tD ex]
theorem matches_yields {w wb : Nat} (r : List V) (hr : r.length = w ∧ ∀ v,v ∈ r → v.ok) (rb : List (List V)) (hb : RsW wb rb) (hlb : rb.length ≤ 1000) (hw0 : 0 < wb) (hw : w + wb ≤ 500) (ex : E) (hex : eOk ex ((w : Int) + (wb : Int)) 8) :
  Yields Tryz.prog 185 [.ptr [rowD r],.ptr (maD wb rb ex)] ((mtL ex r rb).map tupR):=by
 have hn:=nullRow_ok wb hw0 (by omega)
 have hnl:=(nulR_ok wb).1
 have hcc:=concatV_own r (nulR wb) (by omega) (by omega)
 have hpx:=tD_pur hex
 have hrx:=fun L=>ren_pure L _ hpx
 unfold maD
 refine yields c_Z28 mixed (Nat.le_of_ble_eq_true rfl) (fun i e=>?_)
 conv=>arg 3; whnf
 refine go1 (cj2 @hpx @hrx) ?_
 refine Uc (cj2 @hpx @hrx) (hn) (go1 (cj2 @hpx @hrx) ?_)
 refine UcR [3000001] (cj3 @hpx @hrx @hnl) (hcc) (go1 (cj3 @hpx @hrx @hnl) ?_)
 refine dw_for (c:=1) (l:=fun k=>[(0,.v (.func (.yield i) #[] #[])),(1,.ptr [rowD r]),(2,.ptr [I wb,rowsD rb,tD ex]),(4,.own 1000000 2 (r.length + wb)),(16,rowsD rb),(17,I rb.length),(18,I k),(1000000,.row 2 ((bothR r rb wb k).map vD)),(gh,.gho i ((mtL ex r rb).map tupR) e (mtL ex r (rb.take k)).length)]) rb.length (fun k=>(mtL ex r (rb.take k)).length ≤ e) 0 (Nat.zero_le _) (Wk.list [3000001] rfl rfl ?_) (fun k hk hJ=>?_) (Nat.zero_le _)
 ·repeat' (first|(conv in hold _=>simp (disch:=omega) only [go_sem,hpx,hrx])|exact trivial|exact Sub.refl _|omega)
  exact ⟨rfl,rfl,rfl⟩
 ·rcases at_or_end hk with ⟨y,hy,hlt⟩ | rfl
  ·have hyb:=hb y (List.mem_of_getElem? hy)
   have hcl:=bothR_len (r:=r) hb hk
   have hcp:=both_cpy hcl (both_take r rb wb k) hyb.1
   have hs2:=bothR_s (r:=r) (wb:=wb) hy
   have hrl : (r ++ y).length = r.length + wb:=by rw [List.length_append,hyb.1]
   have hrv : ∀ v,v ∈ r ++ y → v.ok:=fun v hv=>(List.mem_append.1 hv).elim (hr.2 v) (hyb.2 v)
   have hyl : (y.map vD).length = wb:=by rw [List.length_map]; exact hyb.1
   have hsub : r.length + wb - r.length = wb:=Nat.add_sub_cancel_left ..
   have hmw : min wb wb = wb:=Nat.min_self wb
   have hrw:=hr.1
   have e1 : (((r ++ y).length : Nat) : Int) = (w : Int) + (wb : Int):=by omega
   obtain ⟨_,t,e0,f,hd,hp0,hm,hv⟩:=termOf_ok hrv ex 8 (by rw [e1]; exact hex)
   have hv:=lentV hv hp0
   have hcv:=lentClone (cloneV_own (r ++ y) (by omega) (by omega))
   rw [hrl] at hv hcv
   have ht:=truth_of_ok (ev ex (r ++ y))
   have hh:=holds_itr ex (r ++ y)
   have hx : (rb.map (fun b=>r ++ b))[k]? = some (r ++ y):=by rw [List.getElem?_map,hy]; rfl
   have hnx:=mtL_next (e:=ex) (r:=r) hy
   generalize hbq : bothR r rb wb k = c0 at hcl hcp
   generalize ev ex (r ++ y) = v at hv ht hh
   rw [hd]
   cases hq : holdsB ex (r ++ y) with
   | true=>
    rw [hq] at hh hnx
    have hh2 : itr v = 2:=beq_iff_eq.1 hh
    rw [hh2] at ht
    have hat : (mtL ex r rb)[(mtL ex r (rb.take k)).length]? = some (r ++ y):=by
     unfold mtL
     rw [List.map_take]
     exact fil_at hx hq
    have hcx:=(List.getElem?_eq_some_iff.1 hat).1
    have hnl2 : (mtL ex r (rb.take (k + 1))).length = (mtL ex r (rb.take k)).length + 1:=by rw [hnx,List.length_append]; rfl
    generalize (mtL ex r (rb.take k)).length = c at hJ hat hcx hnl2
    have htt : ((r ++ y).map vD).take (r.length + wb) = (r ++ y).map vD:=by rw [← hrl]; exact take_all vD _
    refine go1 (cj8 @hy @hsub @hcp @hyl @hyb @hmw @hcl @hp0) ?_
    have hre:=fun L=>ren_pure L _ hp0
    refine i_meth (hm) ?_
    refine UcR [1000000] (cj2 @hp0 @hre) (hv) (go1 (cj2 @hp0 @hre) ?_)
    refine Uc (cj2 @hp0 @hre) (ht) (go1 (cj2 @hp0 @hre) ?_)
    refine UcR [1000000,3000001] (cj2 @hp0 @hre) (hcv) (go1C (cj2 @hp0 @hre) ?_)
    refine s_pre (pre_frz (t:=37) (g:=3000001) (by decide) (by decide) rfl ?_) ?_
    rotate_left
    refine go1 (cj4 @htt @hrl @hp0 @hre) ?_
    ·refine v_yld (by ((conv=>lhs; simp (disch:=omega) only [go_sem]); try rfl)) (hJ) ((by rw [List.getElem?_map,hat]; rfl)) (by first | rfl | (simp only [go_sem])) ?_
     repeat' (first|with_reducible refine acc_none ?_ | (conv in hold _=>simp (disch:=omega) only [go_sem])|refine Stp.go ?_|(with_reducible first|refine it_pos rfl ?_|refine it_neg (by decide) ?_|refine st_nil rfl ?_|refine s_op ?_ ?_|exact trivial)|((with_reducible first|refine dw_reg0 ?_|refine dw_regB ?_);(conv=>arg 3;whnf))|(refine Spl.go (fun hq he=>?_) (fun hq he=>?_)<;>first|(exfalso;clear hq;omega)|((try first|(conv=>arg 8;simp only [hq])|(conv=>arg 4;simp only [hq]));clear hq))|((with_reducible first|refine c_split (fun hq=>?_) (fun hq=>?_)|refine q_split (fun hq=>?_) (fun hq=>?_))<;>(try first|(conv=>arg 8;simp only [hq])|(conv=>arg 4;simp only [hq])))|(with_reducible refine fin_0 ?_ (by first|rfl|(conv=>lhs;simp only [go_sem])) ?_)|exact Sub.refl _|omega)
     ·refine ⟨(c + 1),?_,?_⟩
      ·((conv=>lhs; simp (disch:=omega) only [go_sem]); try rfl)
      simp only [List.length_map]
      omega
     ·refine ⟨hlt,by omega,Wk.list [1000000] rfl rfl ?_⟩
      repeat' (first|(conv in hold _=>simp (disch:=omega) only [go_sem,hnl2,hs2,hd,hp0,hre])|exact trivial|exact Sub.refl _|omega)
    ·exact vals_pur _
   | false=>
    rw [hq] at hh hnx
    have hre:=fun L=>ren_pure L _ hp0
    have hnl2 : mtL ex r (rb.take (k + 1)) = mtL ex r (rb.take k):=by rw [hnx,if_neg (by decide),List.append_nil]
    refine go1 (cj8 @hy @hsub @hcp @hyl @hyb @hmw @hcl @hp0) ?_
    refine i_meth (hm) ?_
    refine UcR [1000000] (cj2 @hp0 @hre) (hv) (go1 (cj2 @hp0 @hre) ?_)
    refine Uc (cj3 @hh @hp0 @hre) (ht) (go1 (cj3 @hh @hp0 @hre) ?_)
    refine ⟨hlt,by rw [hnl2]; exact hJ,Wk.list [1000000] rfl rfl ?_⟩
    repeat' (first|(conv in hold _=>simp (disch:=omega) only [go_sem,hnl2,hs2,hd,hp0,hre])|exact trivial|exact Sub.refl _|omega)
  ·rw [List.take_length] at hJ ⊢
   refine go1 @hpx ?_
   refine ⟨(mtL ex r rb).length,?_,?_⟩
   ·((conv=>lhs; simp (disch:=omega) only [go_sem]); try rfl)
   rw [List.length_map]
   omega
end Go.Proofs.YtjngffbghkafaaaGreat
set_option maxHeartbeats 4000000
set_option maxRecDepth 100000
set_option linter.unusedVariables false
set_option linter.unusedSimpArgs false
namespace Go.Proofs.YtjngffbghkafaaaGreat
open Go.RowKit
def natI (l : List Nat) : List Int:=l.map (fun n : Nat=>(n : Int))
theorem natI_at {l : List Nat} {i : Nat} {x : Int} (h : (natI l)[i]? = some x) : ∃ n : Nat,l[i]? = some n ∧ x = (n : Int):=by
 unfold natI at h
 rw [List.getElem?_map] at h
 cases hl : l[i]? with
 | none=>rw [hl] at h; cases h
 | some n=>rw [hl] at h; cases h; exact ⟨n,rfl,rfl⟩
theorem natI_of {l : List Nat} {i : Nat} {n : Nat} (h : l[i]? = some n) : (natI l)[i]? = some (n : Int):=by
 unfold natI
 rw [List.getElem?_map,h]
 rfl
theorem two_of {α : Type} {l : List α} (h : l.length = 2) : ∃ a b,l = [a,b]:=by
 match l,h with
 | [a,b],_=>exact ⟨a,b,rfl⟩
theorem wt_of {ws : List Nat} {p : Pl} {ns : List Nat} (hl : ns.length = p.ks.length) (hk : p.k ≠ 1) (hn : ∀ (i : Nat) (x : Pl) (n : Nat),p.ks[i]? = some x → ns[i]? = some n → Wt ws x n)
  (hf : fieldsI p) (hfit : fitsV p (natI ns)) : ∃ m : Nat,fromV p (natI ns) = (m : Int) ∧ Wt ws p m:=by
 have hf1:=hf.1
 have hf3:=hf.2
 unfold fields at hf1
 unfold fitsV at hfit
 unfold fromV
 by_cases h2 : p.k = 2
 ·rw [if_neg (by omega),if_neg (by omega)] at hfit
  rw [if_neg (by omega),if_neg (by omega),if_neg (by omega)]
  obtain ⟨q,hq⟩:=List.length_eq_one_iff.1 (show p.ks.length = 1 by omega)
  obtain ⟨n,rfl⟩:=List.length_eq_one_iff.1 (show ns.length = 1 by omega)
  obtain ⟨e,he⟩:=List.length_eq_one_iff.1 (show p.es.length = 1 by omega)
  have h1:=(hfit 0 e (by rw [he]; rfl)).2
  rw [show (natI [n]).sum = (n : Int) by simp [natI]] at h1
  exact ⟨n,rfl,.filter h2 hq he (hn 0 q n (by rw [hq]; rfl) rfl) h1⟩
 ·by_cases h3 : p.k = 3
  ·rw [if_neg (by omega),if_neg (by omega)] at hfit
   rw [if_pos h3]
   obtain ⟨q,hq⟩:=List.length_eq_one_iff.1 (show p.ks.length = 1 by omega)
   obtain ⟨n,rfl⟩:=List.length_eq_one_iff.1 (show ns.length = 1 by omega)
   refine ⟨p.es.length,rfl,.project h3 hq (hn 0 q n (by rw [hq]; rfl) rfl) (fun e he=>?_) (hf3 h3)⟩
   obtain ⟨j,hj⟩:=List.mem_iff_getElem?.1 he
   have h1:=(hfit j e hj).2
   rwa [show (natI [n]).sum = (n : Int) by simp [natI]] at h1
  ·by_cases h45 : p.k = 4 ∨ p.k = 5
   ·rw [if_neg (by omega),if_neg (by omega)] at hfit
    rw [if_neg h3,if_pos h45]
    obtain ⟨q,r,hq⟩:=two_of (show p.ks.length = 2 by omega)
    obtain ⟨n,m,rfl⟩:=two_of (show ns.length = 2 by omega)
    obtain ⟨e,he⟩:=List.length_eq_one_iff.1 (show p.es.length = 1 by omega)
    have h1:=hfit 0 e (by rw [he]; rfl)
    have hs : (natI [n,m]).sum = (n : Int) + (m : Int):=by simp [natI]
    rw [hs] at h1 ⊢
    exact ⟨n + m,by omega,.join h45 hq he (hn 0 q n (by rw [hq]; rfl) rfl) (hn 1 r m (by rw [hq]; rfl) rfl) h1.2 (by omega)⟩
   ·by_cases h6 : p.k = 6
    ·rw [if_pos h6] at hfit
     rw [if_neg h3,if_neg h45,if_neg (by omega)]
     obtain ⟨q,r,hq⟩:=two_of (show p.ks.length = 2 by omega)
     obtain ⟨n,m,rfl⟩:=two_of (show ns.length = 2 by omega)
     have hnm : (n : Int) = (m : Int):=hfit
     obtain rfl : n = m:=by omega
     exact ⟨n,rfl,.union h6 hq (hn 0 q n (by rw [hq]; rfl) rfl) (hn 1 r n (by rw [hq]; rfl) rfl)⟩
    ·by_cases h7 : p.k = 7
     ·rw [if_neg h3,if_neg h45,if_neg (by omega)]
      obtain ⟨q,hq⟩:=List.length_eq_one_iff.1 (show p.ks.length = 1 by omega)
      obtain ⟨n,rfl⟩:=List.length_eq_one_iff.1 (show ns.length = 1 by omega)
      exact ⟨n,rfl,.distinct h7 hq (hn 0 q n (by rw [hq]; rfl) rfl)⟩
     ·have h8 : p.k = 8:=by omega
      rw [if_neg h6,if_pos h8] at hfit
      rw [if_neg h3,if_neg h45,if_pos h8]
      obtain ⟨q,hq⟩:=List.length_eq_one_iff.1 (show p.ks.length = 1 by omega)
      obtain ⟨n,rfl⟩:=List.length_eq_one_iff.1 (show ns.length = 1 by omega)
      refine ⟨p.cs.length + 1,by omega,.group h8 hq (hn 0 q n (by rw [hq]; rfl) rfl) (fun c hc=>?_) hfit.1⟩
      obtain ⟨j,hj⟩:=List.mem_iff_getElem?.1 hc
      have h1:=hfit.2 j c hj
      unfold colAt at h1
      have h2 : (natI [n]).getD 0 0 = (n : Int):=rfl
      rw [h2] at h1
      omega
end Go.Proofs.YtjngffbghkafaaaGreat
set_option maxHeartbeats 4000000
set_option maxRecDepth 100000
set_option linter.unusedVariables false
set_option linter.unusedSimpArgs false
namespace Go.Proofs.YtjngffbghkafaaaGreat
open Go.RowKit
def PlanAt (bs : List Nat) (ws : List Int) (p j u d : Nat) (S K : Nat) : Prop:=∃ (x : Pl) (q j' u' : Nat),(DPlan bs ws p j u d x q j' u' ∧ OPlan bs ws p j u d x q j' u') ∧ p ≤ q ∧ q ≤ p + K ∧ psz x ≤ S ∧ j' ≤ j ∧ u' ≤ u ∧ rb x ≤ capB (j - j') (u - u') ∧ (x.k = 6 → x.es = [])
theorem pD_pur (x : Pl) : (pD x).pur = true:=by
 have:=plans_pur [x]
 rw [List.map_cons,D.purL,Bool.and_eq_true] at this
 exact this.1
theorem PlanAt.wide {bs : List Nat} {ws : List Int} {p j u d S K S' K' : Nat} (h : PlanAt bs ws p j u d S K) (hS : S ≤ S') (hK : K ≤ K') : PlanAt bs ws p j u d S' K':=by
 obtain ⟨x,q,j',u',h0,h1,h2,h3,h4,h5,h6,h7⟩:=h
 exact ⟨x,q,j',u',h0,h1,by omega,by omega,h4,h5,h6,h7⟩
end Go.Proofs.YtjngffbghkafaaaGreat
