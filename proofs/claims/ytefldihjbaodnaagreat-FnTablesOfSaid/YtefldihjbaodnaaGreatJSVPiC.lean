/-
  Unions of tables, in both packages; two drawn tables. No condition.
-/
import Derived.Test.YtefldihjbaodnaaGreatKSDca
import Derived.Test.YtefldihjbaodnaaGreatKSDcf
import Derived.Test.YtefldihjbaodnaaGreatJSVDrawTb
import Derived.Test.YtefldihjbaodnaaGreatKSVDrawTc
import Derived.Test.YtefldihjbaodnaaGreatJSVGo
import Derived.Test.YtefldihjbaodnaaGreatJSDcVWid
import Derived.Test.YtefldihjbaodnaaGreatJSVWidE
import Derived.Test.YtefldihjbaodnaaGreatKSDch
import Derived.Test.YtefldihjbaodnaaGreatJSVPlC
import Derived.Test.YtefldihjbaodnaaGreatJSVTbI
import Derived.Test.YtefldihjbaodnaaGreatKSDcd
import Derived.Test.YtefldihjbaodnaaGreatJSVPeB
set_option maxHeartbeats 4000000
set_option maxRecDepth 100000
set_option linter.unusedVariables false
set_option linter.unusedSimpArgs false
namespace Go.Proofs.YtefldihjbaodnaaGreat
open Go.RowKit
def sameT (a b : Ta) : Prop:=tOk a ∧ tOk b ∧ a.w = b.w
noncomputable instance sameTDec (a b : Ta) : Decidable (sameT a b):=Classical.propDecidable _
theorem sameT.symm {a b : Ta} (h : sameT a b) : sameT b a:=⟨h.2.1,h.1,h.2.2.symm⟩
theorem tOk_nat {t : Ta} (h : tOk t) : ∃ w : Nat,t.w = (w : Int) ∧ (1 ≤ w ∧ w ≤ 6) ∧ RsW w t.rows ∧ Asc t.rows ∧ t.rows.length ≤ 400:=by
 have h1:=h.1.1
 refine ⟨t.w.toNat,by omega,by omega,rsw_of_tOk h,asc_of_tOk h,h.1.2⟩
theorem tOk_sz {t : Ta} (ht : tOk t) : rsz t.rows ≤ 1048576:=by
 obtain ⟨w,_,_,hr,_,hl⟩:=tOk_nat ht
 have h1:=rsz_le t.rows (k:=6) (fun r hm=>by have:=(hr r hm).1; omega)
 omega
theorem NearT.mono {w w' m : Nat} {t : Ta} (h : NearT w m t) (hw : w ≤ w') : NearT w' m t:=⟨h.len,fun r hr=>by have:=h.row r hr; omega⟩
end Go.Proofs.YtefldihjbaodnaaGreat
set_option maxHeartbeats 4000000
set_option maxRecDepth 100000
set_option linter.unusedVariables false
set_option linter.unusedSimpArgs false
namespace Go.Proofs.YtefldihjbaodnaaGreat
open Go.RowKit
inductive FineE (ws : List Int) : Pl → Prop
 | mk {p : Pl} (hf : fields p) (hs : p.k = 1 → 0 ≤ p.t ∧ p.t ≤ (ws.length : Int) - 1) (he : ∀ e,e ∈ p.es → ∃ w : Int,eOk e w 8)
   (hfil : p.k = 2 → ∀ x e,p.ks[0]? = some x → p.es[0]? = some e → x.k = 1 → eOk e (scanV ws x.t) 8) (hk : ∀ x,x ∈ p.ks → FineE ws x) : FineE ws p
theorem FineE.fields {ws : List Int} {p : Pl} (h : FineE ws p) : fields p:=by cases h with | mk h _ _ _ _=>exact h
theorem FineE.scan {ws : List Int} {p : Pl} (h : FineE ws p) : p.k = 1 → 0 ≤ p.t ∧ p.t ≤ (ws.length : Int) - 1:=by cases h with | mk _ h _ _ _=>exact h
theorem FineE.kid {ws : List Int} {p x : Pl} (h : FineE ws p) (hx : x ∈ p.ks) : FineE ws x:=by cases h with | mk _ _ _ _ h=>exact h x hx
end Go.Proofs.YtefldihjbaodnaaGreat
set_option maxHeartbeats 4000000
set_option maxRecDepth 100000
set_option linter.unusedVariables false
set_option linter.unusedSimpArgs false
namespace Go.Proofs.YtefldihjbaodnaaGreat
open Go.RowKit
def gnD (ws : List Int) (j u : Nat) : D:=.obj [.ref 1000001 0,.own 1000002 1 ws.length,I j,I u]
def wrD (ws : List Int) : D:=.row 1 (ws.map I)
attribute [go_sem] gnD wrD
abbrev DPlan (bs : List Nat) (ws : List Int) (p j u : Nat) (d : Int) (x : Pl) (q j' u' : Nat) : Prop:=
 Does Tryz.prog 145 [gnD ws j u,rdD bs p,wrD ws] [.ref 1000000 0,I d] (pD x) [gnD ws j' u',rdD bs q,wrD ws]
abbrev DPick (bs : List Nat) (p : Nat) (n v : Int) : Prop:=Does Tryz.prog 60 [rdD bs p] [.ref 1000000 0,I n] (I v) [rdD bs (p + 1)]
abbrev DCond (bs : List Nat) (p : Nat) (n : Int) (e : E) (q : Nat) : Prop:=Does Tryz.prog 147 [rdD bs p] [.ref 1000000 0,I n] (eD e) [rdD bs q]
abbrev DWid (ws : List Int) (x : Pl) (n : Int) : Prop:=Does Tryz.prog 72 [wrD ws] [pD x,.own 1000000 1 ws.length,I 8] (I n) [wrD ws]
theorem plan_zero {bs : List Nat} {ws : List Int} {p j u : Nat} (hl : ws.length ≤ 10) {t : Int} (h1 : DPick bs p ws.length t) : DPlan bs ws p j u 0 (.mk 1 t [] [] []) (p + 1) j u:=by
 refine Bk c_Z55 mixed 3 (go1 trivial ?_)
 refine UcR [1000001] trivial (h1) (go1 trivial ?_)
 refine fin_L [1000000,1000001,1000002] ?_ ?_ rfl ?_
 repeat' (first|(conv in hold _=>simp (disch:=omega) only [go_sem])|exact trivial|exact Sub.refl _|omega)
 exact Sub.agg ⟨Sub.refl _,Sub.refl _,Sub.nul 5,Sub.nul 1,Sub.nul 5,trivial⟩
theorem plan_scan {bs : List Nat} {ws : List Int} {p j u : Nat} (hl : ws.length ≤ 10) {t : Int} (d : Nat) (h1 : DPick bs p ws.length t) (h2 : DPick bs (p + 1) 6 0) : DPlan bs ws p j u ((d + 1 : Nat) : Int) (.mk 1 t [] [] []) (p + 2) j u:=by
 refine Bk c_Z55 mixed 3 (go1 trivial ?_)
 refine UcR [1000001] trivial (h1) (go1 trivial ?_)
 refine UcR [1000001] trivial (h2) (go1 trivial ?_)
 refine fin_L [1000000,1000001,1000002] ?_ ?_ rfl ?_
 repeat' (first|(conv in hold _=>simp (disch:=omega) only [go_sem])|exact trivial|exact Sub.refl _|omega)
 exact Sub.agg ⟨Sub.refl _,Sub.refl _,Sub.nul 5,Sub.nul 1,Sub.nul 5,trivial⟩
structure Pre (bs : List Nat) (ws : List Int) (p j u d : Nat) (x : Pl) (t k6 c n : Int) (q j1 u1 : Nat) : Prop where
 hl : ws.length ≤ 10
 hd : d ≤ 100
 h1 : DPick bs p ws.length t
 h2 : DPick bs (p + 1) 6 k6
 h6 : k6 ≠ 0
 hk : DPlan bs ws (p + 2) j u d x q j1 u1
 hw : DWid ws x n
 hn : 0 ≤ n ∧ n ≤ 6
 h3 : DPick bs q 10 c
 hj : j1 ≤ 1
 hu : u1 ≤ 1
variable {bs : List Nat} {ws : List Int} {p j u d : Nat} {x : Pl} {t k6 c n : Int} {q j1 u1 : Nat}
theorem plan_fil (h : Pre bs ws p j u d x t k6 c n q j1 u1) (hc : c = 0 ∨ c = 1 ∨ c = 2) {e : E} {q2 : Nat} (hce : DCond bs (q + 1) n e q2) : DPlan bs ws p j u ((d + 1 : Nat) : Int) (.mk 2 0 [e] [] [x]) q2 j1 u1:=by
 obtain ⟨hl,hd,h1,h2,h6,hk,hw,hn,h3,hj,hu⟩:=h
 have hf:=filterOf_ok e x
 rcases hc with rfl | rfl | rfl
 all_goals
  refine Bk c_Z55 mixed 3 (go1 trivial ?_)
  refine UcR [1000001] trivial (h1) (go1 trivial ?_)
  refine UcR [1000001] trivial (h2) (go1 trivial ?_)
  refine UcR [1000000,1000001,1000002] trivial (hk) (go1 trivial ?_)
  refine UcR [1000002] trivial (hw) (go1 trivial ?_)
  refine UcR [1000001] trivial (h3) (go1 trivial ?_)
  refine UcR [1000001] trivial (hce) (go1 trivial ?_)
  refine Uc trivial (hf) (go1 trivial ?_)
  refine fin_L [1000000,1000001,1000002] ?_ ?_ rfl ?_
  repeat' (first|(conv in hold _=>simp (disch:=omega) only [go_sem])|exact trivial|exact Sub.refl _|omega)
theorem plan_def (h : Pre bs ws p j u d x t k6 c n q j1 u1) (hc : ((c = 5 ∨ c = 6) ∧ ¬ (0 < j1 ∧ n ≤ 4)) ∨ (c = 7 ∧ u1 = 0)) {e : E} {q2 : Nat} (hce : DCond bs (q + 1) n e q2) : DPlan bs ws p j u ((d + 1 : Nat) : Int) (.mk 2 0 [e] [] [x]) q2 j1 u1:=by
 obtain ⟨hl,hd,h1,h2,h6,hk,hw,hn,h3,hj,hu⟩:=h
 have hf:=filterOf_ok e x
 rcases hc with ⟨rfl | rfl,hc⟩ | ⟨rfl,hc⟩
 ·by_cases hj0 : 0 < j1
  ·have hn4 : ¬ n ≤ 4:=fun h=>hc ⟨hj0,h⟩
   refine Bk c_Z55 mixed 3 (go1 trivial ?_)
   refine UcR [1000001] trivial (h1) (go1 trivial ?_)
   refine UcR [1000001] trivial (h2) (go1 trivial ?_)
   refine UcR [1000000,1000001,1000002] trivial (hk) (go1 trivial ?_)
   refine UcR [1000002] trivial (hw) (go1 trivial ?_)
   refine UcR [1000001] trivial (h3) (go1 trivial ?_)
   refine UcR [1000001] trivial (hce) (go1 trivial ?_)
   refine Uc trivial (hf) (go1 trivial ?_)
   refine fin_L [1000000,1000001,1000002] ?_ ?_ rfl ?_
   repeat' (first|(conv in hold _=>simp (disch:=omega) only [go_sem])|exact trivial|exact Sub.refl _|omega)
  ·refine Bk c_Z55 mixed 3 (go1 trivial ?_)
   refine UcR [1000001] trivial (h1) (go1 trivial ?_)
   refine UcR [1000001] trivial (h2) (go1 trivial ?_)
   refine UcR [1000000,1000001,1000002] trivial (hk) (go1 trivial ?_)
   refine UcR [1000002] trivial (hw) (go1 trivial ?_)
   refine UcR [1000001] trivial (h3) (go1 trivial ?_)
   refine UcR [1000001] trivial (hce) (go1 trivial ?_)
   refine Uc trivial (hf) (go1 trivial ?_)
   refine fin_L [1000000,1000001,1000002] ?_ ?_ rfl ?_
   repeat' (first|(conv in hold _=>simp (disch:=omega) only [go_sem])|exact trivial|exact Sub.refl _|omega)
 ·by_cases hj0 : 0 < j1
  ·have hn4 : ¬ n ≤ 4:=fun h=>hc ⟨hj0,h⟩
   refine Bk c_Z55 mixed 3 (go1 trivial ?_)
   refine UcR [1000001] trivial (h1) (go1 trivial ?_)
   refine UcR [1000001] trivial (h2) (go1 trivial ?_)
   refine UcR [1000000,1000001,1000002] trivial (hk) (go1 trivial ?_)
   refine UcR [1000002] trivial (hw) (go1 trivial ?_)
   refine UcR [1000001] trivial (h3) (go1 trivial ?_)
   refine UcR [1000001] trivial (hce) (go1 trivial ?_)
   refine Uc trivial (hf) (go1 trivial ?_)
   refine fin_L [1000000,1000001,1000002] ?_ ?_ rfl ?_
   repeat' (first|(conv in hold _=>simp (disch:=omega) only [go_sem])|exact trivial|exact Sub.refl _|omega)
  ·refine Bk c_Z55 mixed 3 (go1 trivial ?_)
   refine UcR [1000001] trivial (h1) (go1 trivial ?_)
   refine UcR [1000001] trivial (h2) (go1 trivial ?_)
   refine UcR [1000000,1000001,1000002] trivial (hk) (go1 trivial ?_)
   refine UcR [1000002] trivial (hw) (go1 trivial ?_)
   refine UcR [1000001] trivial (h3) (go1 trivial ?_)
   refine UcR [1000001] trivial (hce) (go1 trivial ?_)
   refine Uc trivial (hf) (go1 trivial ?_)
   refine fin_L [1000000,1000001,1000002] ?_ ?_ rfl ?_
   repeat' (first|(conv in hold _=>simp (disch:=omega) only [go_sem])|exact trivial|exact Sub.refl _|omega)
 ·subst hc
  refine Bk c_Z55 mixed 3 (go1 trivial ?_)
  refine UcR [1000001] trivial (h1) (go1 trivial ?_)
  refine UcR [1000001] trivial (h2) (go1 trivial ?_)
  refine UcR [1000000,1000001,1000002] trivial (hk) (go1 trivial ?_)
  refine UcR [1000002] trivial (hw) (go1 trivial ?_)
  refine UcR [1000001] trivial (h3) (go1 trivial ?_)
  refine UcR [1000001] trivial (hce) (go1 trivial ?_)
  refine Uc trivial (hf) (go1 trivial ?_)
  refine fin_L [1000000,1000001,1000002] ?_ ?_ rfl ?_
  repeat' (first|(conv in hold _=>simp (disch:=omega) only [go_sem])|exact trivial|exact Sub.refl _|omega)
end Go.Proofs.YtefldihjbaodnaaGreat
set_option maxHeartbeats 4000000
set_option maxRecDepth 100000
set_option linter.unusedVariables false
set_option linter.unusedSimpArgs false
namespace Go.Proofs.YtefldihjbaodnaaGreat
open Go.RowKit
theorem defR_ok (w : Nat) : (List.replicate w (⟨false,0⟩ : V)).length = w ∧ ∀ v,v ∈ List.replicate w (⟨false,0⟩ : V) → v.ok:=⟨List.length_replicate ..,fun v hv=>by
 rw [(List.mem_replicate.1 hv).2]
 exact ⟨by decide,by decide,fun h=>by cases h⟩⟩
theorem termOf_w {w : Nat} {e : E} (he : eOk e w 8) : ∃ t e0,tD e = .ifc t e0 ∧ e0.pur = true ∧ Does Tryz.prog 113 [] [eD e] (.ifc t e0) []:=by
 have h0:=defR_ok w
 obtain ⟨h1,t,e0,f,hd,hp0,hm,hv⟩:=termOf_ok h0.2 e 8 (by rw [h0.1]; exact he)
 exact ⟨t,e0,hd,hp0,by rw [← hd]; exact h1⟩
theorem tD_pur {w : Nat} {e : E} (he : eOk e w 8) : (tD e).pur = true:=by
 obtain ⟨t,e0,hd,hp,_⟩:=termOf_w he
 rw [hd]
 exact hp
theorem terms_pur {w : Nat} : ∀ {es : List E},(∀ e,e ∈ es → eOk e w 8) → D.purL (es.map tD) = true
 | [],_=>rfl
 | e :: es,h=>by
  rw [List.map_cons,D.purL,tD_pur (h e (List.mem_cons_self ..)),terms_pur (fun e he=>h e (List.mem_cons_of_mem _ he))]
  rfl
theorem projectedRows_ok {w : Nat} (rs : List (List V)) (es : List E) (hel : es.length ≤ 1000) (hes : ∀ e,e ∈ es → eOk e w 8) :
  Does Tryz.prog 114 [] [rowsD rs,.sl 5 (es.map eD)] (.fn 158 [.ptr [rowsD rs],.ptr [.sl 1 (es.map tD)]]) []:=by
 have htl2:=take_all tD es
 refine Bg c_Z51 mixed (go1 trivial ?_)
 refine dw_for (c:=3) (l:=fun i=>[(2,.ref 1000000 0),(5,.ref 1000001 0),(8,.sl 5 (es.map eD)),(9,I es.length),(10,I i),(1000000,.obj [rowsD rs]),(1000001,.obj [.own 1000002 1 i]),(1000002,.row 1 ((es.take i).map tD))]) es.length (fun _=>True) 0 trivial ((wk_rowO 2000005 2000090 1 0 (by decide) (by decide) (by decide) rfl rfl rfl).trans (Wk.list [2000002,2000005,2000090] rfl rfl ?_)) (fun i hi _=>?_) (Nat.zero_le _)
 ·repeat' (first|(conv in hold _=>simp (disch:=omega) only [go_sem])|exact trivial|exact Sub.refl _|omega)
  first | exact rfl | exact ⟨rfl,rfl⟩ | exact ⟨rfl,rfl,rfl⟩
 ·have htl:=take_len (vs:=es) (i:=i) hi
  have hmk:=take_map tD (vs:=es) (i:=i) hi
  rcases at_or_end hi with ⟨x,hx,hlt⟩ | rfl
  ·obtain ⟨t,e0,hd,hp,h1⟩:=termOf_w (hes x (List.mem_of_getElem? hx))
   have hnx:=take_next hx
   have hren:=fun L=>ren_pure L _ hp
   refine go1 @hx ?_
   refine Uc (cj2 @hp @hren) (h1) (go1 (cj2 @hp @hren) ?_)
   refine ⟨hlt,trivial,Wk.list [1000000,1000001,2000018] rfl rfl ?_⟩
   repeat' (first|(conv in hold _=>simp (disch:=omega) only [go_sem,List.length_map,htl,hren])|exact trivial|exact Sub.refl _|omega)
   have hrl:=fun L=>ren_pure.renL_pure L _ (terms_pur (es:=es.take (i + 1)) (fun e he=>hes e (List.mem_of_mem_take he)))
   rw [hmk,hnx,List.map_append,List.map_cons,List.map_nil,hd]
   rw [hnx,List.map_append,List.map_cons,List.map_nil,hd] at hrl
   exact (congrArg (D.row 1) (hrl _)).symm
  ·have e1 : es.take es.length = es:=List.take_length
   have hpl:=terms_pur hes
   rw [e1]
   refine go1F trivial ?_
   refine fin_wk (wk_frzO 1000001 1000002 (by decide) (by decide) rfl (by decide) rfl ?_) ?_
   rotate_left
   (conv in hold _=>simp (disch:=omega) only [go_sem,htl2,List.length_map,Nat.le_refl])
   ·refine fin_wk (wk_fro 4 1000001 (by decide) (by decide) rfl ?_) ?_
    rotate_left
    (conv in hold _=>simp (disch:=omega) only [go_sem,htl2])
    ·refine fin_wk (wk_fro 4 1000000 (by decide) (by decide) rfl ?_) ?_
     rotate_left
     (conv in hold _=>simp (disch:=omega) only [go_sem,htl2])
     ·refine fin_L [] ?_ ?_ rfl ?_
      repeat' (first|(conv in hold _=>simp (disch:=omega) only [go_sem,htl2])|exact trivial|exact Sub.refl _|omega)
     ·rfl
    ·first | rfl | (simp only [D.purL,D.pur,Bool.and_self])
   ·exact hpl
theorem projectedRows_yields {w : Nat} (rs : List (List V)) (hl : rs.length ≤ 100000) (hs : RsW w rs) (es : List E) (hel : es.length ≤ 1000) (hes : ∀ e,e ∈ es → eOk e w 8) :
  Yields Tryz.prog 158 [.ptr [rowsD rs],.ptr [.sl 1 (es.map tD)]] ((rs.map (prjR es)).map tupR):=by
 refine yields c_Z36 mixed (Nat.le_of_ble_eq_true rfl) (fun i e=>?_)
 conv=>arg 3; whnf
 refine go1 trivial ?_
 refine dw_for (c:=0) (l:=fun j=>[(0,.v (.func (.yield i) #[] #[])),(1,.ptr [rowsD rs]),(2,.ptr [.sl 1 (es.map tD)]),(9,rowsD rs),(10,I rs.length),(11,I j),(gh,.gho i ((rs.map (prjR es)).map tupR) e j)]) rs.length (fun j=>j ≤ e) 0 (Nat.zero_le _) (Wk.list [] rfl rfl ?_) (fun j hj hJ=>?_) (Nat.zero_le _)
 ·repeat' (first|(conv in hold _=>simp (disch:=omega) only [go_sem])|exact trivial|exact Sub.refl _|omega)
  first | exact rfl | exact ⟨rfl,rfl⟩
 ·rcases at_or_end hj with ⟨x,hx,hlt⟩ | rfl
  ·have hxr:=hs x (List.mem_of_getElem? hx)
   have hpl : (prjR es x).length = es.length:=List.length_map _
   refine go1 @hx ?_
   refine dw_for (c:=1) (l:=fun k=>[(0,.v (.func (.yield i) #[] #[])),(1,.ptr [rowsD rs]),(2,.ptr [.sl 1 (es.map tD)]),(5,rowD x),(6,.own 1000000 2 k),(9,rowsD rs),(10,I rs.length),(11,I j),(15,.sl 1 (es.map tD)),(16,I es.length),(17,I k),(1000000,.row 2 (((prjR es x).take k).map vD)),(gh,.gho i ((rs.map (prjR es)).map tupR) e j)]) es.length (fun _=>True) 0 trivial ((wk_row 6 2000090 2 (by decide) (by decide) rfl rfl).trans (Wk.list [2000090] rfl rfl ?_)) (fun k hk _=>?_) (Nat.zero_le _)
   ·repeat' (first|(conv in hold _=>simp (disch:=omega) only [go_sem])|exact trivial|exact Sub.refl _|omega)
    first | exact rfl | exact ⟨rfl,rfl⟩ | exact ⟨rfl,rfl,rfl⟩
   ·have hkl : ((prjR es x).take k).length = k:=take_len (by rw [hpl]; exact hk)
    have hkm : (((prjR es x).take k).map vD).take k = ((prjR es x).take k).map vD:=take_map vD (by rw [hpl]; exact hk)
    rcases at_or_end hk with ⟨y,hy,hklt⟩ | rfl
    ·obtain ⟨_,t,e0,f,hd,hp0,hm,hv⟩:=termOf_ok hxr.2 y 8 (by rw [hxr.1]; exact hes y (List.mem_of_getElem? hy))
     have hnk : (prjR es x).take (k + 1) = (prjR es x).take k ++ [ev y x]:=take_next (by unfold prjR; rw [List.getElem?_map,hy]; rfl)
     refine go1 (cj2 @hy @hd) ?_
     refine i_meth (hm) ?_
     refine Uc (cj2 @hd @hp0) (hv) (go1 (cj2 @hd @hp0) ?_)
     refine ⟨hklt,trivial,Wk.list [2000026] rfl rfl ?_⟩
     repeat' (first|(conv in hold _=>simp (disch:=omega) only [go_sem,hnk,hkm])|exact trivial|exact Sub.refl _|omega)
     rw [List.map_append]
     rfl
    ·have e1 : (prjR es x).take es.length = prjR es x:=List.take_of_length_le (by rw [hpl]; exact Nat.le_refl _)
     rw [e1] at hkm
     rw [e1]
     refine go1C trivial ?_
     refine s_pre (pre_frz (t:=29) (g:=1000000) (by decide) (by decide) rfl ?_) ?_
     rotate_left
     refine go1 (cj2 @hkm @hpl) ?_
     refine v_yld (by ((conv=>lhs; simp (disch:=omega) only [go_sem]); try rfl)) (hJ) ((by rw [List.getElem?_map,List.getElem?_map,hx]; rfl)) (by first | rfl | (simp only [go_sem])) ?_
     repeat' (first|with_reducible refine acc_none ?_ | (conv in hold _=>simp (disch:=omega) only [go_sem])|refine Stp.go ?_|(with_reducible first|refine it_pos rfl ?_|refine it_neg (by decide) ?_|refine st_nil rfl ?_|refine s_op ?_ ?_|exact trivial)|((with_reducible first|refine dw_reg0 ?_|refine dw_regB ?_);(conv=>arg 3;whnf))|(refine Spl.go (fun hq he=>?_) (fun hq he=>?_)<;>first|(exfalso;clear hq;omega)|((try first|(conv=>arg 8;simp only [hq])|(conv=>arg 4;simp only [hq]));clear hq))|((with_reducible first|refine c_split (fun hq=>?_) (fun hq=>?_)|refine q_split (fun hq=>?_) (fun hq=>?_))<;>(try first|(conv=>arg 8;simp only [hq])|(conv=>arg 4;simp only [hq])))|(with_reducible refine fin_0 ?_ (by first|rfl|(conv=>lhs;simp only [go_sem])) ?_)|exact Sub.refl _|omega)
     ·refine ⟨(j + 1),?_,?_⟩
      ·((conv=>lhs; simp (disch:=omega) only [go_sem]); try rfl)
      simp only [List.length_map]
      omega
     ·refine ⟨hlt,by omega,Wk.list [] rfl rfl ?_⟩
      repeat' (first|(conv in hold _=>simp (disch:=omega) only [go_sem])|exact trivial|exact Sub.refl _|omega)
     ·exact vals_pur _
  ·refine go1 trivial ?_
   refine ⟨rs.length,?_,?_⟩
   ·((conv=>lhs; simp (disch:=omega) only [go_sem]); try rfl)
   rw [List.length_map,List.length_map]
   omega
end Go.Proofs.YtefldihjbaodnaaGreat
