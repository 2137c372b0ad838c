/-
  Expressions copied by the laws: trees of one's own. No condition.
-/
import Derived.Test.YtclkehekhdfnnaaKSDca
import Derived.Test.YtclkehekhdfnnaaKSVRen
import Derived.Test.YtclkehekhdfnnaaKSVRegL
import Derived.Test.YtclkehekhdfnnaaKSVRegF
import Derived.Test.YtclkehekhdfnnaaKSVEsz
import Derived.Test.YtclkehekhdfnnaaKSVSzE
set_option maxHeartbeats 4000000
set_option maxRecDepth 100000
set_option linter.unusedVariables false
set_option linter.unusedSimpArgs false
namespace Go.Proofs.Ytclkehekhdfnnaa
open Go.RowKit
theorem fin_RC {σ : Env} {rs : List Res} {r : D} {fm : Fm} {p k1 : Nat} {m0 : Names} (hgh : hold (σ gh) = .gho 0 [.fam (famOf fm p m0)] 0 k1) (hok : hold (resOk σ rs)) (hres : hold (resD σ rs) = r) : FinRC rs r fm p m0 k1 σ:=⟨σ,Wk.refl 0 σ,hgh,hok,hres⟩
theorem fin_RCw {σ τ : Env} {rs : List Res} {r : D} {fm : Fm} {p k1 : Nat} {m0 : Names} (hw : Wk 0 σ τ) (h : FinRC rs r fm p m0 k1 (hold τ)) : FinRC rs r fm p m0 k1 σ:=by
 obtain ⟨τ',hw',hf⟩:=h
 exact ⟨τ',hw.trans hw',hf⟩
theorem kD_low (κ s : Nat) (es : List D) : (kD κ s es).low = true:=by unfold kD; split <;> rfl
theorem kD_rk (ρ : Nat → Nat) (κ s : Nat) (es : List D) : (kD κ s es).rk ρ = kD (ρ κ) s es:=by unfold kD; split <;> rfl
theorem kD_rnk (L : List Nat) (κ s : Nat) (es : List D) : (kD κ s es).rnk L = kD κ s es:=rnk_low L _ (kD_low κ s es)
theorem kD_cells (κ s : Nat) (es : List D) : (kD κ s es).cells = [kD κ s es]:=by unfold kD; split <;> rfl
theorem kD_one (κ s : Nat) (es : List D) : (kD κ s es).one = true:=by unfold kD; split <;> rfl
attribute [go_sem] kD_low kD_rk kD_rnk kD_cells kD_one D.low D.lowL D.rk D.rkL
attribute [go_sem ↓ high] kD_one
def filK (f : Nat → D) (z : D) (n i : Nat) : List D:=(List.range n).map fun j=>if j < i then f j else z
theorem filK_len (f : Nat → D) (z : D) (n i : Nat) : (filK f z n i).length = n:=by unfold filK; rw [List.length_map,List.length_range]
theorem filK_at (f : Nat → D) (z : D) {n i j : Nat} (h : j < n) : (filK f z n i)[j]? = some (if j < i then f j else z):=by unfold filK; rw [List.getElem?_map,List.getElem?_range h]; rfl
theorem filK_zero (f : Nat → D) (z : D) (n : Nat) : List.replicate n z = filK f z n 0:=by
 apply List.ext_getElem?
 intro j
 by_cases h : j < n
 ·rw [filK_at f z h,if_neg (by omega),List.getElem?_replicate,if_pos h]
 ·rw [List.getElem?_eq_none (by rw [List.length_replicate]; omega),List.getElem?_eq_none (by rw [filK_len]; omega)]
theorem filK_set (f : Nat → D) (z : D) {n i : Nat} (h : i < n) : (filK f z n i).set i (f i) = filK f z n (i + 1):=by
 apply List.ext_getElem?
 intro j
 by_cases hj : j < n
 ·rw [filK_at f z hj,List.getElem?_set]
  by_cases e : i = j
  ·subst e
   rw [if_pos rfl,if_pos (by rw [filK_len]; exact hj),if_pos (by omega)]
  ·rw [if_neg e,filK_at f z hj]
   by_cases h2 : j < i
   ·rw [if_pos h2,if_pos (by omega)]
   ·rw [if_neg h2,if_neg (by omega)]
 ·rw [List.getElem?_eq_none (by rw [List.length_set,filK_len]; omega),List.getElem?_eq_none (by rw [filK_len]; omega)]
theorem filK_low (f : Nat → D) (z : D) (hf : ∀ j,(f j).low = true) (hz : z.low = true) (n i : Nat) : D.lowL (filK f z n i) = true:=D.lowL_iff.2 fun d hd=>by
 obtain ⟨j,_,rfl⟩:=List.mem_map.1 hd
 split
 ·exact hf j
 ·exact hz
def eK (κ : Nat) (e : E) : D:=.agg [I e.k,I e.c,Bo e.v.b,I e.v.n,kD κ 5 (e.ks.map eD)]
theorem eK_low (κ : Nat) (e : E) : (eK κ e).low = true:=by unfold eK; simp only [go_sem]
theorem eK_rk (ρ : Nat → Nat) (κ : Nat) (e : E) : (eK κ e).rk ρ = eK (ρ κ) e:=by unfold eK; simp only [go_sem]
theorem eK_leaf {e : E} (h : e.ks = []) (κ : Nat) : eK κ e = eD e:=by unfold eK kD; rw [eD_eq,h]; rfl
def cntK (l : List E) (i : Nat) : Nat:=((l.take i).filter fun e=>!e.ks.isEmpty).length
def nk (e : E) : Nat:=if e.ks = [] then 0 else 1
theorem cntK_zero (l : List E) : cntK l 0 = 0:=by unfold cntK; rw [List.take_zero]; rfl
theorem cntK_next {l : List E} {i : Nat} {x : E} (h : l[i]? = some x) : cntK l (i + 1) = cntK l i + nk x:=by
 unfold cntK nk
 rw [take_next h,List.filter_append,List.length_append]
 congr 1
 by_cases h0 : x.ks = []
 ·rw [if_pos h0,List.filter_cons,h0]; rfl
 ·rw [if_neg h0,List.filter_cons]
  have : (!x.ks.isEmpty) = true:=by cases hk : x.ks with
   | nil=>exact absurd hk h0
   | cons _ _=>rfl
  rw [this]; rfl
theorem cntK_le (l : List E) : ∀ i,2 * cntK l i ≤ eszL l:=by
 have h2 : ∀ m : List E,m.length + (m.filter fun e=>!e.ks.isEmpty).length ≤ eszL m:=by
  intro m
  induction m with
  | nil=>exact Nat.zero_le _
  | cons e m ih=>
   have he:=esz_eq e
   have hk:=eszL_len e.ks
   rw [eszL,List.filter_cons,List.length_cons]
   split
   ·rename_i h
    rw [List.length_cons]
    have : 0 < e.ks.length:=by cases hk : e.ks with
     | nil=>rw [hk] at h; cases h
     | cons _ _=>rw [List.length_cons]; omega
    omega
   ·omega
 intro i
 have h3:=h2 (l.take i)
 have h4:=List.length_filter_le (fun e : E=>!e.ks.isEmpty) (l.take i)
 have h5 : eszL (l.take i) ≤ eszL l:=by
  have:=eszL_append (l.take i) (l.drop i)
  rw [List.take_append_drop] at this
  omega
 unfold cntK
 omega
def kidI (l : List E) (j : Nat) : It:=⟨cntK l j,5,match l[j]? with
 | some e=>e.ks.map eD
 | none=>[]⟩
def toEF (l : List E) : Fm where
 top i:=if i ≤ l.length then cntK l i else cntK l l.length + 1
 its i:=if i ≤ l.length then (List.range i).map (kidI l) else [⟨cntK l l.length,5,l.map eD⟩]
theorem toEF_top (l : List E) {i : Nat} (h : i ≤ l.length) : (toEF l).top i = cntK l i:=if_pos h
theorem toEF_topE (l : List E) : (toEF l).top (l.length + 1) = cntK l l.length + 1:=if_neg (by omega)
theorem toEF_its (l : List E) {i : Nat} (h : i ≤ l.length) : (toEF l).its i = (List.range i).map (kidI l):=if_pos h
theorem toEF_next {l : List E} {i : Nat} {x : E} (h : l[i]? = some x) : (toEF l).its (i + 1) = (toEF l).its i ++ [⟨cntK l i,5,x.ks.map eD⟩]:=by
 have hl:=(List.getElem?_eq_some_iff.1 h).1
 rw [toEF_its l (by omega),toEF_its l (by omega),List.range_succ,List.map_append]
 show _ ++ [kidI l i] = _
 unfold kidI
 rw [h]
theorem toEF_end (l : List E) : (toEF l).its (l.length + 1) = [⟨cntK l l.length,5,l.map eD⟩]:=if_neg (by omega)
theorem cntK_mono (l : List E) {i j : Nat} (h : i ≤ j) : cntK l i ≤ cntK l j:=by
 unfold cntK
 have : l.take i = (l.take j).take i:=by rw [List.take_take,Nat.min_eq_left h]
 rw [this]
 exact (((List.take_sublist i (l.take j)).filter _).length_le)
theorem toEF_lt {l : List E} {i : Nat} (h : i ≤ l.length) : ∀ it,it ∈ (toEF l).its i → it.es ≠ [] → it.κ < (toEF l).top i:=by
 intro it hit hne
 rw [toEF_its l h] at hit
 rw [toEF_top l h]
 obtain ⟨j,hj,rfl⟩:=List.mem_map.1 hit
 have hj:=List.mem_range.1 hj
 obtain ⟨x,hx⟩ : ∃ x,l[j]? = some x:=⟨_,List.getElem?_eq_getElem (by omega)⟩
 have h1:=cntK_next hx
 have h2:=cntK_mono l (show j + 1 ≤ i by omega)
 have h3 : nk x = 1:=by
  unfold nk
  refine if_neg (fun h=>hne ?_)
  unfold kidI
  simp only [hx,h,List.map_nil]
 show cntK l j < cntK l i
 omega
theorem flat_eD : ∀ l : List E,D.flat (l.map eD) = l.flatMap fun e=>[I e.k,I e.c,Bo e.v.b,I e.v.n,.sl 5 (e.ks.map eD)]
 | []=>rfl
 | e :: l=>by
  have ih:=flat_eD l
  unfold D.flat at ih ⊢
  rw [List.map_cons,List.flatMap_cons,List.flatMap_cons,ih,eD_eq]
  rfl
theorem its_eD (key : Nat → Nat) : ∀ (l : List E) (a : Nat) (f : Nat → Nat),(∀ i,i < l.length → key (5 * (a + i) + 4) = f i) → itsC key (5 * a) (D.flat (l.map eD)) = l.zipIdx.map fun p=>⟨f p.2,5,p.1.ks.map eD⟩
 | [],a,f,_=>rfl
 | e :: l,a,f,h=>by
  have ih:=its_eD key l (a + 1) (fun i=>f (i + 1)) (fun i hi=>by
   have:=h (i + 1) (by rw [List.length_cons]; omega)
   rw [show a + (i + 1) = a + 1 + i by omega] at this
   exact this)
  have h0:=h 0 (by rw [List.length_cons]; omega)
  rw [flat_eD,List.flatMap_cons,← flat_eD]
  show itsC key (5 * a) (I e.k :: I e.c :: Bo e.v.b :: I e.v.n :: .sl 5 (e.ks.map eD) :: D.flat (l.map eD)) = _
  simp only [itsC,itC,List.nil_append,List.zipIdx_cons,List.map_cons,List.cons_append]
  rw [show 5 * a + 1 + 1 + 1 + 1 = 5 * (a + 0) + 4 by omega,h0]
  congr 1
  rw [show 5 * (a + 0) + 4 + 1 = 5 * (a + 1) by omega,ih,List.zipIdx_succ,List.map_map]
  rfl
def keyE (l : List E) (j : Nat) : D:=match l[j]? with
 | some e=>eK (cntK l j) e
 | none=>zED
theorem keyE_at {l : List E} {j : Nat} {e : E} (h : l[j]? = some e) : keyE l j = eK (cntK l j) e:=by unfold keyE; rw [h]
theorem keyE_low (l : List E) (j : Nat) : (keyE l j).low = true:=by
 unfold keyE
 split
 ·exact eK_low _ _
 ·rfl
def keyC (l : List E) (j : Nat) : Nat:=cntK l (j / 5)
theorem cells_eD (key : Nat → Nat) : ∀ (l : List E) (a j : Nat) (d : D),(D.flat (l.map eD))[j]? = some d → treC d = true ∧ (D.flat ((l.zipIdx a).map fun p=>eK (key (5 * p.2 + 4)) p.1))[j]? = some (kC (key (5 * a + j)) d)
 | [],_,j,d,h=>by simp [D.flat] at h
 | e :: l,a,j,d,h=>by
  have ih:=cells_eD key l (a + 1)
  rw [flat_eD,List.flatMap_cons,← flat_eD] at h
  have e1 : D.flat (((e :: l).zipIdx a).map fun p=>eK (key (5 * p.2 + 4)) p.1) = [I e.k,I e.c,Bo e.v.b,I e.v.n,kD (key (5 * a + 4)) 5 (e.ks.map eD)] ++ D.flat ((l.zipIdx (a + 1)).map fun p=>eK (key (5 * p.2 + 4)) p.1):=by
   rw [List.zipIdx_cons,List.map_cons]
   rfl
  rw [e1]
  match j,h with
  | 0,h=>obtain rfl:=Option.some.inj h; exact ⟨rfl,rfl⟩
  | 1,h=>obtain rfl:=Option.some.inj h; exact ⟨rfl,rfl⟩
  | 2,h=>obtain rfl:=Option.some.inj h; exact ⟨rfl,rfl⟩
  | 3,h=>obtain rfl:=Option.some.inj h; exact ⟨rfl,rfl⟩
  | 4,h=>obtain rfl:=Option.some.inj h; exact ⟨rfl,rfl⟩
  | j + 5,h=>
   have h2:=ih j d h
   rw [show 5 * a + (j + 5) = 5 * (a + 1) + j by omega]
   exact h2
theorem filK_all (l : List E) : filK (keyE l) zED l.length l.length = l.zipIdx.map fun p=>eK (keyC l (5 * p.2 + 4)) p.1:=by
 apply List.ext_getElem?
 intro j
 rw [List.getElem?_map,List.getElem?_zipIdx]
 by_cases h : j < l.length
 ·obtain ⟨x,hx⟩ : ∃ x,l[j]? = some x:=⟨_,List.getElem?_eq_getElem h⟩
  rw [filK_at _ _ h,if_pos h,hx,keyE_at hx]
  show _ = some (eK (cntK l ((5 * (0 + j) + 4) / 5)) x)
  rw [show (5 * (0 + j) + 4) / 5 = j by omega]
 ·rw [List.getElem?_eq_none (by rw [filK_len]; omega),List.getElem?_eq_none (show l.length ≤ j by omega)]
  rfl
theorem toEF_all (l : List E) : (toEF l).its l.length = itsC (keyC l) 0 (D.flat (l.map eD)):=by
 rw [toEF_its l (Nat.le_refl _)]
 have h:=its_eD (keyC l) l 0 (fun i=>cntK l i) (fun i _=>by unfold keyC; rw [show (5 * (0 + i) + 4) / 5 = i by omega])
 rw [Nat.mul_zero] at h
 rw [h]
 apply List.ext_getElem?
 intro j
 rw [List.getElem?_map,List.getElem?_map,List.getElem?_zipIdx]
 by_cases hj : j < l.length
 ·obtain ⟨x,hx⟩ : ∃ x,l[j]? = some x:=⟨_,List.getElem?_eq_getElem hj⟩
  rw [List.getElem?_range hj,hx]
  show some (kidI l j) = some _
  unfold kidI
  rw [hx,Nat.zero_add]
 ·rw [List.getElem?_eq_none (by rw [List.length_range]; omega),List.getElem?_eq_none (show l.length ≤ j by omega)]
  rfl
theorem toExprS_rc (l : List E) (hl : eszL l ≤ 1048576) (h0 : l ≠ []) (ih : ∀ x,x ∈ l → RCalls Try.prog 10 [] [eD x] [⟨0,5,x.ks.map eD⟩] (nk x) (eK 0 x)) :
  RCalls Try.prog 19 [] [.sl 5 (l.map eD)] [⟨0,5,l.map eD⟩] 1 (kD 0 5 (l.map eD)):=by
 have hlen:=eszL_len l
 have hn1 : nb = 1000000:=rfl
 have hm0 : l.map eD ≠ []:=fun h=>h0 (List.map_eq_nil_iff.1 h)
 have hcl:=cntK_le l
 have hz:=filK_zero (keyE l) zED l.length
 have hren : ∀ (L : List Nat) (i : Nat),D.rnkL L (filK (keyE l) zED l.length i) = filK (keyE l) zED l.length i:=fun L i=>rnk_low.rnkL_low L _ (filK_low _ _ (keyE_low l) rfl _ _)
 have hkD : kD 0 5 (l.map eD) = .kow 0 5 l.length:=by unfold kD; rw [if_neg hm0,List.length_map]
 refine rcalls_of c_Z25 mixed (toEF l) 0 (l.length + 1) (fun κ=>if κ = 0 then cntK l l.length else 2000000) (Nat.le_of_ble_eq_true rfl) (kD_low _ _ _) ?_ ?_ ?_ ?_ (fun κ h=>absurd h (Nat.not_lt_zero κ)) (fun κ hκ=>?_) (Nat.zero_le _) (by omega) (fun m0=>?_)
 ·rw [toEF_top l (Nat.zero_le _),cntK_zero]; rfl
 ·rw [toEF_its l (Nat.zero_le _)]; exact List.Perm.refl _
 ·rw [toEF_end]; exact List.Perm.refl _
 ·intro it hit _
  obtain rfl:=List.mem_singleton.1 hit
  exact Nat.zero_lt_one
 ·show nb ≤ if κ = 0 then _ else 2000000
  rw [if_neg (by omega)]; decide
 ·rw [hkD]
  conv=>arg 3; whnf
  repeat' (first|with_reducible refine acc_none ?_ | (conv in hold _=>simp (disch:=omega) only [go_sem])|refine Stp.go ?_|(with_reducible first|refine it_pos rfl ?_|refine it_neg (by decide) ?_|refine st_nil rfl ?_|refine s_op ?_ ?_|exact trivial)|((with_reducible first|refine dw_reg0 ?_|refine dw_regB ?_);(conv=>arg 3;whnf))|(refine Spl.go (fun hq he=>?_) (fun hq he=>?_)<;>first|(exfalso;clear hq;omega)|((try first|(conv=>arg 8;simp only [hq])|(conv=>arg 4;simp only [hq]));clear hq))|((with_reducible first|refine c_split (fun hq=>?_) (fun hq=>?_)|refine q_split (fun hq=>?_) (fun hq=>?_))<;>(try first|(conv=>arg 8;simp only [hq])|(conv=>arg 4;simp only [hq])))|(with_reducible refine fin_0 ?_ (by first|rfl|(conv=>lhs;simp only [go_sem])) ?_)|exact Sub.refl _|omega)
  refine dw_for (c:=1) (l:=fun i=>[(gh,.gho 0 [.fam (famOf (toEF l) 0 m0)] 0 i),(0,.sl 5 (l.map eD)),(3,.own 1000000 5 l.length),(4,I i),(1000000,.row 5 (filK (keyE l) zED l.length i))]) l.length (fun _=>True) 0 trivial (Wk.listK [2000007] rfl rfl ?_) (fun i hi _=>?_) (Nat.zero_le _)
  ·repeat' (first|(conv in hold _=>simp (disch:=omega) only [go_sem,hren])|exact trivial|exact Sub.refl _|omega)
   exact ⟨rfl,congrArg (D.row 5) hz⟩
  ·have hci:=hcl i
   have hfl:=filK_len (keyE l) zED l.length i
   have hft : List.take l.length (filK (keyE l) zED l.length i) = filK (keyE l) zED l.length i:=List.take_of_length_le (Nat.le_of_eq hfl)
   rcases at_or_end hi with ⟨x,hx,hlt⟩ | rfl
   ·have hix:=ih x (List.mem_of_getElem? hx)
    have hst:=filK_set (keyE l) zED hlt
    rw [keyE_at hx,eK] at hst
    have hgi : (filK (keyE l) zED l.length i)[i]? = some (.agg [I 0,I 0,Bo false,I 0,.nul]):=by rw [filK_at _ _ hlt,if_neg (Nat.lt_irrefl i)]; rfl
    repeat' ((fail_if_success (with_reducible first | refine s_call ?_ | refine s_cal ?_ | refine s_inv ?_)); first | with_reducible refine acc_none ?_ | (conv in hold _=>simp (disch:=omega) only [go_sem,List.getElem?_map,hx,Option.map_some,hfl,hft,hgi])|refine Stp.go ?_|(with_reducible first|refine it_pos rfl ?_|refine it_neg (by decide) ?_|refine st_nil rfl ?_|refine s_op ?_ ?_|exact trivial)|((with_reducible first|refine dw_reg0 ?_|refine dw_regB ?_);(conv=>arg 3;whnf))|(refine Spl.go (fun hq he=>?_) (fun hq he=>?_)<;>first|(exfalso;clear hq;omega)|((try first|(conv=>arg 8;simp only [hq])|(conv=>arg 4;simp only [hq]));clear hq))|((with_reducible first|refine c_split (fun hq=>?_) (fun hq=>?_)|refine q_split (fun hq=>?_) (fun hq=>?_))<;>(try first|(conv=>arg 8;simp only [hq])|(conv=>arg 4;simp only [hq])))|(with_reducible refine fin_0 ?_ (by first|rfl|(conv=>lhs;simp only [go_sem,List.getElem?_map,hx,Option.map_some,hfl,hft,hgi])) ?_)|exact Sub.refl _|omega)
    have hk0 : keyR [] ((toEF l).top i) 0 = cntK l i:=by rw [toEF_top l hi]; rfl
    have hnx:=toEF_next hx
    refine s_rcall (i + 1) [] ((toEF l).its i) hix (by ((conv=>lhs; simp (disch:=omega) only [go_sem,List.getElem?_map,hx,Option.map_some]); try rfl)) (by ((conv=>lhs; simp (disch:=omega) only [go_sem,List.getElem?_map,hx,Option.map_some]); try rfl)) (by rw [← eD_eq]; exact congrArg (fun d=>[d]) (rk_pur _ _ (eD_pur x)).symm) (show _ = D.agg [I x.k,I x.c,Bo x.v.b,I x.v.n,kD (cntK l i) 5 (x.ks.map eD)] from (eK_rk _ 0 x).trans (congrArg (fun κ=>eK κ x) hk0))
     (by rw [D.lowL,D.lowL,eD_eq]; rfl) (eK_low 0 x) rfl (fun κ h=>absurd h (List.not_mem_nil)) (Nat.zero_le _) (List.Perm.refl _) ?_ (fun it hit hne=>(by cases hit)) (fun it hit hne=>?_) (toEF_lt hi) (Nat.zero_le _) ?_ ?_ (Nat.zero_le _) ?_
    ·rw [hnx]
     show List.Perm (_ ++ [_]) ([(⟨keyR [] ((toEF l).top i) 0,5,x.ks.map eD⟩ : It)] ++ _)
     rw [hk0]
     exact List.perm_append_comm
    ·obtain rfl:=List.mem_singleton.1 hit
     show 0 < nk x
     unfold nk
     rw [if_neg (fun h=>hne (by show x.ks.map eD = []; rw [h]; rfl))]
     exact Nat.zero_lt_one
    ·rw [toEF_top l (by omega),toEF_top l hi]
     exact cntK_next hx
    ·have h1:=hcl (i + 1)
     rw [toEF_top l (by omega)]
     omega
    ·repeat' (first|with_reducible refine acc_none ?_ | (conv in hold _=>simp (disch:=omega) only [go_sem,hfl,hft,hgi])|refine Stp.go ?_|(with_reducible first|refine it_pos rfl ?_|refine it_neg (by decide) ?_|refine st_nil rfl ?_|refine s_op ?_ ?_|exact trivial)|((with_reducible first|refine dw_reg0 ?_|refine dw_regB ?_);(conv=>arg 3;whnf))|(refine Spl.go (fun hq he=>?_) (fun hq he=>?_)<;>first|(exfalso;clear hq;omega)|((try first|(conv=>arg 8;simp only [hq])|(conv=>arg 4;simp only [hq]));clear hq))|((with_reducible first|refine c_split (fun hq=>?_) (fun hq=>?_)|refine q_split (fun hq=>?_) (fun hq=>?_))<;>(try first|(conv=>arg 8;simp only [hq])|(conv=>arg 4;simp only [hq])))|(with_reducible refine fin_0 ?_ (by first|rfl|(conv=>lhs;simp only [go_sem,hfl,hft,hgi])) ?_)|exact Sub.refl _|omega)
     refine ⟨hlt,trivial,Wk.listK [1000000] rfl rfl ?_⟩
     repeat' (first|(conv in hold _=>simp (disch:=omega) only [go_sem,hst,hren])|exact trivial|exact Sub.refl _|omega)
   ·repeat' (first|with_reducible refine acc_none ?_ | (conv in hold _=>simp (disch:=omega) only [go_sem,hft])|refine Stp.go ?_|(with_reducible first|refine it_pos rfl ?_|refine it_neg (by decide) ?_|refine st_nil rfl ?_|refine s_op ?_ ?_|exact trivial)|((with_reducible first|refine dw_reg0 ?_|refine dw_regB ?_);(conv=>arg 3;whnf))|(refine Spl.go (fun hq he=>?_) (fun hq he=>?_)<;>first|(exfalso;clear hq;omega)|((try first|(conv=>arg 8;simp only [hq])|(conv=>arg 4;simp only [hq]));clear hq))|((with_reducible first|refine c_split (fun hq=>?_) (fun hq=>?_)|refine q_split (fun hq=>?_) (fun hq=>?_))<;>(try first|(conv=>arg 8;simp only [hq])|(conv=>arg 4;simp only [hq])))|exact Sub.refl _|omega)
    have hle : (l.map eD).length = l.length:=List.length_map ..
    have hfa:=filK_all l
    have hflt : (D.flat (filK (keyE l) zED l.length l.length)).length = (D.flat (l.map eD)).length:=by
     have h1 : ∀ e,e ∈ l.map eD → e.cells.length = 5:=fun e he=>by
      obtain ⟨x,_,rfl⟩:=List.mem_map.1 he
      rw [eD_eq]; rfl
     have h2 : ∀ e,e ∈ filK (keyE l) zED l.length l.length → e.cells.length = 5:=fun e he=>by
      rw [hfa] at he
      obtain ⟨x,_,rfl⟩:=List.mem_map.1 he
      rfl
     rw [flat_len h1,flat_len h2,hfl,hle]
    have htl : (toEF l).top l.length = cntK l l.length:=toEF_top l (Nat.le_refl _)
    refine fin_RCw (wk_fold (l.length + 1) 2 1000000 5 (l.map eD) (filK (keyE l) zED l.length l.length) (keyC l) [] (by ((conv=>lhs; simp (disch:=omega) only [go_sem]); try rfl)) (by decide) (by rw [hle]; exact (by ((conv=>lhs; simp (disch:=omega) only [go_sem]); try rfl))) (by decide) (by ((conv=>lhs; simp (disch:=omega) only [go_sem]); try rfl)) hm0 (hfl.trans hle.symm) (fun e he=>?_) hflt (fun j d hj=>?_) ?_ ?_ (fun it hit hne=>(by cases hit)) ?_ ?_ (Nat.zero_le _)) ?_
    ·obtain ⟨x,_,rfl⟩:=List.mem_map.1 he
     rw [eD_eq]; rfl
    ·have h1:=cells_eD (keyC l) l 0 j d hj
     rw [hfa]
     rw [Nat.mul_zero,Nat.zero_add] at h1
     exact h1
    ·rw [toEF_all,List.append_nil]
    ·rw [toEF_end,htl]
    ·rw [toEF_topE,htl]
    ·rw [toEF_topE]; omega
    ·rw [htl,hle]
     refine fin_RC (by ((conv=>lhs; simp (disch:=omega) only [go_sem]); try rfl)) ?_ (by ((conv=>lhs; simp (disch:=omega) only [go_sem]); try rfl))
     repeat' (first|(conv in hold _=>simp (disch:=omega) only [go_sem])|exact trivial|exact Sub.refl _|omega)
theorem toExpr_rc : ∀ e : E,esz e ≤ 1048577 → RCalls Try.prog 10 [] [eD e] [⟨0,5,e.ks.map eD⟩] (nk e) (eK 0 e):=by
 refine E.ind (fun e ih h=>?_)
 by_cases h0 : e.ks = []
 ·rw [eK_leaf h0]
  exact rcalls_nil (toExpr_ok e h) (by rw [D.purL,D.purL,eD_pur]; rfl) (eD_pur e) (fun it hit=>by
   obtain rfl:=List.mem_singleton.1 hit
   show e.ks.map eD = []
   rw [h0]; rfl)
 rw [esz_eq] at h
 have hk:=toExprS_rc e.ks (by omega) h0 (fun x hx=>ih x hx (by have:=eszL_mem hx; omega))
 have hv:=toValue_ok e.v
 have hn : nk e = 1:=if_neg h0
 have hm0 : e.ks.map eD ≠ []:=fun h=>h0 (List.map_eq_nil_iff.1 h)
 have hkD : kD 0 5 (e.ks.map eD) = .kow 0 5 e.ks.length:=by unfold kD; rw [if_neg hm0,List.length_map]
 let fm : Fm:=⟨fun i=>i,fun i=>if i = 0 then [] else [⟨0,5,e.ks.map eD⟩]⟩
 rw [hn]
 refine rcalls_of c_Z32 mixed fm 0 1 (fun κ=>if κ = 0 then 0 else 2000000) (Nat.le_of_ble_eq_true rfl) (eK_low _ _) rfl (List.Perm.refl _) (List.Perm.refl _) (fun it hit _=>?_) (fun κ h=>absurd h (Nat.not_lt_zero κ)) (fun κ hκ=>?_) (Nat.zero_le _) (by omega) (fun m0=>?_)
 ·obtain rfl:=List.mem_singleton.1 hit
  exact Nat.zero_lt_one
 ·show nb ≤ if κ = 0 then _ else 2000000
  rw [if_neg (by omega)]; decide
 ·rw [eK_rk]
  conv=>arg 3; whnf
  repeat' ((fail_if_success (with_reducible first | refine s_call ?_ | refine s_cal ?_ | refine s_inv ?_)); first | with_reducible refine acc_none ?_ | (conv in hold _=>simp (disch:=omega) only [go_sem])|refine Stp.go ?_|(with_reducible first|refine it_pos rfl ?_|refine it_neg (by decide) ?_|refine st_nil rfl ?_|refine s_op ?_ ?_|exact trivial)|((with_reducible first|refine dw_reg0 ?_|refine dw_regB ?_);(conv=>arg 3;whnf))|(refine Spl.go (fun hq he=>?_) (fun hq he=>?_)<;>first|(exfalso;clear hq;omega)|((try first|(conv=>arg 8;simp only [hq])|(conv=>arg 4;simp only [hq]));clear hq))|((with_reducible first|refine c_split (fun hq=>?_) (fun hq=>?_)|refine q_split (fun hq=>?_) (fun hq=>?_))<;>(try first|(conv=>arg 8;simp only [hq])|(conv=>arg 4;simp only [hq])))|(with_reducible refine fin_0 ?_ (by first|rfl|(conv=>lhs;simp only [go_sem])) ?_)|exact Sub.refl _|omega)
  refine s_call ?_
  refine c_doesE (hv) ?_ ?_ ?_
  ·((try (conv=>rhs;simp (disch:=omega) only [go_sem])); try rfl)
  ·first|rfl|(conv=>lhs;simp only [go_sem])
  repeat' ((fail_if_success (with_reducible first | refine s_call ?_ | refine s_cal ?_ | refine s_inv ?_)); first | with_reducible refine acc_none ?_ | (conv in hold _=>simp (disch:=omega) only [go_sem])|refine Stp.go ?_|(with_reducible first|refine it_pos rfl ?_|refine it_neg (by decide) ?_|refine st_nil rfl ?_|refine s_op ?_ ?_|exact trivial)|((with_reducible first|refine dw_reg0 ?_|refine dw_regB ?_);(conv=>arg 3;whnf))|(refine Spl.go (fun hq he=>?_) (fun hq he=>?_)<;>first|(exfalso;clear hq;omega)|((try first|(conv=>arg 8;simp only [hq])|(conv=>arg 4;simp only [hq]));clear hq))|((with_reducible first|refine c_split (fun hq=>?_) (fun hq=>?_)|refine q_split (fun hq=>?_) (fun hq=>?_))<;>(try first|(conv=>arg 8;simp only [hq])|(conv=>arg 4;simp only [hq])))|(with_reducible refine fin_0 ?_ (by first|rfl|(conv=>lhs;simp only [go_sem])) ?_)|exact Sub.refl _|omega)
  refine s_rcall 1 [] [] hk (by ((conv=>lhs; simp (disch:=omega) only [go_sem]); try rfl)) (by ((conv=>lhs; simp (disch:=omega) only [go_sem]); try rfl)) rfl (rr:=.kow 0 5 e.ks.length) (by rw [kD_rk]; exact hkD) rfl (kD_low _ _ _) rfl (fun κ h=>absurd h (List.not_mem_nil)) (Nat.zero_le _) (List.Perm.refl _) (List.Perm.refl _) (fun it hit hne=>(by cases hit)) (fun it hit hne=>?_) (fun it hit hne=>(by cases hit)) (Nat.zero_le _) rfl (show 1 ≤ 900000 by omega) (Nat.zero_le _) ?_
  ·obtain rfl:=List.mem_singleton.1 hit
   exact Nat.zero_lt_one
  ·repeat' (first|with_reducible refine acc_none ?_ | (conv in hold _=>simp (disch:=omega) only [go_sem])|refine Stp.go ?_|(with_reducible first|refine it_pos rfl ?_|refine it_neg (by decide) ?_|refine st_nil rfl ?_|refine s_op ?_ ?_|exact trivial)|((with_reducible first|refine dw_reg0 ?_|refine dw_regB ?_);(conv=>arg 3;whnf))|(refine Spl.go (fun hq he=>?_) (fun hq he=>?_)<;>first|(exfalso;clear hq;omega)|((try first|(conv=>arg 8;simp only [hq])|(conv=>arg 4;simp only [hq]));clear hq))|((with_reducible first|refine c_split (fun hq=>?_) (fun hq=>?_)|refine q_split (fun hq=>?_) (fun hq=>?_))<;>(try first|(conv=>arg 8;simp only [hq])|(conv=>arg 4;simp only [hq])))|(with_reducible refine fin_0 ?_ (by first|rfl|(conv=>lhs;simp only [go_sem])) ?_)|exact Sub.refl _|omega)
   rw [show (if 0 = 0 then 0 else 2000000) = 0 from rfl,eK,hkD]
   refine fin_RC (by ((conv=>lhs; simp (disch:=omega) only [go_sem]); try rfl)) ?_ (by ((conv=>lhs; simp (disch:=omega) only [go_sem]); try rfl))
   repeat' (first|(conv in hold _=>simp (disch:=omega) only [go_sem])|exact trivial|exact Sub.refl _|omega)
end Go.Proofs.Ytclkehekhdfnnaa
