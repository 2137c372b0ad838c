/-
  UnionAll at any arguments, its answer a tree of one's own. No condition.
-/
import Derived.Test.YtedmegmhjmabcaaKSDca
import Derived.Test.YtedmegmhjmabcaaKSDcc
import Derived.Test.YtedmegmhjmabcaaKSVUni
import Derived.Test.YtedmegmhjmabcaaKSVTbOX
set_option maxHeartbeats 4000000
set_option maxRecDepth 100000
set_option linter.unusedVariables false
set_option linter.unusedSimpArgs false
namespace Go.Proofs.Ytedmegmhjmabcaa
open Go.RowKit
theorem pre_fold {k p : Nat} {σ : Env} {fm : Fm} {m0 : Names} (k' t g s : Nat) (es es' : List D) (key : Nat → Nat) (rest : List It) (hgh : σ gh = .gho 0 [.fam (famOf fm p m0)] 0 k) (htn : t < gh) (ht : σ t = .own g s es.length) (hgn : nb ≤ g) (hg : σ g = .row s es') (h0 : es ≠ []) (hle' : es'.length = es.length)
  (hlen : ∀ (e : D),e ∈ es → e.cells.length = s) (hcl : (D.flat es').length = (D.flat es).length) (hcells : ∀ (j : Nat) (d : D),(D.flat es)[j]? = some d → treC d = true ∧ (D.flat es')[j]? = some (kC (key j) d))
  (hp1 : (fm.its k).Perm (itsC key 0 (D.flat es) ++ rest)) (hp2 : (fm.its k').Perm (⟨fm.top k,s,es⟩ :: rest)) (hr1 : ∀ it,it ∈ rest → it.es ≠ [] → it.κ < fm.top k) (htop : fm.top k' = fm.top k + 1) (hnb : fm.top k' ≤ 900000) (hpt : p ≤ fm.top k) :
  PreOK σ [(gh,.gho 0 [.fam (famOf fm p m0)] 0 k'),(g,.any),(t,.kow (fm.top k) s es.length)] [gh,t,g] [gh,g,t]:=by
 refine ⟨fun q hq=>?_,fun G τ a x hag hR=>?_⟩
 ·simp only [List.mem_cons,List.not_mem_nil,or_false] at hq
  rcases hq with rfl | rfl | rfl <;> simp
 ·exact wk_fold k' t g s es es' key rest ((hag gh (by simp)).trans hgh) htn ((hag t (by simp)).trans ht) hgn ((hag g (by simp)).trans hg) h0 hle' hlen hcl hcells hp1 hp2 hr1 htop hnb hpt G a x rfl hR
theorem pre_unfold {k p : Nat} {σ : Env} {fm : Fm} {m0 : Names} (k' t g κ s : Nat) (es es' : List D) (rest : List It) (hgh : σ gh = .gho 0 [.fam (famOf fm p m0)] 0 k) (htn : t < gh) (ht : σ t = .kow κ s es.length) (hgn : nb ≤ g) (hg : σ g = .free) (h0 : es ≠ []) (hle' : es'.length = es.length)
  (hlen' : ∀ (e : D),e ∈ es' → e.cells.length = s) (hcl : (D.flat es').length = (D.flat es).length) (hcells : ∀ (j : Nat) (d : D),(D.flat es)[j]? = some d → treC d = true ∧ (D.flat es')[j]? = some (kC (fm.top k + j) d))
  (hp1 : (fm.its k).Perm (⟨κ,s,es⟩ :: rest)) (hp2 : (fm.its k').Perm (itsC (fm.top k + ·) 0 (D.flat es) ++ rest)) (hr1 : ∀ it,it ∈ rest → it.es ≠ [] → it.κ < fm.top k) (htop : fm.top k' = fm.top k + (D.flat es).length) (hnb : fm.top k' ≤ 900000) (hpt : p ≤ fm.top k) :
  PreOK σ [(gh,.gho 0 [.fam (famOf fm p m0)] 0 k'),(g,.row s es'),(t,.own g s es.length)] [gh,t,g] [gh,g,t]:=by
 refine ⟨fun q hq=>?_,fun G τ a x hag hR=>?_⟩
 ·simp only [List.mem_cons,List.not_mem_nil,or_false] at hq
  rcases hq with rfl | rfl | rfl <;> simp
 ·exact wk_unfold k' t g κ s es es' rest ((hag gh (by simp)).trans hgh) htn ((hag t (by simp)).trans ht) hgn ((hag g (by simp)).trans hg) h0 hle' hlen' hcl hcells hp1 hp2 hr1 htop hnb hpt G a x rfl hR
theorem itsC_app (key : Nat → Nat) : ∀ (a b : List D) (j : Nat),itsC key j (a ++ b) = itsC key j a ++ itsC key (j + a.length) b
 | [],b,j=>rfl
 | d :: a,b,j=>by rw [List.cons_append,itsC,itsC,itsC_app key a b,List.append_assoc,List.length_cons,show j + 1 + a.length = j + (a.length + 1) by omega]
theorem flat_rows : ∀ l : List (List V),D.flat (l.map rowD) = l.map rowD
 | []=>rfl
 | r :: l=>by
  have ih:=flat_rows l
  unfold D.flat at ih ⊢
  rw [List.map_cons,List.flatMap_cons,ih]; rfl
def unfR : Nat → List (List V) → List D
 | _,[]=>[]
 | t,r :: l=>kD t 2 (r.map vD) :: unfR (t + 1) l
theorem unfR_len : ∀ (l : List (List V)) (t : Nat),(unfR t l).length = l.length
 | [],_=>rfl
 | r :: l,t=>by rw [unfR,List.length_cons,unfR_len l,List.length_cons]
theorem unfR_app : ∀ (a b : List (List V)) (t : Nat),unfR t (a ++ b) = unfR t a ++ unfR (t + a.length) b
 | [],b,t=>rfl
 | r :: a,b,t=>by rw [List.cons_append,unfR,unfR,unfR_app a b,List.cons_append,List.length_cons,show t + 1 + a.length = t + (a.length + 1) by omega]
theorem unfR_flat : ∀ (l : List (List V)) (t : Nat),D.flat (unfR t l) = unfR t l
 | [],_=>rfl
 | r :: l,t=>by
  have ih:=unfR_flat l (t + 1)
  unfold D.flat at ih ⊢
  rw [unfR,List.flatMap_cons,ih,kD_cells]; rfl
theorem unfR_cells : ∀ (l : List (List V)) (t : Nat) (e : D),e ∈ unfR t l → e.cells.length = 1
 | [],_,e,h=>by cases h
 | r :: l,t,e,h=>by
  rw [unfR] at h
  rcases List.mem_cons.1 h with rfl | h
  ·rw [kD_cells]; rfl
  ·exact unfR_cells l (t + 1) e h
theorem unfR_at : ∀ {l : List (List V)} {t j : Nat} {d : D},(l.map rowD)[j]? = some d → treC d = true ∧ (unfR t l)[j]? = some (kC (t + j) d)
 | [],t,j,d,h=>by simp at h
 | r :: l,t,0,d,h=>by
  obtain rfl : rowD r = d:=by simpa using h
  exact ⟨rfl,rfl⟩
 | r :: l,t,j + 1,d,h=>by
  have ih:=unfR_at (t:=t + 1) (show (l.map rowD)[j]? = some d by simpa using h)
  refine ⟨ih.1,?_⟩
  rw [unfR,List.getElem?_cons_succ,ih.2,show t + 1 + j = t + (j + 1) by omega]
theorem unf_hc (t : Nat) (l : List (List V)) : ∀ (j : Nat) (d : D),(D.flat (l.map rowD))[j]? = some d → treC d = true ∧ (D.flat (unfR t l))[j]? = some (kC (t + j) d):=fun j d h=>by
 rw [flat_rows] at h
 rw [unfR_flat]
 exact unfR_at h
theorem itsC_lt (t : Nat) : ∀ (l : List D) (j : Nat) (it : It),it ∈ itsC (t + ·) j l → it.κ < t + j + l.length
 | [],_,it,h=>by cases h
 | d :: l,j,it,h=>by
  rw [itsC] at h
  rw [List.length_cons]
  rcases List.mem_append.1 h with h | h
  ·cases d with
   | sl s es=>
    obtain rfl:=List.mem_singleton.1 h
    show t + j < _; omega
   | _=>cases h
  ·have:=itsC_lt t l (j + 1) it h
   omega
def uF (A B : List (List V)) : Fm where
 top i:=match i with | 0=>0 | 1=>1 | 2=>2 | 3=>2 + A.length | 4=>2 + A.length + B.length | _=>2 + A.length + B.length + 1
 its i:=match i with
  | 0=>[]
  | 1=>[⟨0,1,A.map rowD⟩]
  | 2=>[⟨1,1,B.map rowD⟩,⟨0,1,A.map rowD⟩]
  | 3=>itsC (2 + ·) 0 (A.map rowD) ++ [⟨1,1,B.map rowD⟩]
  | 4=>itsC (2 + A.length + ·) 0 (B.map rowD) ++ itsC (2 + ·) 0 (A.map rowD)
  | 5=>[⟨2 + A.length + B.length,1,(A ++ B).map rowD⟩]
  | _=>[⟨2 + A.length + B.length,1,(srt (A ++ B)).map rowD⟩]
theorem uF_fold (A B : List (List V)) : ((uF A B).its 4).Perm (itsC (2 + ·) 0 (D.flat ((A ++ B).map rowD)) ++ []):=by
 rw [flat_rows,List.append_nil,List.map_append,itsC_app,Nat.zero_add]
 show (itsC (2 + A.length + ·) 0 (B.map rowD) ++ itsC (2 + ·) 0 (A.map rowD)).Perm _
 have e : itsC (2 + ·) (A.map rowD).length (B.map rowD) = itsC (2 + A.length + ·) 0 (B.map rowD):=itsC_shift _ _ _ 0 _ (fun i _=>by
  show 2 + ((A.map rowD).length + i) = 2 + A.length + (0 + i)
  rw [List.length_map]; omega)
 rw [e]
 exact List.perm_append_comm
theorem UnionAll_rc_both {a b : Ta} (ha : rsz a.rows ≤ 1048576) (hb : rsz b.rows ≤ 1048576) (h : sameT a b) (hl : a.rows.length + b.rows.length ≤ 400) (hA : a.rows ≠ []) (hB : b.rows ≠ []) :
  RCalls Try.prog 54 [] [taD a,taD b] [⟨0,1,(srt (a.rows ++ b.rows)).map rowD⟩] 1 (.tup [tK 0 ⟨a.w,srt (a.rows ++ b.rows)⟩,Bo true]):=by
 have h1:=haveSameWidth_ok a b ha hb
 rw [decide_eq_true h] at h1
 obtain ⟨w,hw,hw6,hra,_,hla⟩:=tOk_nat h.1
 obtain ⟨w',hw',_,hrb,_,hlb⟩:=tOk_nat h.2.1
 obtain rfl : w = w':=by have:=h.2.2; omega
 obtain ⟨aw,A⟩:=a
 obtain ⟨bw,B⟩:=b
 simp only at hw hw' hra hrb hla hlb hl hA hB ⊢
 have h2:=cloneRows_rc A (fun r hm=>by have:=(hra r hm).1; omega) (by omega)
 have h3:=cloneRows_rc B (fun r hm=>by have:=(hrb r hm).1; omega) (by omega)
 have h4:=sortedTable_rc w (by omega) (A ++ B) (rsw_app hra hrb) (by rw [List.length_append]; omega)
 rw [← hw] at h4
 have hn1 : nb = 1000000:=rfl
 have hmA : A.map rowD ≠ []:=fun e=>hA (List.map_eq_nil_iff.1 e)
 have hmB : B.map rowD ≠ []:=fun e=>hB (List.map_eq_nil_iff.1 e)
 have hmC : (A ++ B).map rowD ≠ []:=fun e=>hA (List.append_eq_nil_iff.1 (List.map_eq_nil_iff.1 e)).1
 have kA : ∀ κ,kD κ 1 (A.map rowD) = .kow κ 1 A.length:=fun κ=>by unfold kD; rw [if_neg hmA,List.length_map]
 have kB : ∀ κ,kD κ 1 (B.map rowD) = .kow κ 1 B.length:=fun κ=>by unfold kD; rw [if_neg hmB,List.length_map]
 have kC' : ∀ κ,kD κ 1 ((A ++ B).map rowD) = .kow κ 1 (A ++ B).length:=fun κ=>by unfold kD; rw [if_neg hmC,List.length_map]
 have kS : ∀ κ,kD κ 1 ((srt (A ++ B)).map rowD) = .kow κ 1 (A ++ B).length:=fun κ=>(kD_srt κ _).trans (kC' κ)
 have lA : (A.map rowD).length = A.length:=List.length_map ..
 have lB : (B.map rowD).length = B.length:=List.length_map ..
 have lC : ((A ++ B).map rowD).length = A.length + B.length:=by rw [List.length_map,List.length_append]
 have uA:=unfR_len A 2
 have uB:=unfR_len B (2 + A.length)
 have tA : (unfR 2 A).take A.length = unfR 2 A:=List.take_of_length_le (Nat.le_of_eq uA)
 have tB : (unfR (2 + A.length) B).take B.length = unfR (2 + A.length) B:=List.take_of_length_le (Nat.le_of_eq uB)
 refine rcalls_of c_Z30 mixed (uF A B) 0 6 (fun κ=>if κ = 0 then 2 + A.length + B.length else 2000000) (Nat.le_of_ble_eq_true rfl) (by rw [D.low,D.lowL,tK_low]; rfl) rfl (List.Perm.refl _) (List.Perm.refl _) (fun it hit _=>?_) (fun κ h=>absurd h (Nat.not_lt_zero κ)) (fun κ hκ=>?_) (Nat.zero_le _) (by omega) (fun m0=>?_)
 ·obtain rfl:=List.mem_singleton.1 hit
  exact Nat.zero_lt_one
 ·show nb ≤ if κ = 0 then _ else 2000000
  rw [if_neg (by omega)]; decide
 have e : (D.tup [tK 0 ⟨aw,srt (A ++ B)⟩,Bo true]).rk (fun κ=>if κ = 0 then 2 + A.length + B.length else 2000000) = .tup [.agg [I aw,.kow (2 + A.length + B.length) 1 (A.length + B.length)],Bo true]:=by
  rw [D.rk,D.rkL,tK_rk,if_pos rfl]
  unfold tK
  rw [kS,List.length_append]; rfl
 rw [e]
 conv=>arg 3; whnf
 repeat' (first|with_reducible refine acc_none ?_ | (conv in hold _=>simp (disch:=omega) only [go_sem])|refine Stp.go ?_|(with_reducible first|refine it_pos rfl ?_|refine it_neg (by decide) ?_|refine st_nil rfl ?_|refine s_op ?_ ?_|exact trivial)|((with_reducible first|refine dw_reg0 ?_|refine dw_regB ?_);(conv=>arg 3;whnf))|(refine Spl.go (fun hq he=>?_) (fun hq he=>?_)<;>first|(exfalso;clear hq;omega)|((try first|(conv=>arg 8;simp only [hq])|(conv=>arg 4;simp only [hq]));clear hq))|((with_reducible first|refine c_split (fun hq=>?_) (fun hq=>?_)|refine q_split (fun hq=>?_) (fun hq=>?_))<;>(try first|(conv=>arg 8;simp only [hq])|(conv=>arg 4;simp only [hq])))|(with_reducible refine fin_0 ?_ (by first|rfl|(conv=>lhs;simp only [go_sem])) ?_)|exact Sub.refl _|omega)
 refine c_doesE (h1) ?_ ?_ ?_
 ·((try (conv=>rhs;simp (disch:=omega) only [go_sem])); try rfl)
 ·first|rfl|(conv=>lhs;simp only [go_sem])
 repeat' ((fail_if_success (with_reducible first | refine s_call ?_ | refine s_cal ?_ | refine s_inv ?_)); first | with_reducible refine acc_none ?_ | (conv in hold _=>simp (disch:=omega) only [go_sem])|refine Stp.go ?_|(with_reducible first|refine it_pos rfl ?_|refine it_neg (by decide) ?_|refine st_nil rfl ?_|refine s_op ?_ ?_|exact trivial)|((with_reducible first|refine dw_reg0 ?_|refine dw_regB ?_);(conv=>arg 3;whnf))|(refine Spl.go (fun hq he=>?_) (fun hq he=>?_)<;>first|(exfalso;clear hq;omega)|((try first|(conv=>arg 8;simp only [hq])|(conv=>arg 4;simp only [hq]));clear hq))|((with_reducible first|refine c_split (fun hq=>?_) (fun hq=>?_)|refine q_split (fun hq=>?_) (fun hq=>?_))<;>(try first|(conv=>arg 8;simp only [hq])|(conv=>arg 4;simp only [hq])))|(with_reducible refine fin_0 ?_ (by first|rfl|(conv=>lhs;simp only [go_sem])) ?_)|exact Sub.refl _|omega)
 refine s_rcall (fm:=uF A B) (p:=0) (m0:=m0) (k:=0) 1 [] [] h2 (by ((conv=>lhs; simp (disch:=omega) only [go_sem]); try rfl)) (by ((conv=>lhs; simp (disch:=omega) only [go_sem]); try rfl)) rfl ((kD_rk _ _ _ _).trans (kA _)) rfl (kD_low _ _ _) rfl (fun κ h=>(by cases h)) (Nat.zero_le _) (List.Perm.refl _) (List.Perm.refl _) (fun it hit hne=>(by cases hit)) (fun it hit hne=>?_) (fun it hit hne=>(by cases hit)) (Nat.zero_le _) rfl (show 1 ≤ 900000 by omega) (Nat.zero_le _) ?_
 ·obtain rfl:=List.mem_singleton.1 hit
  exact Nat.zero_lt_one
 repeat' ((fail_if_success (with_reducible first | refine s_call ?_ | refine s_cal ?_ | refine s_inv ?_)); first | with_reducible refine acc_none ?_ | (conv in hold _=>simp (disch:=omega) only [go_sem])|refine Stp.go ?_|(with_reducible first|refine it_pos rfl ?_|refine it_neg (by decide) ?_|refine st_nil rfl ?_|refine s_op ?_ ?_|exact trivial)|((with_reducible first|refine dw_reg0 ?_|refine dw_regB ?_);(conv=>arg 3;whnf))|(refine Spl.go (fun hq he=>?_) (fun hq he=>?_)<;>first|(exfalso;clear hq;omega)|((try first|(conv=>arg 8;simp only [hq])|(conv=>arg 4;simp only [hq]));clear hq))|((with_reducible first|refine c_split (fun hq=>?_) (fun hq=>?_)|refine q_split (fun hq=>?_) (fun hq=>?_))<;>(try first|(conv=>arg 8;simp only [hq])|(conv=>arg 4;simp only [hq])))|(with_reducible refine fin_0 ?_ (by first|rfl|(conv=>lhs;simp only [go_sem])) ?_)|exact Sub.refl _|omega)
 refine s_rcall (fm:=uF A B) (p:=0) (m0:=m0) (k:=1) 2 [] [⟨0,1,A.map rowD⟩] h3 (by ((conv=>lhs; simp (disch:=omega) only [go_sem]); try rfl)) (by ((conv=>lhs; simp (disch:=omega) only [go_sem]); try rfl)) rfl ((kD_rk _ _ _ _).trans (kB _)) rfl (kD_low _ _ _) rfl (fun κ h=>(by cases h)) (Nat.zero_le _) (List.Perm.refl _) (List.Perm.refl _) (fun it hit hne=>(by cases hit)) (fun it hit hne=>?_) (fun it hit hne=>?_) (Nat.zero_le _) rfl (show 2 ≤ 900000 by omega) (Nat.zero_le _) ?_
 ·obtain rfl:=List.mem_singleton.1 hit
  exact Nat.zero_lt_one
 ·obtain rfl:=List.mem_singleton.1 hit
  exact Nat.zero_lt_one
 (conv in hold _=>simp (disch:=omega) only [go_sem])
 refine Stp.go ?_
 refine s_pre (pre_unfold (fm:=uF A B) (p:=0) (m0:=m0) (k:=2) 3 26 3000001 0 1 (A.map rowD) (unfR 2 A) [⟨1,1,B.map rowD⟩] rfl (by decide) (by rw [lA]; rfl) (by decide) rfl hmA (by rw [lA,uA]) (unfR_cells A 2) (by rw [unfR_flat,flat_rows,uA,lA]) (unf_hc 2 A) (List.Perm.swap _ _ _) (by rw [flat_rows]; exact List.Perm.refl _) (fun it hit hne=>?_) (by rw [flat_rows,lA]; rfl) (show 2 + A.length ≤ 900000 by omega) (Nat.zero_le _)) ?_
 ·obtain rfl:=List.mem_singleton.1 hit
  show 1 < 2; omega
 (conv in hold _=>simp (disch:=omega) only [go_sem,lA])
 refine s_pre (pre_unfold (fm:=uF A B) (p:=0) (m0:=m0) (k:=3) 4 29 3000002 1 1 (B.map rowD) (unfR (2 + A.length) B) (itsC (2 + ·) 0 (A.map rowD)) rfl (by decide) (by rw [lB]; rfl) (by decide) rfl hmB (by rw [lB,uB]) (unfR_cells B _) (by rw [unfR_flat,flat_rows,uB,lB]) (unf_hc (2 + A.length) B) List.perm_append_comm (by rw [flat_rows]; exact List.Perm.refl _) (fun it hit hne=>?_) (by rw [flat_rows,lB]; rfl) (show 2 + A.length + B.length ≤ 900000 by omega) (Nat.zero_le _)) ?_
 ·have:=itsC_lt 2 (A.map rowD) 0 it hit
  show it.κ < 2 + A.length
  omega
 (conv in hold _=>simp (disch:=omega) only [go_sem,lB])
 repeat' ((fail_if_success (with_reducible first | refine s_call ?_ | refine s_cal ?_ | refine s_inv ?_)); first | with_reducible refine acc_none ?_ | (conv in hold _=>simp (disch:=omega) only [go_sem,uA,uB,tA,tB])|refine Stp.go ?_|(with_reducible first|refine it_pos rfl ?_|refine it_neg (by decide) ?_|refine st_nil rfl ?_|refine s_op ?_ ?_|exact trivial)|((with_reducible first|refine dw_reg0 ?_|refine dw_regB ?_);(conv=>arg 3;whnf))|(refine Spl.go (fun hq he=>?_) (fun hq he=>?_)<;>first|(exfalso;clear hq;omega)|((try first|(conv=>arg 8;simp only [hq])|(conv=>arg 4;simp only [hq]));clear hq))|((with_reducible first|refine c_split (fun hq=>?_) (fun hq=>?_)|refine q_split (fun hq=>?_) (fun hq=>?_))<;>(try first|(conv=>arg 8;simp only [hq])|(conv=>arg 4;simp only [hq])))|(with_reducible refine fin_0 ?_ (by first|rfl|(conv=>lhs;simp only [go_sem,uA,uB,tA,tB])) ?_)|exact Sub.refl _|omega)
 refine s_pre (pre_fold (fm:=uF A B) (p:=0) (m0:=m0) (k:=4) 5 30 2000030 1 ((A ++ B).map rowD) (unfR 2 (A ++ B)) (2 + ·) [] rfl (by decide) (by rw [lC]; rfl) (by decide) (by rw [unfR_app]; rfl) hmC (by rw [unfR_len,List.length_map]) (fun e he=>(by obtain ⟨r,_,rfl⟩:=List.mem_map.1 he; rfl)) (by rw [unfR_flat,flat_rows,unfR_len,List.length_map]) (unf_hc 2 (A ++ B)) (uF_fold A B) (List.Perm.refl _) (fun it hit hne=>(by cases hit)) rfl (show 2 + A.length + B.length + 1 ≤ 900000 by omega) (Nat.zero_le _)) ?_
 (conv in hold _=>simp (disch:=omega) only [go_sem,List.length_map,List.length_append])
 refine s_rcall (fm:=uF A B) (p:=0) (m0:=m0) (k:=5) 6 [2 + A.length + B.length] [] h4 (by ((conv=>lhs; simp (disch:=omega) only [go_sem]); try rfl)) (by ((conv=>lhs; simp (disch:=omega) only [go_sem]); try rfl)) (show _ = [I aw,(kD 0 1 ((A ++ B).map rowD)).rk _] by rw [kD_rk,kC',List.length_append]; rfl) (rr:=.agg [I aw,.kow (2 + A.length + B.length) 1 (A.length + B.length)]) (by rw [tK_rk]; unfold tK; rw [kS,List.length_append]; rfl) (by rw [D.lowL,D.lowL,kD_low]; rfl) (tK_low _ _) rfl (fun κ h=>?_) (Nat.zero_le _) (List.Perm.refl _) (List.Perm.refl _) (fun it hit _=>?_) (fun it hit _=>?_) (fun it hit _=>(by cases hit)) (Nat.le_refl _) rfl (show 2 + A.length + B.length + 1 ≤ 900000 by omega) (show 1 ≤ 900000 by omega) ?_
 ·obtain rfl:=List.mem_singleton.1 h
  show 2 + A.length + B.length < 2 + A.length + B.length + 1
  omega
 ·obtain rfl:=List.mem_singleton.1 hit
  exact Nat.zero_lt_one
 ·obtain rfl:=List.mem_singleton.1 hit
  exact Nat.zero_lt_one
 repeat' (first|with_reducible refine acc_none ?_ | (conv in hold _=>simp (disch:=omega) only [go_sem])|refine Stp.go ?_|(with_reducible first|refine it_pos rfl ?_|refine it_neg (by decide) ?_|refine st_nil rfl ?_|refine s_op ?_ ?_|exact trivial)|((with_reducible first|refine dw_reg0 ?_|refine dw_regB ?_);(conv=>arg 3;whnf))|(refine Spl.go (fun hq he=>?_) (fun hq he=>?_)<;>first|(exfalso;clear hq;omega)|((try first|(conv=>arg 8;simp only [hq])|(conv=>arg 4;simp only [hq]));clear hq))|((with_reducible first|refine c_split (fun hq=>?_) (fun hq=>?_)|refine q_split (fun hq=>?_) (fun hq=>?_))<;>(try first|(conv=>arg 8;simp only [hq])|(conv=>arg 4;simp only [hq])))|(with_reducible refine fin_0 ?_ (by first|rfl|(conv=>lhs;simp only [go_sem])) ?_)|exact Sub.refl _|omega)
 refine fin_RC (by ((conv=>lhs; simp (disch:=omega) only [go_sem]); try rfl)) ?_ (by ((conv=>lhs; simp (disch:=omega) only [go_sem]); try rfl))
 repeat' (first|(conv in hold _=>simp (disch:=omega) only [go_sem])|exact trivial|exact Sub.refl _|omega)
def uF1 (R : List (List V)) : Fm where
 top i:=match i with | 0=>0 | 1=>1 | 2=>1 + R.length | 5=>1 | _=>1 + R.length + 1
 its i:=match i with
  | 0=>[]
  | 1=>[⟨0,1,R.map rowD⟩]
  | 2=>itsC (1 + ·) 0 (R.map rowD)
  | 3=>[⟨1 + R.length,1,R.map rowD⟩]
  | 5=>[⟨0,1,R.map rowD⟩]
  | _=>[⟨1 + R.length,1,(srt R).map rowD⟩]
theorem UnionAll_rc_A {a b : Ta} (ha : rsz a.rows ≤ 1048576) (hb : rsz b.rows ≤ 1048576) (h : sameT a b) (hl : a.rows.length + b.rows.length ≤ 400) (hA : a.rows ≠ []) (hB : b.rows = []) :
  RCalls Try.prog 54 [] [taD a,taD b] [⟨0,1,(srt (a.rows ++ b.rows)).map rowD⟩] 1 (.tup [tK 0 ⟨a.w,srt (a.rows ++ b.rows)⟩,Bo true]):=by
 have h1:=haveSameWidth_ok a b ha hb
 rw [decide_eq_true h] at h1
 obtain ⟨w,hw,hw6,hra,_,hla⟩:=tOk_nat h.1
 obtain ⟨w',hw',_,hrb,_,hlb⟩:=tOk_nat h.2.1
 obtain rfl : w = w':=by have:=h.2.2; omega
 obtain ⟨aw,A⟩:=a
 obtain ⟨bw,B⟩:=b
 simp only at hw hw' hra hrb hla hlb hl hA hB h1 ⊢
 subst hB
 rw [List.append_nil]
 have h2:=cloneRows_rc A (fun r hm=>by have:=(hra r hm).1; omega) (by omega)
 have h3:=cloneRows_none
 have h4:=sortedTable_rc w (by omega) A hra (by omega)
 rw [← hw] at h4
 have hn1 : nb = 1000000:=rfl
 have hmX : A.map rowD ≠ []:=fun e=>hA (List.map_eq_nil_iff.1 e)
 have kX : ∀ κ,kD κ 1 (A.map rowD) = .kow κ 1 A.length:=fun κ=>by unfold kD; rw [if_neg hmX,List.length_map]
 have kS : ∀ κ,kD κ 1 ((srt A).map rowD) = .kow κ 1 A.length:=fun κ=>(kD_srt κ _).trans (kX κ)
 have lX : (A.map rowD).length = A.length:=List.length_map ..
 have uX:=unfR_len A 1
 have tX : (unfR 1 A).take A.length = unfR 1 A:=List.take_of_length_le (Nat.le_of_eq uX)
 refine rcalls_of c_Z30 mixed (uF1 A) 0 4 (fun κ=>if κ = 0 then 1 + A.length else 2000000) (Nat.le_of_ble_eq_true rfl) (by rw [D.low,D.lowL,tK_low]; rfl) rfl (List.Perm.refl _) (List.Perm.refl _) (fun it hit _=>?_) (fun κ h=>absurd h (Nat.not_lt_zero κ)) (fun κ hκ=>?_) (Nat.zero_le _) (by omega) (fun m0=>?_)
 ·obtain rfl:=List.mem_singleton.1 hit
  exact Nat.zero_lt_one
 ·show nb ≤ if κ = 0 then _ else 2000000
  rw [if_neg (by omega)]; decide
 have e : (D.tup [tK 0 ⟨aw,srt A⟩,Bo true]).rk (fun κ=>if κ = 0 then 1 + A.length else 2000000) = .tup [.agg [I aw,.kow (1 + A.length) 1 A.length],Bo true]:=by
  rw [D.rk,D.rkL,tK_rk,if_pos rfl]
  unfold tK
  rw [kS]; rfl
 rw [e]
 conv=>arg 3; whnf
 repeat' (first|with_reducible refine acc_none ?_ | (conv in hold _=>simp (disch:=omega) only [go_sem])|refine Stp.go ?_|(with_reducible first|refine it_pos rfl ?_|refine it_neg (by decide) ?_|refine st_nil rfl ?_|refine s_op ?_ ?_|exact trivial)|((with_reducible first|refine dw_reg0 ?_|refine dw_regB ?_);(conv=>arg 3;whnf))|(refine Spl.go (fun hq he=>?_) (fun hq he=>?_)<;>first|(exfalso;clear hq;omega)|((try first|(conv=>arg 8;simp only [hq])|(conv=>arg 4;simp only [hq]));clear hq))|((with_reducible first|refine c_split (fun hq=>?_) (fun hq=>?_)|refine q_split (fun hq=>?_) (fun hq=>?_))<;>(try first|(conv=>arg 8;simp only [hq])|(conv=>arg 4;simp only [hq])))|(with_reducible refine fin_0 ?_ (by first|rfl|(conv=>lhs;simp only [go_sem])) ?_)|exact Sub.refl _|omega)
 refine c_doesE (h1) ?_ ?_ ?_
 ·((try (conv=>rhs;simp (disch:=omega) only [go_sem])); try rfl)
 ·first|rfl|(conv=>lhs;simp only [go_sem])
 repeat' ((fail_if_success (with_reducible first | refine s_call ?_ | refine s_cal ?_ | refine s_inv ?_)); first | with_reducible refine acc_none ?_ | (conv in hold _=>simp (disch:=omega) only [go_sem])|refine Stp.go ?_|(with_reducible first|refine it_pos rfl ?_|refine it_neg (by decide) ?_|refine st_nil rfl ?_|refine s_op ?_ ?_|exact trivial)|((with_reducible first|refine dw_reg0 ?_|refine dw_regB ?_);(conv=>arg 3;whnf))|(refine Spl.go (fun hq he=>?_) (fun hq he=>?_)<;>first|(exfalso;clear hq;omega)|((try first|(conv=>arg 8;simp only [hq])|(conv=>arg 4;simp only [hq]));clear hq))|((with_reducible first|refine c_split (fun hq=>?_) (fun hq=>?_)|refine q_split (fun hq=>?_) (fun hq=>?_))<;>(try first|(conv=>arg 8;simp only [hq])|(conv=>arg 4;simp only [hq])))|(with_reducible refine fin_0 ?_ (by first|rfl|(conv=>lhs;simp only [go_sem])) ?_)|exact Sub.refl _|omega)
 refine s_rcall (fm:=uF1 A) (p:=0) (m0:=m0) (k:=0) 1 [] [] h2 (by ((conv=>lhs; simp (disch:=omega) only [go_sem]); try rfl)) (by ((conv=>lhs; simp (disch:=omega) only [go_sem]); try rfl)) rfl ((kD_rk _ _ _ _).trans (kX _)) rfl (kD_low _ _ _) rfl (fun κ h=>(by cases h)) (Nat.zero_le _) (List.Perm.refl _) (List.Perm.refl _) (fun it hit hne=>(by cases hit)) (fun it hit hne=>?_) (fun it hit hne=>(by cases hit)) (Nat.zero_le _) rfl (show 1 ≤ 900000 by omega) (Nat.zero_le _) ?_
 ·obtain rfl:=List.mem_singleton.1 hit
  exact Nat.zero_lt_one
 repeat' ((fail_if_success (with_reducible first | refine s_call ?_ | refine s_cal ?_ | refine s_inv ?_)); first | with_reducible refine acc_none ?_ | (conv in hold _=>simp (disch:=omega) only [go_sem])|refine Stp.go ?_|(with_reducible first|refine it_pos rfl ?_|refine it_neg (by decide) ?_|refine st_nil rfl ?_|refine s_op ?_ ?_|exact trivial)|((with_reducible first|refine dw_reg0 ?_|refine dw_regB ?_);(conv=>arg 3;whnf))|(refine Spl.go (fun hq he=>?_) (fun hq he=>?_)<;>first|(exfalso;clear hq;omega)|((try first|(conv=>arg 8;simp only [hq])|(conv=>arg 4;simp only [hq]));clear hq))|((with_reducible first|refine c_split (fun hq=>?_) (fun hq=>?_)|refine q_split (fun hq=>?_) (fun hq=>?_))<;>(try first|(conv=>arg 8;simp only [hq])|(conv=>arg 4;simp only [hq])))|(with_reducible refine fin_0 ?_ (by first|rfl|(conv=>lhs;simp only [go_sem])) ?_)|exact Sub.refl _|omega)
 refine s_rcall (fm:=uF1 A) (p:=0) (m0:=m0) (k:=1) 5 [] [⟨0,1,A.map rowD⟩] (rcalls_nil (post:=[]) (top':=0) h3 rfl rfl (fun it hit=>by cases hit)) (by ((conv=>lhs; simp (disch:=omega) only [go_sem]); try rfl)) (by ((conv=>lhs; simp (disch:=omega) only [go_sem]); try rfl)) rfl (rr:=.nul) rfl rfl rfl rfl (fun κ h=>(by cases h)) (Nat.zero_le _) (List.Perm.refl _) (List.Perm.refl _) (fun it hit hne=>(by cases hit)) (fun it hit hne=>(by cases hit)) (fun it hit hne=>?_) (Nat.zero_le _) rfl (show 1 ≤ 900000 by omega) (Nat.zero_le _) ?_
 ·obtain rfl:=List.mem_singleton.1 hit
  exact Nat.zero_lt_one
 (conv in hold _=>simp (disch:=omega) only [go_sem])
 refine Stp.go ?_
 refine s_pre (pre_unfold (fm:=uF1 A) (p:=0) (m0:=m0) (k:=5) 2 26 3000001 0 1 (A.map rowD) (unfR 1 A) [] rfl (by decide) (by rw [lX]; rfl) (by decide) rfl hmX (by rw [lX,uX]) (unfR_cells A 1) (by rw [unfR_flat,flat_rows,uX,lX]) (unf_hc 1 A) (List.Perm.refl _) (by rw [flat_rows,List.append_nil]; exact List.Perm.refl _) (fun it hit hne=>(by cases hit)) (by rw [flat_rows,lX]; rfl) (show 1 + A.length ≤ 900000 by omega) (Nat.zero_le _)) ?_
 (conv in hold _=>simp (disch:=omega) only [go_sem,lX])
 repeat' ((fail_if_success (with_reducible first | refine s_call ?_ | refine s_cal ?_ | refine s_inv ?_)); first | with_reducible refine acc_none ?_ | (conv in hold _=>simp (disch:=omega) only [go_sem,uX,tX])|refine Stp.go ?_|(with_reducible first|refine it_pos rfl ?_|refine it_neg (by decide) ?_|refine st_nil rfl ?_|refine s_op ?_ ?_|exact trivial)|((with_reducible first|refine dw_reg0 ?_|refine dw_regB ?_);(conv=>arg 3;whnf))|(refine Spl.go (fun hq he=>?_) (fun hq he=>?_)<;>first|(exfalso;clear hq;omega)|((try first|(conv=>arg 8;simp only [hq])|(conv=>arg 4;simp only [hq]));clear hq))|((with_reducible first|refine c_split (fun hq=>?_) (fun hq=>?_)|refine q_split (fun hq=>?_) (fun hq=>?_))<;>(try first|(conv=>arg 8;simp only [hq])|(conv=>arg 4;simp only [hq])))|(with_reducible refine fin_0 ?_ (by first|rfl|(conv=>lhs;simp only [go_sem,uX,tX])) ?_)|exact Sub.refl _|omega)
 refine s_pre (pre_fold (fm:=uF1 A) (p:=0) (m0:=m0) (k:=2) 3 30 2000030 1 (A.map rowD) (unfR 1 A) (1 + ·) [] rfl (by decide) (by rw [lX]; rfl) (by decide) rfl hmX (by rw [uX,lX]) (fun e he=>(by obtain ⟨r,_,rfl⟩:=List.mem_map.1 he; rfl)) (by rw [unfR_flat,flat_rows,uX,lX]) (unf_hc 1 A) (by rw [flat_rows,List.append_nil]; exact List.Perm.refl _) (List.Perm.refl _) (fun it hit hne=>(by cases hit)) rfl (show 1 + A.length + 1 ≤ 900000 by omega) (Nat.zero_le _)) ?_
 (conv in hold _=>simp (disch:=omega) only [go_sem,List.length_map,List.length_append])
 refine s_rcall (fm:=uF1 A) (p:=0) (m0:=m0) (k:=3) 4 [1 + A.length] [] h4 (by ((conv=>lhs; simp (disch:=omega) only [go_sem]); try rfl)) (by ((conv=>lhs; simp (disch:=omega) only [go_sem]); try rfl)) (show _ = [I aw,(kD 0 1 (A.map rowD)).rk _] by rw [kD_rk,kX]; rfl) (rr:=.agg [I aw,.kow (1 + A.length) 1 A.length]) (by rw [tK_rk]; unfold tK; rw [kS]; rfl) (by rw [D.lowL,D.lowL,kD_low]; rfl) (tK_low _ _) rfl (fun κ h=>?_) (Nat.zero_le _) (List.Perm.refl _) (List.Perm.refl _) (fun it hit _=>?_) (fun it hit _=>?_) (fun it hit _=>(by cases hit)) (Nat.le_refl _) rfl (show 1 + A.length + 1 ≤ 900000 by omega) (show 1 ≤ 900000 by omega) ?_
 ·obtain rfl:=List.mem_singleton.1 h
  show 1 + A.length < 1 + A.length + 1
  omega
 ·obtain rfl:=List.mem_singleton.1 hit
  exact Nat.zero_lt_one
 ·obtain rfl:=List.mem_singleton.1 hit
  exact Nat.zero_lt_one
 repeat' (first|with_reducible refine acc_none ?_ | (conv in hold _=>simp (disch:=omega) only [go_sem])|refine Stp.go ?_|(with_reducible first|refine it_pos rfl ?_|refine it_neg (by decide) ?_|refine st_nil rfl ?_|refine s_op ?_ ?_|exact trivial)|((with_reducible first|refine dw_reg0 ?_|refine dw_regB ?_);(conv=>arg 3;whnf))|(refine Spl.go (fun hq he=>?_) (fun hq he=>?_)<;>first|(exfalso;clear hq;omega)|((try first|(conv=>arg 8;simp only [hq])|(conv=>arg 4;simp only [hq]));clear hq))|((with_reducible first|refine c_split (fun hq=>?_) (fun hq=>?_)|refine q_split (fun hq=>?_) (fun hq=>?_))<;>(try first|(conv=>arg 8;simp only [hq])|(conv=>arg 4;simp only [hq])))|(with_reducible refine fin_0 ?_ (by first|rfl|(conv=>lhs;simp only [go_sem])) ?_)|exact Sub.refl _|omega)
 refine fin_RC (by ((conv=>lhs; simp (disch:=omega) only [go_sem]); try rfl)) ?_ (by ((conv=>lhs; simp (disch:=omega) only [go_sem]); try rfl))
 repeat' (first|(conv in hold _=>simp (disch:=omega) only [go_sem])|exact trivial|exact Sub.refl _|omega)
theorem UnionAll_rc_B {a b : Ta} (ha : rsz a.rows ≤ 1048576) (hb : rsz b.rows ≤ 1048576) (h : sameT a b) (hl : a.rows.length + b.rows.length ≤ 400) (hA : a.rows = []) (hB : b.rows ≠ []) :
  RCalls Try.prog 54 [] [taD a,taD b] [⟨0,1,(srt (a.rows ++ b.rows)).map rowD⟩] 1 (.tup [tK 0 ⟨a.w,srt (a.rows ++ b.rows)⟩,Bo true]):=by
 have h1:=haveSameWidth_ok a b ha hb
 rw [decide_eq_true h] at h1
 obtain ⟨w,hw,hw6,hra,_,hla⟩:=tOk_nat h.1
 obtain ⟨w',hw',_,hrb,_,hlb⟩:=tOk_nat h.2.1
 obtain rfl : w = w':=by have:=h.2.2; omega
 obtain ⟨aw,A⟩:=a
 obtain ⟨bw,B⟩:=b
 simp only at hw hw' hra hrb hla hlb hl hA hB h1 ⊢
 subst hA
 rw [List.nil_append]
 have h2:=cloneRows_rc B (fun r hm=>by have:=(hrb r hm).1; omega) (by omega)
 have h3:=cloneRows_none
 have h4:=sortedTable_rc w (by omega) B hrb (by omega)
 rw [← hw] at h4
 have hn1 : nb = 1000000:=rfl
 have hmX : B.map rowD ≠ []:=fun e=>hB (List.map_eq_nil_iff.1 e)
 have kX : ∀ κ,kD κ 1 (B.map rowD) = .kow κ 1 B.length:=fun κ=>by unfold kD; rw [if_neg hmX,List.length_map]
 have kS : ∀ κ,kD κ 1 ((srt B).map rowD) = .kow κ 1 B.length:=fun κ=>(kD_srt κ _).trans (kX κ)
 have lX : (B.map rowD).length = B.length:=List.length_map ..
 have uX:=unfR_len B 1
 have tX : (unfR 1 B).take B.length = unfR 1 B:=List.take_of_length_le (Nat.le_of_eq uX)
 refine rcalls_of c_Z30 mixed (uF1 B) 0 4 (fun κ=>if κ = 0 then 1 + B.length else 2000000) (Nat.le_of_ble_eq_true rfl) (by rw [D.low,D.lowL,tK_low]; rfl) rfl (List.Perm.refl _) (List.Perm.refl _) (fun it hit _=>?_) (fun κ h=>absurd h (Nat.not_lt_zero κ)) (fun κ hκ=>?_) (Nat.zero_le _) (by omega) (fun m0=>?_)
 ·obtain rfl:=List.mem_singleton.1 hit
  exact Nat.zero_lt_one
 ·show nb ≤ if κ = 0 then _ else 2000000
  rw [if_neg (by omega)]; decide
 have e : (D.tup [tK 0 ⟨aw,srt B⟩,Bo true]).rk (fun κ=>if κ = 0 then 1 + B.length else 2000000) = .tup [.agg [I aw,.kow (1 + B.length) 1 B.length],Bo true]:=by
  rw [D.rk,D.rkL,tK_rk,if_pos rfl]
  unfold tK
  rw [kS]; rfl
 rw [e]
 conv=>arg 3; whnf
 repeat' (first|with_reducible refine acc_none ?_ | (conv in hold _=>simp (disch:=omega) only [go_sem])|refine Stp.go ?_|(with_reducible first|refine it_pos rfl ?_|refine it_neg (by decide) ?_|refine st_nil rfl ?_|refine s_op ?_ ?_|exact trivial)|((with_reducible first|refine dw_reg0 ?_|refine dw_regB ?_);(conv=>arg 3;whnf))|(refine Spl.go (fun hq he=>?_) (fun hq he=>?_)<;>first|(exfalso;clear hq;omega)|((try first|(conv=>arg 8;simp only [hq])|(conv=>arg 4;simp only [hq]));clear hq))|((with_reducible first|refine c_split (fun hq=>?_) (fun hq=>?_)|refine q_split (fun hq=>?_) (fun hq=>?_))<;>(try first|(conv=>arg 8;simp only [hq])|(conv=>arg 4;simp only [hq])))|(with_reducible refine fin_0 ?_ (by first|rfl|(conv=>lhs;simp only [go_sem])) ?_)|exact Sub.refl _|omega)
 refine c_doesE (h1) ?_ ?_ ?_
 ·((try (conv=>rhs;simp (disch:=omega) only [go_sem])); try rfl)
 ·first|rfl|(conv=>lhs;simp only [go_sem])
 repeat' ((fail_if_success (with_reducible first | refine s_call ?_ | refine s_cal ?_ | refine s_inv ?_)); first | with_reducible refine acc_none ?_ | (conv in hold _=>simp (disch:=omega) only [go_sem])|refine Stp.go ?_|(with_reducible first|refine it_pos rfl ?_|refine it_neg (by decide) ?_|refine st_nil rfl ?_|refine s_op ?_ ?_|exact trivial)|((with_reducible first|refine dw_reg0 ?_|refine dw_regB ?_);(conv=>arg 3;whnf))|(refine Spl.go (fun hq he=>?_) (fun hq he=>?_)<;>first|(exfalso;clear hq;omega)|((try first|(conv=>arg 8;simp only [hq])|(conv=>arg 4;simp only [hq]));clear hq))|((with_reducible first|refine c_split (fun hq=>?_) (fun hq=>?_)|refine q_split (fun hq=>?_) (fun hq=>?_))<;>(try first|(conv=>arg 8;simp only [hq])|(conv=>arg 4;simp only [hq])))|(with_reducible refine fin_0 ?_ (by first|rfl|(conv=>lhs;simp only [go_sem])) ?_)|exact Sub.refl _|omega)
 refine s_call ?_
 refine c_doesE (h3) ?_ ?_ ?_
 ·((try (conv=>rhs;simp (disch:=omega) only [go_sem])); try rfl)
 ·first|rfl|(conv=>lhs;simp only [go_sem])
 repeat' ((fail_if_success (with_reducible first | refine s_call ?_ | refine s_cal ?_ | refine s_inv ?_)); first | with_reducible refine acc_none ?_ | (conv in hold _=>simp (disch:=omega) only [go_sem])|refine Stp.go ?_|(with_reducible first|refine it_pos rfl ?_|refine it_neg (by decide) ?_|refine st_nil rfl ?_|refine s_op ?_ ?_|exact trivial)|((with_reducible first|refine dw_reg0 ?_|refine dw_regB ?_);(conv=>arg 3;whnf))|(refine Spl.go (fun hq he=>?_) (fun hq he=>?_)<;>first|(exfalso;clear hq;omega)|((try first|(conv=>arg 8;simp only [hq])|(conv=>arg 4;simp only [hq]));clear hq))|((with_reducible first|refine c_split (fun hq=>?_) (fun hq=>?_)|refine q_split (fun hq=>?_) (fun hq=>?_))<;>(try first|(conv=>arg 8;simp only [hq])|(conv=>arg 4;simp only [hq])))|(with_reducible refine fin_0 ?_ (by first|rfl|(conv=>lhs;simp only [go_sem])) ?_)|exact Sub.refl _|omega)
 refine s_rcall (fm:=uF1 B) (p:=0) (m0:=m0) (k:=0) 1 [] [] h2 (by ((conv=>lhs; simp (disch:=omega) only [go_sem]); try rfl)) (by ((conv=>lhs; simp (disch:=omega) only [go_sem]); try rfl)) rfl ((kD_rk _ _ _ _).trans (kX _)) rfl (kD_low _ _ _) rfl (fun κ h=>(by cases h)) (Nat.zero_le _) (List.Perm.refl _) (List.Perm.refl _) (fun it hit hne=>(by cases hit)) (fun it hit hne=>?_) (fun it hit hne=>(by cases hit)) (Nat.zero_le _) rfl (show 1 ≤ 900000 by omega) (Nat.zero_le _) ?_
 ·obtain rfl:=List.mem_singleton.1 hit
  exact Nat.zero_lt_one
 (conv in hold _=>simp (disch:=omega) only [go_sem])
 refine Stp.go ?_
 refine s_pre (pre_unfold (fm:=uF1 B) (p:=0) (m0:=m0) (k:=1) 2 29 3000001 0 1 (B.map rowD) (unfR 1 B) [] rfl (by decide) (by rw [lX]; rfl) (by decide) rfl hmX (by rw [lX,uX]) (unfR_cells B 1) (by rw [unfR_flat,flat_rows,uX,lX]) (unf_hc 1 B) (List.Perm.refl _) (by rw [flat_rows,List.append_nil]; exact List.Perm.refl _) (fun it hit hne=>(by cases hit)) (by rw [flat_rows,lX]; rfl) (show 1 + B.length ≤ 900000 by omega) (Nat.zero_le _)) ?_
 (conv in hold _=>simp (disch:=omega) only [go_sem,lX])
 repeat' ((fail_if_success (with_reducible first | refine s_call ?_ | refine s_cal ?_ | refine s_inv ?_)); first | with_reducible refine acc_none ?_ | (conv in hold _=>simp (disch:=omega) only [go_sem,uX,tX])|refine Stp.go ?_|(with_reducible first|refine it_pos rfl ?_|refine it_neg (by decide) ?_|refine st_nil rfl ?_|refine s_op ?_ ?_|exact trivial)|((with_reducible first|refine dw_reg0 ?_|refine dw_regB ?_);(conv=>arg 3;whnf))|(refine Spl.go (fun hq he=>?_) (fun hq he=>?_)<;>first|(exfalso;clear hq;omega)|((try first|(conv=>arg 8;simp only [hq])|(conv=>arg 4;simp only [hq]));clear hq))|((with_reducible first|refine c_split (fun hq=>?_) (fun hq=>?_)|refine q_split (fun hq=>?_) (fun hq=>?_))<;>(try first|(conv=>arg 8;simp only [hq])|(conv=>arg 4;simp only [hq])))|(with_reducible refine fin_0 ?_ (by first|rfl|(conv=>lhs;simp only [go_sem,uX,tX])) ?_)|exact Sub.refl _|omega)
 refine s_pre (pre_fold (fm:=uF1 B) (p:=0) (m0:=m0) (k:=2) 3 30 2000030 1 (B.map rowD) (unfR 1 B) (1 + ·) [] rfl (by decide) (by rw [lX]; rfl) (by decide) rfl hmX (by rw [uX,lX]) (fun e he=>(by obtain ⟨r,_,rfl⟩:=List.mem_map.1 he; rfl)) (by rw [unfR_flat,flat_rows,uX,lX]) (unf_hc 1 B) (by rw [flat_rows,List.append_nil]; exact List.Perm.refl _) (List.Perm.refl _) (fun it hit hne=>(by cases hit)) rfl (show 1 + B.length + 1 ≤ 900000 by omega) (Nat.zero_le _)) ?_
 (conv in hold _=>simp (disch:=omega) only [go_sem,List.length_map,List.length_append])
 refine s_rcall (fm:=uF1 B) (p:=0) (m0:=m0) (k:=3) 4 [1 + B.length] [] h4 (by ((conv=>lhs; simp (disch:=omega) only [go_sem]); try rfl)) (by ((conv=>lhs; simp (disch:=omega) only [go_sem]); try rfl)) (show _ = [I aw,(kD 0 1 (B.map rowD)).rk _] by rw [kD_rk,kX]; rfl) (rr:=.agg [I aw,.kow (1 + B.length) 1 B.length]) (by rw [tK_rk]; unfold tK; rw [kS]; rfl) (by rw [D.lowL,D.lowL,kD_low]; rfl) (tK_low _ _) rfl (fun κ h=>?_) (Nat.zero_le _) (List.Perm.refl _) (List.Perm.refl _) (fun it hit _=>?_) (fun it hit _=>?_) (fun it hit _=>(by cases hit)) (Nat.le_refl _) rfl (show 1 + B.length + 1 ≤ 900000 by omega) (show 1 ≤ 900000 by omega) ?_
 ·obtain rfl:=List.mem_singleton.1 h
  show 1 + B.length < 1 + B.length + 1
  omega
 ·obtain rfl:=List.mem_singleton.1 hit
  exact Nat.zero_lt_one
 ·obtain rfl:=List.mem_singleton.1 hit
  exact Nat.zero_lt_one
 repeat' (first|with_reducible refine acc_none ?_ | (conv in hold _=>simp (disch:=omega) only [go_sem])|refine Stp.go ?_|(with_reducible first|refine it_pos rfl ?_|refine it_neg (by decide) ?_|refine st_nil rfl ?_|refine s_op ?_ ?_|exact trivial)|((with_reducible first|refine dw_reg0 ?_|refine dw_regB ?_);(conv=>arg 3;whnf))|(refine Spl.go (fun hq he=>?_) (fun hq he=>?_)<;>first|(exfalso;clear hq;omega)|((try first|(conv=>arg 8;simp only [hq])|(conv=>arg 4;simp only [hq]));clear hq))|((with_reducible first|refine c_split (fun hq=>?_) (fun hq=>?_)|refine q_split (fun hq=>?_) (fun hq=>?_))<;>(try first|(conv=>arg 8;simp only [hq])|(conv=>arg 4;simp only [hq])))|(with_reducible refine fin_0 ?_ (by first|rfl|(conv=>lhs;simp only [go_sem])) ?_)|exact Sub.refl _|omega)
 refine fin_RC (by ((conv=>lhs; simp (disch:=omega) only [go_sem]); try rfl)) ?_ (by ((conv=>lhs; simp (disch:=omega) only [go_sem]); try rfl))
 repeat' (first|(conv in hold _=>simp (disch:=omega) only [go_sem])|exact trivial|exact Sub.refl _|omega)
theorem unionAll_big {a b : Ta} (h : sameT a b) (hl : ¬ a.rows.length + b.rows.length ≤ 400) : Does Try.prog 96 [] [taD a,taD b] (taD ⟨a.w,[]⟩) []:=by
 obtain ⟨w,hw,hw6,hra,_,hla⟩:=tOk_nat h.1
 obtain ⟨w',hw',_,hrb,_,hlb⟩:=tOk_nat h.2.1
 have h4:=tableOf_big a.w (a.rows ++ b.rows) (by rw [List.length_append]; exact hl) (by rw [List.length_append]; omega)
 have e1:=take_all rowD a.rows
 have e2:=take_all rowD b.rows
 have e3 : (a.rows.map rowD ++ b.rows.map rowD).take (a.rows.length + b.rows.length) = (a.rows ++ b.rows).map rowD:=by rw [List.map_append]; exact List.take_of_length_le (by rw [List.length_append,List.length_map,List.length_map]; exact Nat.le_refl _)
 refine does0 c_Z36 mixed (Nat.le_of_ble_eq_true rfl) ?_
 conv=>arg 3; whnf
 repeat' ((fail_if_success (with_reducible first | refine s_call ?_ | refine s_cal ?_ | refine s_inv ?_)); first | with_reducible refine acc_none ?_ | (conv in hold _=>simp (disch:=omega) only [go_sem])|refine Stp.go ?_|(with_reducible first|refine it_pos rfl ?_|refine it_neg (by decide) ?_|refine st_nil rfl ?_|refine s_op ?_ ?_|exact trivial)|((with_reducible first|refine dw_reg0 ?_|refine dw_regB ?_);(conv=>arg 3;whnf))|(refine Spl.go (fun hq he=>?_) (fun hq he=>?_)<;>first|(exfalso;clear hq;omega)|((try first|(conv=>arg 8;simp only [hq])|(conv=>arg 4;simp only [hq]));clear hq))|((with_reducible first|refine c_split (fun hq=>?_) (fun hq=>?_)|refine q_split (fun hq=>?_) (fun hq=>?_))<;>(try first|(conv=>arg 8;simp only [hq])|(conv=>arg 4;simp only [hq])))|(with_reducible refine fin_0 ?_ (by first|rfl|(conv=>lhs;simp only [go_sem])) ?_)|exact Sub.refl _|omega)
 refine s_pre (pre_frz (t:=13) (g:=2000013) (by decide) (by decide) rfl ?_) ?_
 rotate_left
 repeat' (first|with_reducible refine acc_none ?_ | (conv in hold _=>simp (disch:=omega) only [go_sem,e1,e2,e3,List.length_append,List.length_map,Nat.le_refl])|refine Stp.go ?_|(with_reducible first|refine it_pos rfl ?_|refine it_neg (by decide) ?_|refine st_nil rfl ?_|refine s_op ?_ ?_|exact trivial)|((with_reducible first|refine dw_reg0 ?_|refine dw_regB ?_);(conv=>arg 3;whnf))|(refine Spl.go (fun hq he=>?_) (fun hq he=>?_)<;>first|(exfalso;clear hq;omega)|((try first|(conv=>arg 8;simp only [hq])|(conv=>arg 4;simp only [hq]));clear hq))|((with_reducible first|refine c_split (fun hq=>?_) (fun hq=>?_)|refine q_split (fun hq=>?_) (fun hq=>?_))<;>(try first|(conv=>arg 8;simp only [hq])|(conv=>arg 4;simp only [hq])))|(with_reducible refine fin_0 ?_ (by first|rfl|(conv=>lhs;simp only [go_sem,e1,e2,e3,List.length_append,List.length_map,Nat.le_refl])) ?_)|exact Sub.refl _|omega)
 refine c_doesE (h4) ?_ ?_ ?_
 ·((try (conv=>rhs;simp (disch:=omega) only [go_sem])); try rfl)
 ·first|rfl|(conv=>lhs;simp only [go_sem])
 repeat' (first|with_reducible refine acc_none ?_ | (conv in hold _=>simp (disch:=omega) only [go_sem])|refine Stp.go ?_|(with_reducible first|refine it_pos rfl ?_|refine it_neg (by decide) ?_|refine st_nil rfl ?_|refine s_op ?_ ?_|exact trivial)|((with_reducible first|refine dw_reg0 ?_|refine dw_regB ?_);(conv=>arg 3;whnf))|(refine Spl.go (fun hq he=>?_) (fun hq he=>?_)<;>first|(exfalso;clear hq;omega)|((try first|(conv=>arg 8;simp only [hq])|(conv=>arg 4;simp only [hq]));clear hq))|((with_reducible first|refine c_split (fun hq=>?_) (fun hq=>?_)|refine q_split (fun hq=>?_) (fun hq=>?_))<;>(try first|(conv=>arg 8;simp only [hq])|(conv=>arg 4;simp only [hq])))|(with_reducible refine fin_0 ?_ (by first|rfl|(conv=>lhs;simp only [go_sem])) ?_)|exact Sub.refl _|omega)
 ·exact Sub.agg ⟨Sub.refl _,Sub.nul 1,trivial⟩
 ·exact (by rw [← List.map_append]; exact rows_pur _)
theorem UnionAll_spec_b {a b : Ta} (ha : rsz a.rows ≤ 1048576) (hb : rsz b.rows ≤ 1048576) (h : sameT a b) (hl : ¬ a.rows.length + b.rows.length ≤ 400) : Does Try.prog 53 [] [taD a,taD b] (.tup [taD ⟨a.w,[]⟩,Bo true]) []:=by
 have h1:=validTable_ok a ha
 have h2:=validTable_ok b hb
 rw [decide_eq_true h.1] at h1
 rw [decide_eq_true h.2.1] at h2
 have h3:=unionAll_big h hl
 have hw:=h.2.2
 refine does0 c_Z35 mixed (Nat.le_of_ble_eq_true rfl) ?_
 conv=>arg 3; whnf
 repeat' (first|with_reducible refine acc_none ?_ | (conv in hold _=>simp (disch:=omega) only [go_sem])|refine Stp.go ?_|(with_reducible first|refine it_pos rfl ?_|refine it_neg (by decide) ?_|refine st_nil rfl ?_|refine s_op ?_ ?_|exact trivial)|((with_reducible first|refine dw_reg0 ?_|refine dw_regB ?_);(conv=>arg 3;whnf))|(refine Spl.go (fun hq he=>?_) (fun hq he=>?_)<;>first|(exfalso;clear hq;omega)|((try first|(conv=>arg 8;simp only [hq])|(conv=>arg 4;simp only [hq]));clear hq))|((with_reducible first|refine c_split (fun hq=>?_) (fun hq=>?_)|refine q_split (fun hq=>?_) (fun hq=>?_))<;>(try first|(conv=>arg 8;simp only [hq])|(conv=>arg 4;simp only [hq])))|(with_reducible refine fin_0 ?_ (by first|rfl|(conv=>lhs;simp only [go_sem])) ?_)|exact Sub.refl _|omega)
 refine c_doesE (h1) ?_ ?_ ?_
 ·((try (conv=>rhs;simp (disch:=omega) only [go_sem])); try rfl)
 ·first|rfl|(conv=>lhs;simp only [go_sem])
 repeat' (first|with_reducible refine acc_none ?_ | (conv in hold _=>simp (disch:=omega) only [go_sem])|refine Stp.go ?_|(with_reducible first|refine it_pos rfl ?_|refine it_neg (by decide) ?_|refine st_nil rfl ?_|refine s_op ?_ ?_|exact trivial)|((with_reducible first|refine dw_reg0 ?_|refine dw_regB ?_);(conv=>arg 3;whnf))|(refine Spl.go (fun hq he=>?_) (fun hq he=>?_)<;>first|(exfalso;clear hq;omega)|((try first|(conv=>arg 8;simp only [hq])|(conv=>arg 4;simp only [hq]));clear hq))|((with_reducible first|refine c_split (fun hq=>?_) (fun hq=>?_)|refine q_split (fun hq=>?_) (fun hq=>?_))<;>(try first|(conv=>arg 8;simp only [hq])|(conv=>arg 4;simp only [hq])))|(with_reducible refine fin_0 ?_ (by first|rfl|(conv=>lhs;simp only [go_sem])) ?_)|exact Sub.refl _|omega)
 refine c_doesE (h2) ?_ ?_ ?_
 ·((try (conv=>rhs;simp (disch:=omega) only [go_sem])); try rfl)
 ·first|rfl|(conv=>lhs;simp only [go_sem])
 repeat' (first|with_reducible refine acc_none ?_ | (conv in hold _=>simp (disch:=omega) only [go_sem])|refine Stp.go ?_|(with_reducible first|refine it_pos rfl ?_|refine it_neg (by decide) ?_|refine st_nil rfl ?_|refine s_op ?_ ?_|exact trivial)|((with_reducible first|refine dw_reg0 ?_|refine dw_regB ?_);(conv=>arg 3;whnf))|(refine Spl.go (fun hq he=>?_) (fun hq he=>?_)<;>first|(exfalso;clear hq;omega)|((try first|(conv=>arg 8;simp only [hq])|(conv=>arg 4;simp only [hq]));clear hq))|((with_reducible first|refine c_split (fun hq=>?_) (fun hq=>?_)|refine q_split (fun hq=>?_) (fun hq=>?_))<;>(try first|(conv=>arg 8;simp only [hq])|(conv=>arg 4;simp only [hq])))|(with_reducible refine fin_0 ?_ (by first|rfl|(conv=>lhs;simp only [go_sem])) ?_)|exact Sub.refl _|omega)
 refine c_doesE (h3) ?_ ?_ ?_
 ·((try (conv=>rhs;simp (disch:=omega) only [go_sem])); try rfl)
 ·first|rfl|(conv=>lhs;simp only [go_sem])
 repeat' (first|with_reducible refine acc_none ?_ | (conv in hold _=>simp (disch:=omega) only [go_sem])|refine Stp.go ?_|(with_reducible first|refine it_pos rfl ?_|refine it_neg (by decide) ?_|refine st_nil rfl ?_|refine s_op ?_ ?_|exact trivial)|((with_reducible first|refine dw_reg0 ?_|refine dw_regB ?_);(conv=>arg 3;whnf))|(refine Spl.go (fun hq he=>?_) (fun hq he=>?_)<;>first|(exfalso;clear hq;omega)|((try first|(conv=>arg 8;simp only [hq])|(conv=>arg 4;simp only [hq]));clear hq))|((with_reducible first|refine c_split (fun hq=>?_) (fun hq=>?_)|refine q_split (fun hq=>?_) (fun hq=>?_))<;>(try first|(conv=>arg 8;simp only [hq])|(conv=>arg 4;simp only [hq])))|(with_reducible refine fin_0 ?_ (by first|rfl|(conv=>lhs;simp only [go_sem])) ?_)|exact Sub.refl _|omega)
theorem UnionAll_impl_b {a b : Ta} (ha : rsz a.rows ≤ 1048576) (hb : rsz b.rows ≤ 1048576) (h : sameT a b) (hl : ¬ a.rows.length + b.rows.length ≤ 400) : Does Try.prog 54 [] [taD a,taD b] (.tup [taD ⟨a.w,[]⟩,Bo true]) []:=by
 have h1:=haveSameWidth_ok a b ha hb
 rw [decide_eq_true h] at h1
 have hla : a.rows.length ≤ 400:=h.1.1.2
 have hlb : b.rows.length ≤ 400:=h.2.1.1.2
 refine does0 c_Z30 mixed (Nat.le_of_ble_eq_true rfl) ?_
 conv=>arg 3; whnf
 repeat' (first|with_reducible refine acc_none ?_ | (conv in hold _=>simp (disch:=omega) only [go_sem])|refine Stp.go ?_|(with_reducible first|refine it_pos rfl ?_|refine it_neg (by decide) ?_|refine st_nil rfl ?_|refine s_op ?_ ?_|exact trivial)|((with_reducible first|refine dw_reg0 ?_|refine dw_regB ?_);(conv=>arg 3;whnf))|(refine Spl.go (fun hq he=>?_) (fun hq he=>?_)<;>first|(exfalso;clear hq;omega)|((try first|(conv=>arg 8;simp only [hq])|(conv=>arg 4;simp only [hq]));clear hq))|((with_reducible first|refine c_split (fun hq=>?_) (fun hq=>?_)|refine q_split (fun hq=>?_) (fun hq=>?_))<;>(try first|(conv=>arg 8;simp only [hq])|(conv=>arg 4;simp only [hq])))|(with_reducible refine fin_0 ?_ (by first|rfl|(conv=>lhs;simp only [go_sem])) ?_)|exact Sub.refl _|omega)
 refine c_doesE (h1) ?_ ?_ ?_
 ·((try (conv=>rhs;simp (disch:=omega) only [go_sem])); try rfl)
 ·first|rfl|(conv=>lhs;simp only [go_sem])
 repeat' (first|with_reducible refine acc_none ?_ | (conv in hold _=>simp (disch:=omega) only [go_sem])|refine Stp.go ?_|(with_reducible first|refine it_pos rfl ?_|refine it_neg (by decide) ?_|refine st_nil rfl ?_|refine s_op ?_ ?_|exact trivial)|((with_reducible first|refine dw_reg0 ?_|refine dw_regB ?_);(conv=>arg 3;whnf))|(refine Spl.go (fun hq he=>?_) (fun hq he=>?_)<;>first|(exfalso;clear hq;omega)|((try first|(conv=>arg 8;simp only [hq])|(conv=>arg 4;simp only [hq]));clear hq))|((with_reducible first|refine c_split (fun hq=>?_) (fun hq=>?_)|refine q_split (fun hq=>?_) (fun hq=>?_))<;>(try first|(conv=>arg 8;simp only [hq])|(conv=>arg 4;simp only [hq])))|(with_reducible refine fin_0 ?_ (by first|rfl|(conv=>lhs;simp only [go_sem])) ?_)|exact Sub.refl _|omega)
 exact Sub.tup ⟨Sub.agg ⟨Sub.refl _,Sub.nul 1,trivial⟩,Sub.refl _,trivial⟩
open Classical in
noncomputable def uniA (a b : Ta) : Ta:=if sameT a b then (if a.rows.length + b.rows.length ≤ 400 then ⟨a.w,srt (a.rows ++ b.rows)⟩ else ⟨a.w,[]⟩) else ⟨0,[]⟩
noncomputable def uniB (a b : Ta) : Bool:=decide (sameT a b)
theorem uni_f {a b : Ta} (h : ¬ sameT a b) : uniA a b = ⟨0,[]⟩ ∧ uniB a b = false:=⟨if_neg h,decide_eq_false h⟩
theorem uni_b {a b : Ta} (h : sameT a b) (hl : ¬ a.rows.length + b.rows.length ≤ 400) : uniA a b = ⟨a.w,[]⟩ ∧ uniB a b = true:=⟨by rw [uniA,if_pos h,if_neg hl],decide_eq_true h⟩
theorem uni_t {a b : Ta} (h : sameT a b) (hl : a.rows.length + b.rows.length ≤ 400) : uniA a b = ⟨a.w,srt (a.rows ++ b.rows)⟩ ∧ uniB a b = true:=⟨by rw [uniA,if_pos h,if_pos hl],decide_eq_true h⟩
theorem UnionAll_spec (a b : Ta) (ha : rsz a.rows ≤ 1048576) (hb : rsz b.rows ≤ 1048576) : Does Try.prog 53 [] [taD a,taD b] (.tup [taD (uniA a b),Bo (uniB a b)]) []:=by
 by_cases h : sameT a b
 ·by_cases hl : a.rows.length + b.rows.length ≤ 400
  ·rw [(uni_t h hl).1,(uni_t h hl).2]; exact UnionAll_spec_t ha hb h hl
  ·rw [(uni_b h hl).1,(uni_b h hl).2]; exact UnionAll_spec_b ha hb h hl
 ·rw [(uni_f h).1,(uni_f h).2]; exact UnionAll_spec_f ha hb h
theorem UnionAll_impl (a b : Ta) (ha : rsz a.rows ≤ 1048576) (hb : rsz b.rows ≤ 1048576) : Does Try.prog 54 [] [taD a,taD b] (.tup [taD (uniA a b),Bo (uniB a b)]) []:=by
 by_cases h : sameT a b
 ·by_cases hl : a.rows.length + b.rows.length ≤ 400
  ·rw [(uni_t h hl).1,(uni_t h hl).2]; exact UnionAll_impl_t ha hb h hl
  ·rw [(uni_b h hl).1,(uni_b h hl).2]; exact UnionAll_impl_b ha hb h hl
 ·rw [(uni_f h).1,(uni_f h).2]; exact UnionAll_impl_f ha hb h
theorem UnionAll_rc (a b : Ta) (ha : rsz a.rows ≤ 1048576) (hb : rsz b.rows ≤ 1048576) : RCalls Try.prog 54 [] [taD a,taD b] [⟨0,1,(uniA a b).rows.map rowD⟩] 1 (.tup [tK 0 (uniA a b),Bo (uniB a b)]):=by
 by_cases h : sameT a b
 ·by_cases hl : a.rows.length + b.rows.length ≤ 400
  ·rw [(uni_t h hl).1,(uni_t h hl).2]
   by_cases hA : a.rows = []
   ·by_cases hB : b.rows = []
    ·have h0 : srt (a.rows ++ b.rows) = []:=by rw [hA,hB]; rfl
     have h2:=UnionAll_impl_t ha hb h hl
     rw [h0] at h2 ⊢
     exact (rcalls_nil (post:=[⟨0,1,[]⟩]) (top':=0) h2 rfl rfl (fun it hit=>by obtain rfl:=List.mem_singleton.1 hit; rfl)).top (by omega)
    ·exact UnionAll_rc_B ha hb h hl hA hB
   ·by_cases hB : b.rows = []
    ·exact UnionAll_rc_A ha hb h hl hA hB
    ·exact UnionAll_rc_both ha hb h hl hA hB
  ·rw [(uni_b h hl).1,(uni_b h hl).2]
   exact (rcalls_nil (post:=[⟨0,1,[]⟩]) (top':=0) (UnionAll_impl_b ha hb h hl) rfl rfl (fun it hit=>by obtain rfl:=List.mem_singleton.1 hit; rfl)).top (by omega)
 ·rw [(uni_f h).1,(uni_f h).2]
  exact (rcalls_nil (post:=[⟨0,1,[]⟩]) (top':=0) (UnionAll_impl_f ha hb h) rfl rfl (fun it hit=>by obtain rfl:=List.mem_singleton.1 hit; rfl)).top (by omega)
theorem uni_sz (a b : Ta) (ha : rsz a.rows ≤ 1048576) (hb : rsz b.rows ≤ 1048576) : rsz (uniA a b).rows ≤ 1048576:=by
 by_cases h : sameT a b
 ·by_cases hl : a.rows.length + b.rows.length ≤ 400
  ·rw [(uni_t h hl).1]
   have e : rsz (srt (a.rows ++ b.rows)) = rsz (a.rows ++ b.rows):=rsz_perm (srt_perm _)
   have e2:=rsz_append a.rows b.rows
   have h1:=(rsz_len a.rows)
   obtain ⟨w,hw,hw6,hra,_,hla⟩:=tOk_nat h.1
   obtain ⟨w',hw',hw6',hrb,_,hlb⟩:=tOk_nat h.2.1
   have:=rsz_le a.rows (k:=6) (fun r hr=>by have:=(hra r hr).1; omega)
   have:=rsz_le b.rows (k:=6) (fun r hr=>by have:=(hrb r hr).1; omega)
   show rsz (srt (a.rows ++ b.rows)) ≤ _
   omega
  ·rw [(uni_b h hl).1]; exact Nat.zero_le _
 ·rw [(uni_f h).1]; exact Nat.zero_le _
end Go.Proofs.Ytedmegmhjmabcaa
