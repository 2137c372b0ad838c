/-
  A tree that is being copied off a stack: a node taken off and its kids put on; a row that is done hangs in the row above it. No condition.
-/
import Derived.Test.YtclkehekhdfnnaaKSVClA
set_option maxHeartbeats 4000000
set_option maxRecDepth 100000
set_option linter.unusedVariables false
set_option linter.unusedSimpArgs false
namespace Go.Proofs.Ytclkehekhdfnnaa
open Go.RowKit
theorem nodupB_of : ∀ {l : List Nat},l.Nodup → nodupB l = true
 | [],_=>rfl
 | x :: l,h=>by
  obtain ⟨h1,h2⟩:=List.nodup_cons.1 h
  rw [nodupB,nodupB_of h2,Bool.and_true,Bool.not_eq_true']
  cases hc : l.contains x with
  | true=>exact absurd (List.contains_iff_mem.1 hc) h1
  | false=>rfl
theorem canB_of {L : List Nat} (h : L.Nodup) (hg : ∀ g,g ∈ L → nb ≤ g) : canB 0 L = true:=by
 rw [canB,nodupB_of h,Bool.true_and,Bool.and_eq_true]
 exact ⟨List.all_eq_true.2 (fun g hm=>decide_eq_true (hg g hm)),rfl⟩
def lvN (d : Nat) : List Nat:=(List.range d).map fun r=>nb + 3 + r
theorem lvN_len (d : Nat) : (lvN d).length = d:=by unfold lvN; simp
theorem lvN_at {d r : Nat} (h : r < d) : (lvN d)[r]? = some (nb + 3 + r):=by
 unfold lvN
 rw [List.getElem?_map,List.getElem?_range h]
 rfl
theorem lvN_mem {d g : Nat} (h : g ∈ lvN d) : nb + 3 ≤ g ∧ g < nb + 3 + d:=by
 unfold lvN at h
 obtain ⟨r,hr,rfl⟩:=List.mem_map.1 h
 have:=List.mem_range.1 hr
 omega
theorem lvN_nd (d : Nat) : (lvN d).Nodup:=by
 unfold lvN
 exact List.pairwise_map.2 ((List.nodup_range (n:=d)).imp fun h e=>h (by omega))
def LW (W K d : Nat) : List Nat:=W :: K :: (nb + 2) :: lvN d
def LP (K d : Nat) : List Nat:=nb :: K :: (nb + 2) :: (lvN d ++ [nb + 1])
theorem LW_len (W K d : Nat) : (LW W K d).length = 3 + d:=by unfold LW; rw [List.length_cons,List.length_cons,List.length_cons,lvN_len]; omega
theorem LP_len (K d : Nat) : (LP K d).length = 3 + (d + 1):=by unfold LP; rw [List.length_cons,List.length_cons,List.length_cons,List.length_append,lvN_len,List.length_singleton]; omega
theorem LW_at {W K d r : Nat} (h : r < d) : (LW W K d)[3 + r]? = some (nb + 3 + r):=by
 unfold LW
 rw [show 3 + r = r + 1 + 1 + 1 by omega,List.getElem?_cons_succ,List.getElem?_cons_succ,List.getElem?_cons_succ,lvN_at h]
theorem LP_at {K d r : Nat} (h : r < d) : (LP K d)[3 + r]? = some (nb + 3 + r):=by
 unfold LP
 rw [show 3 + r = r + 1 + 1 + 1 by omega,List.getElem?_cons_succ,List.getElem?_cons_succ,List.getElem?_cons_succ,List.getElem?_append_left (by rw [lvN_len]; exact h),lvN_at h]
theorem LP_last (K d : Nat) : (LP K d)[3 + d]? = some (nb + 1):=by
 unfold LP
 rw [show 3 + d = d + 1 + 1 + 1 by omega,List.getElem?_cons_succ,List.getElem?_cons_succ,List.getElem?_cons_succ,List.getElem?_append_right (by rw [lvN_len]; exact Nat.le_refl _),lvN_len,Nat.sub_self]
 rfl
theorem LW_can {W K d : Nat} (hW : W = nb ∨ nb + 3 + d ≤ W) (hK : K = nb + 1 ∨ nb + 3 + d ≤ K) (hWK : W ≠ K) : canB 0 (LW W K d) = true:=by
 have hl : ∀ g,g ∈ lvN d → nb + 3 ≤ g ∧ g < nb + 3 + d:=fun g hg=>lvN_mem hg
 refine canB_of ?_ ?_
 ·unfold LW
  refine List.nodup_cons.2 ⟨fun hm=>?_,List.nodup_cons.2 ⟨fun hm=>?_,List.nodup_cons.2 ⟨fun hm=>?_,lvN_nd d⟩⟩⟩
  ·rcases List.mem_cons.1 hm with e | hm
   ·exact hWK e
   rcases List.mem_cons.1 hm with e | hm
   ·omega
   ·have:=hl _ hm; omega
  ·rcases List.mem_cons.1 hm with e | hm
   ·omega
   ·have:=hl _ hm; omega
  ·have:=hl _ hm; omega
 ·intro g hm
  unfold LW at hm
  rcases List.mem_cons.1 hm with rfl | hm
  ·omega
  rcases List.mem_cons.1 hm with rfl | hm
  ·omega
  rcases List.mem_cons.1 hm with rfl | hm
  ·omega
  ·have:=hl _ hm; omega
theorem LP_can {K d : Nat} (hK : nb + 3 + d ≤ K) : canB 0 (LP K d) = true:=by
 have hl : ∀ g,g ∈ lvN d ++ [nb + 1] → g ≠ nb ∧ g ≠ nb + 2 ∧ g ≠ K ∧ nb ≤ g:=fun g hg=>by
  rcases List.mem_append.1 hg with hm | hm
  ·have:=lvN_mem hm; omega
  ·have:=List.mem_singleton.1 hm; omega
 refine canB_of ?_ ?_
 ·unfold LP
  refine List.nodup_cons.2 ⟨fun hm=>?_,List.nodup_cons.2 ⟨fun hm=>?_,List.nodup_cons.2 ⟨fun hm=>(hl _ hm).2.1 rfl,?_⟩⟩⟩
  ·rcases List.mem_cons.1 hm with e | hm
   ·omega
   rcases List.mem_cons.1 hm with e | hm
   ·omega
   ·exact (hl _ hm).1 rfl
  ·rcases List.mem_cons.1 hm with e | hm
   ·omega
   ·exact (hl _ hm).2.2.1 rfl
  ·refine List.nodup_append.2 ⟨lvN_nd d,(by simp),fun a ha b hb e=>?_⟩
   have h1:=lvN_mem ha
   have h2:=List.mem_singleton.1 hb
   omega
 ·intro g hm
  unfold LP at hm
  rcases List.mem_cons.1 hm with rfl | hm
  ·exact Nat.le_refl _
  rcases List.mem_cons.1 hm with rfl | hm
  ·omega
  rcases List.mem_cons.1 hm with rfl | hm
  ·omega
  ·exact (hl _ hm).2.2.2
structure Nms (L : List Nat) (W K d c : Nat) : Prop where
 len : L.length = c
 can : canB 0 L = true
 z : L[0]? = some W
 o : L[1]? = some K
 t : L[2]? = some (nb + 2)
 l : ∀ r,r < d → L[3 + r]? = some (nb + 3 + r)
theorem Nms.n0 {L : List Nat} {W K d c : Nat} (h : Nms L W K d c) : nameOf L nb = some W:=by rw [show nb = nb + 0 from (Nat.add_zero nb).symm,nameOf_at,h.z]
theorem Nms.n1 {L : List Nat} {W K d c : Nat} (h : Nms L W K d c) : nameOf L (nb + 1) = some K:=by rw [nameOf_at,h.o]
theorem Nms.n2 {L : List Nat} {W K d c : Nat} (h : Nms L W K d c) : nameOf L (nb + 2) = some (nb + 2):=by rw [nameOf_at,h.t]
theorem Nms.nl {L : List Nat} {W K d c : Nat} (h : Nms L W K d c) {r : Nat} (hr : r < d) : nameOf L (nb + 3 + r) = some (nb + 3 + r):=by rw [show nb + 3 + r = nb + (3 + r) by omega,nameOf_at,h.l r hr]; congr 1; omega
theorem LW_nms {W K d : Nat} (hW : W = nb ∨ nb + 3 + d ≤ W) (hK : K = nb + 1 ∨ nb + 3 + d ≤ K) (hWK : W ≠ K) : ∃ L,Nms L W K d (3 + d):=⟨LW W K d,LW_len _ _ _,LW_can hW hK hWK,rfl,rfl,rfl,fun r hr=>LW_at hr⟩
theorem LP_nms {K d : Nat} (hK : nb + 3 + d ≤ K) : ∃ L,Nms L nb K d (3 + (d + 1)) ∧ L[3 + d]? = some (nb + 1):=⟨LP K d,⟨LP_len _ _,LP_can hK,rfl,rfl,rfl,fun r hr=>LP_at hr⟩,LP_last _ _⟩
theorem agr_append {σ : Env} {L : List Nat} : ∀ {a b : List (Nat × D)},agr σ L a → agr σ L b → agr σ L (a ++ b)
 | [],_,_,h=>h
 | _ :: a,_,h1,h2=>⟨h1.1,agr_append h1.2 h2⟩
theorem agr1_slot {σ : Env} {L : List Nat} {t : Nat} {d : D} (ht : t < nb) (h : σ t = d.ren L) : agr1 σ L (t,d):=by
 unfold agr1
 rw [if_pos ht]
 exact h
theorem agr1_name {σ : Env} {L : List Nat} {i g : Nat} {d : D} (hL : L[i]? = some g) (hd : d.nmd = true) (h : σ g = d.ren L) : agr1 σ L (nb + i,d):=by
 unfold agr1
 rw [if_neg (by show ¬ nb + i < nb; omega)]
 show match L[nb + i - nb]? with
  | some g=>d.nmd = true ∧ σ g = d.ren L
  | none=>False
 rw [show nb + i - nb = i by omega,hL]
 exact ⟨hd,h⟩
theorem agr1_at {σ : Env} {L : List Nat} {i g n : Nat} {d : D} (hn : n = nb + i) (hL : L[i]? = some g) (hd : d.nmd = true) (h : σ g = d.ren L) : agr1 σ L (n,d):=by
 subst hn
 exact agr1_name hL hd h
theorem agr1_n0 {σ : Env} {L : List Nat} {g : Nat} {d : D} (hL : L[0]? = some g) (hd : d.nmd = true) (h : σ g = d.ren L) : agr1 σ L (nb,d):=agr1_at (Nat.add_zero nb).symm hL hd h
theorem agr1_n2 {σ : Env} {L : List Nat} {g n : Nat} {d : D} (hn : n = nb + 2) (hL : L[2]? = some g) (hd : d.nmd = true) (h : σ g = d.ren L) : agr1 σ L (n,d):=agr1_at hn hL hd h
theorem agr1_n1 {σ : Env} {L : List Nat} {g n : Nat} {d : D} (hn : n = nb + 1) (hL : L[1]? = some g) (hd : d.nmd = true) (h : σ g = d.ren L) : agr1 σ L (n,d):=agr1_at hn hL hd h
namespace Tr
variable (T : Tr) (tw tr tf tz : Nat) (fd : D) (od : List D)
def core (lv : T.Lv) (cs : List T.α) (p : Nat) : List (Nat × D):=
 (tw,.own nb 1 ((T.pend lv).length + p)) :: (tr,.eref (T.rn lv) T.s 0 0) :: (tf,fd) :: (tz,.ref (nb + 2) 0) :: (nb,.row 1 (T.pend lv ++ T.er (nb + 1) p)) :: (nb + 1,.row T.s (cs.map T.d)) :: (nb + 2,.obj od) :: T.lvL (nb + 1) cs lv
structure Sl (W : Nat) (σ : Env) (lv : T.Lv) (cs : List T.α) (p : Nat) : Prop where
 w : σ tw = .own W 1 ((T.pend lv).length + p)
 r : σ tr = .eref (T.rn lv) T.s 0 0
 f : σ tf = fd
 z : σ tz = .ref (nb + 2) 0
 ob : σ (nb + 2) = .obj od
 st : σ W = .row 1 (T.pend lv ++ T.er (nb + 1) p)
 top : σ (nb + 1) = .row T.s (cs.map T.d)
 lvs : T.LvOK σ (nb + 1) cs lv
structure Dis : Prop where
 w : tw < nb
 r : tr < nb
 f : tf < nb
 z : tz < nb
 wr : tw ≠ tr
 wf : tw ≠ tf
 wz : tw ≠ tz
 rf : tr ≠ tf
 rz : tr ≠ tz
 fz : tf ≠ tz
 p : fd.pur = true
 po : D.purL od = true
variable {T tw tr tf tz fd od}
theorem rn_LW {L : List Nat} {W c : Nat} : ∀ {lv : T.Lv},Nms L W (nb + 1) lv.length c → nameOf L (T.rn lv) = some (T.rn lv)
 | [],h=>h.n1
 | x :: rest,h=>h.nl (r:=0) (by rw [List.length_cons]; omega)
theorem core_ok (hd : Dis tw tr tf tz fd od) (lv : T.Lv) (cs : List T.α) (p : Nat) : T.Sl tw tr tf tz fd od nb (ofL (3 + lv.length) (T.core tw tr tf tz fd od lv cs p)) lv cs p:=by
 obtain ⟨h1,h2,h3,h5,h4⟩:=ofL_lv lv (nb + 1) cs (3 + lv.length) (Nat.le_refl _)
 have:=hd.w
 have:=hd.r
 have:=hd.f
 have:=hd.z
 have e : ∀ t,ofL (3 + lv.length) (T.core tw tr tf tz fd od lv cs p) t = if t = tw then .own nb 1 ((T.pend lv).length + p) else if t = tr then .eref (T.rn lv) T.s 0 0 else if t = tf then fd else if t = tz then .ref (nb + 2) 0 else if t = nb then .row 1 (T.pend lv ++ T.er (nb + 1) p) else if t = nb + 1 then .row T.s (cs.map T.d) else if t = nb + 2 then .obj od else ofL (3 + lv.length) (T.lvL (nb + 1) cs lv) t:=fun t=>rfl
 refine ⟨?_,?_,?_,?_,?_,?_,?_,?_⟩
 ·rw [e,if_pos rfl]
 ·rw [e,if_neg hd.wr.symm,if_pos rfl]
 ·rw [e,if_neg hd.wf.symm,if_neg hd.rf.symm,if_pos rfl]
 ·rw [e,if_neg hd.wz.symm,if_neg hd.rz.symm,if_neg hd.fz.symm,if_pos rfl]
 ·rw [e,if_neg (by omega),if_neg (by omega),if_neg (by omega),if_neg (by omega),if_neg (by omega),if_neg (by omega),if_pos rfl]
 ·rw [e,if_neg (by omega),if_neg (by omega),if_neg (by omega),if_neg (by omega),if_pos rfl]
 ·rw [e,if_neg (by omega),if_neg (by omega),if_neg (by omega),if_neg (by omega),if_neg (by omega),if_pos rfl]
 ·refine LvOK.congr lv _ _ (fun r hr=>?_) h4
  rw [e,if_neg (by omega),if_neg (by omega),if_neg (by omega),if_neg (by omega),if_neg (by omega),if_neg (by omega),if_neg (by omega)]
theorem ofL_app {c t : Nat} {l : List (Nat × D)} : ∀ xs : List (Nat × D),(∀ x,x ∈ xs → x.1 ≠ t) → ofL c (xs ++ l) t = ofL c l t
 | [],_=>rfl
 | x :: xs,h=>by
  rw [List.cons_append,ofL,Env.set_ne _ _ _ _ (h x (List.mem_cons_self ..)).symm]
  exact ofL_app xs (fun y hy=>h y (List.mem_cons_of_mem _ hy))
theorem wk_core (hd : Dis tw tr tf tz fd od) {W : Nat} {σ : Env} {lv : T.Lv} {cs : List T.α} {p : Nat} (h : T.Sl tw tr tf tz fd od W σ lv cs p) {L : List Nat} (hL : Nms L W (nb + 1) lv.length (3 + lv.length)) {xs : List (Nat × D)} (hx : agr σ L xs) : Wk 0 σ (ofL (3 + lv.length) (xs ++ T.core tw tr tf tz fd od lv cs p)):=by
 refine Wk.list L hL.len hL.can ?_
 show agr _ _ _
 refine agr_append hx ⟨agr1_slot hd.w ?_,agr1_slot hd.r ?_,agr1_slot hd.f ?_,agr1_slot hd.z ?_,?_,?_,?_,agr_lv lv _ _ _ hL.l hL.n1 h.lvs⟩
 ·rw [h.w,D.ren,hL.n0]
 ·rw [h.r,D.ren,rn_LW hL]
 ·rw [h.f,ren_pure _ _ hd.p]
 ·rw [h.z,D.ren,hL.n2]
 ·refine agr1_n0 hL.z rfl ?_
  rw [h.st,D.ren,renL_append,pend_ren lv hL.l,er_ren hL.n1]
 ·refine agr1_n1 rfl hL.o rfl ?_
  rw [h.top,D.ren,ren_pure.renL_pure _ _ (T.purs _)]
 ·refine agr1_n2 rfl hL.t rfl ?_
  rw [h.ob,D.ren,ren_pure.renL_pure _ _ hd.po]
theorem wk_push (hd : Dis tw tr tf tz fd od) {K i : Nat} {e : T.α} {σ : Env} {lv : T.Lv} {cs : List T.α} (hK : nb + 4 + lv.length ≤ K) (h1 : σ tw = .own nb 1 ((T.pend lv).length + i)) (h2 : σ tr = .eref (T.rn lv) T.s 0 0) (h3 : σ tf = fd) (h8 : σ tz = .ref (nb + 2) 0) (h9 : σ (nb + 2) = .obj od)
  (h4 : σ nb = .row 1 (T.pend lv ++ T.er (nb + 1) (i + 1))) (h5 : σ (nb + 1) = .row T.s ((cs.map T.d).set i (T.hole e K (T.ks e).length))) (h6 : σ K = .row T.s ((T.ks e).map T.d)) (h7 : T.LvOK σ (nb + 1) cs lv) {L : List Nat} (hL : Nms L nb K lv.length (3 + (lv.length + 1))) (hLd : L[3 + lv.length]? = some (nb + 1)) {xs : List (Nat × D)} (hx : agr σ L xs) (hxs : ∀ x,x ∈ xs → x.1 < nb) :
  Wk 0 σ (ofL (3 + (lv.length + 1)) (xs ++ T.core tw tr tf tz fd od ((cs,i,e) :: lv) (T.ks e) 0)):=by
 have hcut:=wk_cut (k:=0) (σ:=σ) nb ((T.pend lv).length + i) (Nat.le_refl _) h4 (by rw [List.length_append,er_len]; omega)
 refine hcut.trans (Wk.list L hL.len hL.can ?_)
 have e4 : (T.pend lv ++ T.er (nb + 1) (i + 1)).take ((T.pend lv).length + i) = T.pend lv ++ T.er (nb + 1) i:=by
  rw [er_succ,← List.append_assoc,List.take_append_of_le_length (by rw [List.length_append,er_len]; omega),List.take_of_length_le (by rw [List.length_append,er_len]; omega)]
 rw [e4]
 show agr _ _ _
 have hnd : nameOf L (nb + 3 + lv.length) = some (nb + 1):=by rw [show nb + 3 + lv.length = nb + (3 + lv.length) by omega,nameOf_at,hLd]
 have hne : ∀ g : Nat,g ≠ nb → (σ.set nb (.row 1 (T.pend lv ++ T.er (nb + 1) i))) g = σ g:=fun g hg=>Env.set_ne _ _ _ _ hg
 have hw:=hd.w
 have hr:=hd.r
 have hf:=hd.f
 have hz:=hd.z
 refine agr_append ?_ ⟨agr1_slot hd.w ?_,agr1_slot hd.r ?_,agr1_slot hd.f ?_,agr1_slot hd.z ?_,?_,?_,?_,?_,agr_lv lv (nb + 1) _ _ hL.l hnd ?_⟩
 ·clear hd
  induction xs with
  | nil=>trivial
  | cons x xs ih=>
   have hlt:=hxs x (List.mem_cons_self ..)
   refine ⟨?_,ih hx.2 (fun y hy=>hxs y (List.mem_cons_of_mem _ hy))⟩
   have h0:=hx.1
   unfold agr1 at h0 ⊢
   rw [if_pos hlt] at h0 ⊢
   rw [hne _ (by omega)]
   exact h0
 ·rw [hne _ (by omega),h1,D.ren,hL.n0,pend,List.length_append,er_len,Nat.add_zero]
 ·rw [hne _ (by omega),h2,D.ren]
  have h0 : nameOf L (T.rn ((cs,i,e) :: lv)) = some (T.rn lv):=by
   cases lv with
   | nil=>exact hnd
   | cons y ys=>exact hL.nl (r:=0) (by rw [List.length_cons]; omega)
  rw [h0]
 ·rw [hne _ (by omega),h3,ren_pure _ _ hd.p]
 ·rw [hne _ (by omega),h8,D.ren,hL.n2]
 ·refine agr1_n0 hL.z rfl ?_
  rw [Env.set_same,D.ren,renL_append,pend,renL_append,pend_ren lv hL.l,er_ren hnd]
  rw [show T.er (nb + 1) 0 = [] from rfl]
  rw [show D.renL L [] = [] from rfl,List.append_nil]
 ·refine agr1_n1 rfl hL.o rfl ?_
  rw [hne _ (by omega),h6,D.ren,ren_pure.renL_pure _ _ (T.purs _)]
 ·refine agr1_n2 rfl hL.t rfl ?_
  rw [hne _ (by omega),h9,D.ren,ren_pure.renL_pure _ _ hd.po]
 ·show agr1 _ _ (nb + 3 + lv.length,_)
  rw [show nb + 3 + lv.length = nb + (3 + lv.length) by omega]
  refine agr1_name hLd rfl ?_
  rw [hne _ (by omega),h5,D.ren,D.renL_map,List.map_set,T.ren _ _ _ _ _ hL.n1,← D.renL_map,ren_pure.renL_pure _ _ (T.purs _)]
 ·exact LvOK.congr lv _ _ (fun r hr=>hne _ (by omega)) h7
theorem wk_pop (hd : Dis tw tr tf tz fd od) {σ : Env} {x : List T.α × Nat × T.α} {rest : T.Lv} {cs : List T.α} (h : T.Sl tw tr tf tz fd od nb σ (x :: rest) cs 0) (hw : T.Wf cs (x :: rest)) : Wk 0 σ (ofL (3 + rest.length) (T.core tw tr tf tz fd od rest x.1 x.2.1)):=by
 obtain ⟨hq,hl⟩:=h.lvs
 have hfz:=wk_frzR (k:=0) (nb + 3 + rest.length) (nb + 1) (by omega) (by omega) hq (by omega) h.top (T.purs cs)
 have e1 : D.frzL (nb + 1) T.s (cs.map T.d) ((x.1.map T.d).set x.2.1 (T.hole x.2.2 (nb + 1) cs.length)) = x.1.map T.d:=by
  rw [D.frzL_map,List.map_set,← D.frzL_map,frzL_pure _ _ _ _ (T.purs _)]
  have e2:=T.fr x.2.2 (nb + 1)
  rw [hw.2.1] at e2
  rw [e2]
  refine List.ext_getElem? fun j=>?_
  rw [List.getElem?_set]
  split
  ·rename_i e
   subst e
   rw [List.length_map]
   have hlt:=(List.getElem?_eq_some_iff.1 hw.1).1
   rw [if_pos hlt,List.getElem?_map,hw.1]
   rfl
  ·rfl
 rw [e1] at hfz
 obtain ⟨L,hL⟩:=LW_nms (W:=nb) (K:=nb + 3 + rest.length) (d:=rest.length) (.inl rfl) (.inr (Nat.le_refl _)) (by omega)
 refine hfz.trans (Wk.list L hL.len hL.can ?_)
 have hne : ∀ g : Nat,g ≠ nb + 1 → g ≠ nb + 3 + rest.length → ((σ.set (nb + 1) .any).set (nb + 3 + rest.length) (.row T.s (x.1.map T.d))) g = σ g:=fun g h1 h2=>by rw [Env.set_ne _ _ _ _ h2,Env.set_ne _ _ _ _ h1]
 have h1:=hd.w
 have h2:=hd.r
 have h3:=hd.f
 have h4:=hd.z
 show agr _ _ _
 refine ⟨agr1_slot hd.w ?_,agr1_slot hd.r ?_,agr1_slot hd.f ?_,agr1_slot hd.z ?_,?_,?_,?_,agr_lv rest (nb + 3 + rest.length) _ _ hL.l hL.n1 ?_⟩
 ·rw [hne _ (by omega) (by omega),h.w,D.ren,hL.n0,pend,List.length_append,er_len,Nat.add_zero]
 ·rw [hne _ (by omega) (by omega),h.r,D.ren]
  have h0 : nameOf L (T.rn rest) = some (T.rn (x :: rest)):=by
   cases rest with
   | nil=>exact hL.n1
   | cons y ys=>exact hL.nl (r:=0) (by rw [List.length_cons]; omega)
  rw [h0]
 ·rw [hne _ (by omega) (by omega),h.f,ren_pure _ _ hd.p]
 ·rw [hne _ (by omega) (by omega),h.z,D.ren,hL.n2]
 ·refine agr1_n0 hL.z rfl ?_
  rw [hne _ (by omega) (by omega),h.st,D.ren,renL_append,pend_ren rest hL.l,er_ren hL.n1,pend,show T.er (nb + 1) 0 = [] from rfl,List.append_nil]
 ·refine agr1_n1 rfl hL.o rfl ?_
  rw [Env.set_same,D.ren,ren_pure.renL_pure _ _ (T.purs _)]
 ·refine agr1_n2 rfl hL.t rfl ?_
  rw [hne _ (by omega) (by omega),h.ob,D.ren,ren_pure.renL_pure _ _ hd.po]
 ·exact LvOK.congr rest _ _ (fun r hr=>hne _ (by omega) (by omega)) hl
def bot : List T.α → T.Lv → List T.α
 | cs,[]=>cs
 | _,x :: rest=>bot x.1 rest
theorem wk_norm (hd : Dis tw tr tf tz fd od) : ∀ (lv : T.Lv) (cs : List T.α) (p : Nat),T.Wf cs lv → p ≤ cs.length → ∃ (lv' : T.Lv) (cs' : List T.α) (p' : Nat),T.Wf cs' lv' ∧ (0 < p' ∨ lv' = []) ∧ p' ≤ cs'.length ∧ T.lefts lv' + T.left cs' p' = T.lefts lv + T.left cs p ∧ lv'.length ≤ lv.length ∧ bot cs' lv' = bot cs lv ∧
  Wk 0 (ofL (3 + lv.length) (T.core tw tr tf tz fd od lv cs p)) (ofL (3 + lv'.length) (T.core tw tr tf tz fd od lv' cs' p'))
 | [],cs,p,hw,hp=>⟨[],cs,p,hw,.inr rfl,hp,rfl,Nat.le_refl _,rfl,Wk.refl _ _⟩
 | x :: rest,cs,p,hw,hp=>by
  cases p with
  | succ p=>exact ⟨x :: rest,cs,p + 1,hw,.inl (by omega),hp,rfl,Nat.le_refl _,rfl,Wk.refl _ _⟩
  | zero=>
   have hlt:=(List.getElem?_eq_some_iff.1 hw.1).1
   obtain ⟨lv',cs',p',h1,h2,h3,h4,h5,h6,h7⟩:=wk_norm hd rest x.1 x.2.1 hw.2.2 (by omega)
   refine ⟨lv',cs',p',h1,h2,h3,?_,by rw [List.length_cons]; omega,h6,(wk_pop hd (core_ok hd (x :: rest) cs 0) hw).trans h7⟩
   rw [h4,lefts,show T.left cs 0 = 0 from rfl,Nat.add_zero]
end Tr
end Go.Proofs.Ytclkehekhdfnnaa
