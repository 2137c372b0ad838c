/-
  A row of one's own becomes a tree under a key, and the other way round. No condition.
-/
import Derived.Test.YtedmegmhjmabcaaKSVReg
set_option maxHeartbeats 4000000
set_option maxRecDepth 100000
set_option linter.unusedVariables false
set_option linter.unusedSimpArgs false
namespace Go.Proofs.Ytedmegmhjmabcaa
open Go.RowKit
def kC (κ : Nat) : D → D
 | .sl s es=>kD κ s es
 | d=>d
def itC (κ : Nat) : D → List It
 | .sl s es=>[⟨κ,s,es⟩]
 | _=>[]
def itsC (key : Nat → Nat) : Nat → List D → List It
 | _,[]=>[]
 | j,d :: l=>itC (key j) d ++ itsC key (j + 1) l
def treC : D → Bool
 | .v _=>true
 | .sl _ _=>true
 | _=>false
theorem Sep.recap {w : World} {B : Blocks} {s : Nat} {es : List D} {b n cap cap' : Nat} (h : Sep w B (.sl s es) (.slice (some ⟨b,0,none⟩) n cap)) (h0 : es ≠ []) (hle : n ≤ cap') (hc : ∀ cur T,w.heap[b]? = some (.cells cur T (0,0)) → cap' * s ≤ cur.size) : Sep w B (.sl s es) (.slice (some ⟨b,0,none⟩) n cap'):=by
 cases h with
 | sl0 _ _ _ _ _=>exact absurd rfl h0
 | sl _ Bs _ _ _ _ cur T hs h0 hle' hlen hb hcap h1 hr hd hn hB=>exact .sl B Bs s es b cap' cur T hs h0 hle hlen hb (hc cur T hb) h1 hr hd hn hB
theorem cells_sep {w : World} {F : Cells} {m : Names} {key : Nat → Nat} : ∀ (cs : List D) (us : List Value) (j : Nat) (B : Blocks),us.length = cs.length → (∀ (k : Nat) (d : D) (u : Value),cs[k]? = some d → us[k]? = some u → treC d = true ∧ Fz w F m (kC (key (j + k)) d) u) → OwnL (itsC key j cs) w m B →
  ∃ Bs : Nat → Blocks,(∀ (k : Nat) (d : D) (u : Value),cs[k]? = some d → us[k]? = some u → Sep w (Bs k) d u) ∧ (∀ i j b,i < cs.length → j < cs.length → Bs i b → Bs j b → i = j) ∧ ∀ b,B b ↔ ∃ k,k < cs.length ∧ Bs k b
 | [],us,j,B,_,_,hO=>⟨fun _=>noBlocks,fun k d u h=>by simp at h,fun i j b h=>by simp at h,fun b=>⟨fun hb=>(hO b hb).elim,fun ⟨k,hk,_⟩=>by simp at hk⟩⟩
 | d :: cs,[],j,B,hl,_,_=>by simp at hl
 | d :: cs,u :: us,j,B,hl,hf,hO=>by
  obtain ⟨ht,hfz⟩:=hf 0 d u rfl rfl
  rw [itsC] at hO
  obtain ⟨B1,B2,hO1,hO2,hdj,hBB⟩:=hO.split
  obtain ⟨Bs,h1,h2,h3⟩:=cells_sep cs us (j + 1) B2 (by simpa using hl) (fun k d u hd hu=>by
   have:=hf (k + 1) d u (by simpa using hd) (by simpa using hu)
   rw [show j + (k + 1) = j + 1 + k by omega] at this
   exact this) hO2
  have hd0 : Sep w B1 d u:=by
   cases d with
   | v x=>
    cases hfz
    exact .v B1 _ (fun b hb=>hO1 b hb)
   | sl s es=>
    have hfz : Fz w F m (kD (key (j + 0)) s es) u:=hfz
    unfold kD at hfz
    obtain ⟨B3,B4,ht,h4,_,h6⟩:=hO1
    have e : ∀ b,B1 b ↔ B3 b:=fun b=>(h6 b).trans ⟨fun h=>h.elim id (fun h=>(h4 b h).elim),.inl⟩
    by_cases h0 : es = []
    ·rw [if_pos h0] at hfz
     subst h0
     rcases ht with ⟨_,ht⟩ | ⟨hn,_⟩
     ·cases hfz with
      | sl0 _ _ a cap=>exact .sl0 B1 s a cap (fun b hb=>ht b ((e b).1 hb))
      | sl _ _ _ b off cap _ _ _ _ _ _=>exact .sl0 B1 s _ cap (fun b hb=>ht b ((e b).1 hb))
     ·exact absurd rfl hn
    ·rw [if_neg h0] at hfz
     rcases ht with ⟨hn,_⟩ | ⟨_,_,b,cap,hg,hs⟩
     ·exact absurd hn h0
     ·generalize hel : es.length = n at hfz
      cases hfz with
      | kow _ _ _ _ b2 cap2 cur T hκ hg2 hs2 hle2 hb2 hcap2=>
       simp only [Nat.add_zero] at hg2
       rw [hg] at hg2
       obtain rfl : b = b2:=by injection hg2 with hg2; injection hg2
       simp only [hel] at hs
       exact (hs.recap h0 hle2 (fun cur' T' hb'=>by
        rw [hb2] at hb'
        obtain ⟨rfl,_⟩ : cur = cur' ∧ T = T':=by injection hb' with hb'; injection hb' with h1 h2; exact ⟨h1,h2⟩
        exact hcap2)).eqv e
   | _=>cases ht
  refine ⟨fun k=>match k with | 0=>B1 | k + 1=>Bs k,fun k d' u' hd hu=>?_,fun i i' b hi hi' hb hb'=>?_,fun b=>?_⟩
  ·cases k with
   | zero=>
    obtain rfl : d = d':=by simpa using hd
    obtain rfl : u = u':=by simpa using hu
    exact hd0
   | succ k=>exact h1 k d' u' (by simpa using hd) (by simpa using hu)
  ·cases i with
   | zero=>
    cases i' with
    | zero=>rfl
    | succ i'=>exact (hdj b hb ((h3 b).2 ⟨i',by simpa using hi',hb'⟩)).elim
   | succ i=>
    cases i' with
    | zero=>exact (hdj b hb' ((h3 b).2 ⟨i,by simpa using hi,hb⟩)).elim
    | succ i'=>rw [h2 i i' b (by simpa using hi) (by simpa using hi') hb hb']
  ·rw [hBB b,h3 b]
   constructor
   ·rintro (h | ⟨k,hk,h⟩)
    ·exact ⟨0,by simp,h⟩
    ·exact ⟨k + 1,by simpa using hk,h⟩
   ·rintro ⟨k,hk,h⟩
    cases k with
    | zero=>exact .inl h
    | succ k=>exact .inr ⟨k,by simpa using hk,h⟩
theorem Names.fold {m : Names} {κ : Nat} {q : Option Nat} (hn : m κ = none) : ∀ g p,m g = some p → (fun x=>if x = κ then some q else m x) g = some p:=fun g p h=>by
 show (if g = κ then some q else m g) = some p
 rw [if_neg (fun e=>by rw [e,hn] at h; cases h)]
 exact h
theorem wk_fold {kk k p : Nat} {σ : Env} {fm : Fm} {m0 : Names} (k' t g s : Nat) (es es' : List D) (key : Nat → Nat) (rest : List It) (hgh : σ gh = .gho 0 [.fam (famOf fm p m0)] 0 k) (htn : t < gh) (ht : σ t = .own g s es.length) (hgn : nb ≤ g) (hg : σ g = .row s es') (h0 : es ≠ []) (hle' : es'.length = es.length)
  (hlen : ∀ (e : D),e ∈ es → e.cells.length = s) (hcl : (D.flat es').length = (D.flat es).length) (hcells : ∀ (j : Nat) (d : D),(D.flat es)[j]? = some d → treC d = true ∧ (D.flat es')[j]? = some (kC (key j) d))
  (hp1 : (fm.its k).Perm (itsC key 0 (D.flat es) ++ rest)) (hp2 : (fm.its k').Perm (⟨fm.top k,s,es⟩ :: rest)) (hr1 : ∀ it,it ∈ rest → it.es ≠ [] → it.κ < fm.top k) (htop : fm.top k' = fm.top k + 1) (hnb : fm.top k' ≤ 900000) (hpt : p ≤ fm.top k) :
  Wk kk σ (Env.put [(gh,.gho 0 [.fam (famOf fm p m0)] 0 k'),(g,.any),(t,.kow (fm.top k) s es.length)] σ):=by
 rintro G a w rfl ⟨hdf,F,m,hR⟩
 have hn1 : nb = 1000000:=rfl
 have hg1 : gh = 999999:=rfl
 obtain ⟨Y,B,hY,hE,hj,hY0,hYL,hYl,hYs,hOwn,hBF,hfree,hm0⟩:=fam_at hR.ext hgh
 obtain ⟨T0,hT0⟩ : ∃ T0,T0 = fm.top k:=⟨_,rfl⟩
 rw [← hT0] at hp2 hr1 htop hpt hfree ⊢
 have hmT : m T0 = none:=hfree T0 (Nat.le_refl _) (by omega)
 have hblk:=hR.blks g hgn
 rw [hg] at hblk
 rcases hblk with ⟨he,_⟩ | ⟨b,cur,T,hmg,hb,hs,hlen',hsz,hcc,hnF⟩
 ·exact absurd (List.length_eq_zero_iff.1 (by rw [← hle',he]; rfl)) h0
 have hsl:=hR.slots t (by omega)
 rw [ht] at hsl
 obtain ⟨cap,hxt,hlec,hcap⟩ : ∃ cap,a.tmps.getD t undef = .slice (some ⟨b,0,none⟩) es.length cap ∧ es.length ≤ cap ∧ cap * s ≤ cur.size:=by
  generalize a.tmps.getD t undef = x at hsl
  generalize hel : es.length = n at hsl
  cases hsl with
  | own _ _ _ _ b2 cap cur2 T2 hg2 hs2 hle2 hb2 hcap2=>
   rw [hmg] at hg2
   obtain rfl : b = b2:=by injection hg2 with hg2; injection hg2
   rw [hb] at hb2
   obtain ⟨rfl,_⟩ : cur = cur2 ∧ T = T2:=by injection hb2 with hb2; injection hb2 with h1 h2; exact ⟨h1,h2⟩
   exact ⟨cap,rfl,hle2,hcap2⟩
  | own0 _ _ _ a hg2=>rw [hmg] at hg2; cases hg2
 obtain ⟨B1,B2,hO1,hO2,hdj,hBB⟩:=(hOwn.perm hp1).split
 obtain ⟨hlo,hJk,hdis⟩:=hE.yes Y hY
 have hbB : ¬ B b:=(hdis g b hgn (by rw [hg]; rfl) hmg).1
 have hfl : (D.flat es).length = es.length * s:=flat_len hlen
 have hml : es.length * s ≤ cur.size:=Nat.le_trans (Nat.mul_le_mul_right s hlec) hcap
 have hul : (cur.toList.take (es.length * s)).length = (D.flat es).length:=by
  have hcl : cur.toList.length = cur.size:=rfl
  rw [List.length_take,hfl]
  omega
 rw [hle'] at hcc
 obtain ⟨Bs,q1,q2,q3⟩:=cells_sep (w:=w) (F:=F) (m:=m) (key:=key) (D.flat es) (cur.toList.take (es.length * s)) 0 B1 hul (fun j d u hd hu=>by
  obtain ⟨h1,h2⟩:=hcells j d hd
  rw [Nat.zero_add]
  exact ⟨h1,hcc.fz j _ u h2 hu⟩) hO1
 have hsep : Sep w (fun c=>c = b ∨ B1 c) (.sl s es) (.slice (some ⟨b,0,none⟩) es.length cap):=
  .sl _ Bs s es b cap cur T hs h0 hlec hlen hb hcap hcc.one q1 q2 (fun j hj h=>hbB ((hBB b).2 (.inl ((q3 b).2 ⟨j,hj,h⟩)))) (fun c=>by
   constructor
   ·rintro (h | h)
    ·exact .inl h
    ·exact .inr ((q3 c).1 h)
   ·rintro (h | h)
    ·exact .inl h
    ·exact .inr ((q3 c).2 h))
 have hmm:=Names.fold (q:=some b) hmT
 obtain ⟨m',hm'⟩ : ∃ m' : Names,m' = fun x=>if x = T0 then some (some b) else m x:=⟨_,rfl⟩
 rw [← hm'] at hmm
 have hmo : ∀ x,x ≠ T0 → m' x = m x:=fun x hx=>by rw [hm']; exact if_neg hx
 have hmT' : m' T0 = some (some b):=by rw [hm']; exact if_pos rfl
 have hget : ∀ x,x ≠ gh → x ≠ g → x ≠ t → Env.put [(gh,D.gho 0 [.fam (famOf fm p m0)] 0 k'),(g,D.any),(t,D.kow T0 s es.length)] σ x = σ x:=fun x h1 h2 h3=>by
  show ((σ.set gh _).set g _).set t _ x = σ x
  rw [Env.set_ne _ _ _ _ h3,Env.set_ne _ _ _ _ h2,Env.set_ne _ _ _ _ h1]
 have hgett : Env.put [(gh,D.gho 0 [.fam (famOf fm p m0)] 0 k'),(g,D.any),(t,D.kow T0 s es.length)] σ t = .kow T0 s es.length:=Env.set_same _ _ _
 have hgetg : Env.put [(gh,D.gho 0 [.fam (famOf fm p m0)] 0 k'),(g,D.any),(t,D.kow T0 s es.length)] σ g = .any:=by
  show ((σ.set gh _).set g _).set t _ g = _
  rw [Env.set_ne _ _ _ _ (by omega),Env.set_same]
 have hgetgh : Env.put [(gh,D.gho 0 [.fam (famOf fm p m0)] 0 k'),(g,D.any),(t,D.kow T0 s es.length)] σ gh = .gho 0 [.fam (famOf fm p m0)] 0 k':=by
  show ((σ.set gh _).set g _).set t _ gh = _
  rw [Env.set_ne _ _ _ _ (by omega),Env.set_ne _ _ _ _ (by omega),Env.set_same]
 generalize Env.put [(gh,D.gho 0 [.fam (famOf fm p m0)] 0 k'),(g,D.any),(t,D.kow T0 s es.length)] σ = τ at hget hgett hgetg hgetgh ⊢
 have hblkτ : ∀ x,nb ≤ x → (τ x).isBlk = true → x ≠ g ∧ τ x = σ x:=fun x hx h=>by
  have hxg : x ≠ g:=fun e=>by rw [e,hgetg] at h; cases h
  exact ⟨hxg,hget x (by omega) hxg (by omega)⟩
 refine ⟨hdf,F,m',hR.size,hR.nle,fun x hx=>?_,fun x hx=>?_,fun x y c hx hy h1 h2 h3 h4=>?_,hR.wf,hR.chg,fun x c hx h1 h2=>?_,fun i hi=>?_,hR.nlt,fun c=>B c ∨ c = b,?_⟩
 ·by_cases e : x = t
  ·subst e
   rw [hgett,hxt]
   exact .kow m' T0 s _ b cap cur T (by omega) hmT' hs hlec hb hcap
  ·by_cases e2 : x = gh
   ·subst e2; rw [hgetgh]; exact .gho _ _ _ _ _ _
   ·rw [hget x e2 (by omega) e]
    exact (hR.slots x hx).names hmm
 ·by_cases e : x = g
  ·subst e; rw [hgetg]; trivial
  ·rw [hget x (by omega) e (by omega)]
   exact (hR.blks x hx).stable (Chg.refl w F noBlocks) hmm (fun h=>by have:=hR.blks x hx; rw [h] at this; rw [hmo x (by omega)]; exact this) (fun _ _ _=>id)
 ·obtain ⟨_,e1⟩:=hblkτ x hx h1
  obtain ⟨_,e2⟩:=hblkτ y hy h2
  rw [e1] at h1
  rw [e2] at h2
  rw [hmo x (by omega)] at h3
  rw [hmo y (by omega)] at h4
  exact hR.inj x y c hx hy h1 h2 h3 h4
 ·obtain ⟨_,e1⟩:=hblkτ x hx h1
  rw [e1] at h1
  rw [hmo x (by omega)] at h2
  exact hR.own x c hx h1 h2
 ·have h1:=hR.par i hi
  refine ⟨?_,by rw [hmo (nb + i) (by omega)]; exact h1.2⟩
  by_cases e : nb + i = g
  ·rw [e,hgetg]; intro h; cases h
  ·rw [hget _ (by omega) e (by omega)]; exact h1.1
 ·refine ⟨fun q hq=>?_,fun c hc=>?_,fun h=>(by rw [hY] at h; cases h),fun Y' hY'=>?_,hE.low⟩
  ·obtain ⟨k1,k2,k3,k4⟩:=hE.kept q hq
   refine ⟨k1,k2,k3,fun h=>?_⟩
   rcases h with h | h
   ·exact k4 h
   ·rw [h,hb] at k1
    rw [← Option.some.inj k1] at k2
    cases k2
  ·rcases hc with hc | rfl
   ·exact hE.own c hc
   ·exact hR.own g c hgn (by rw [hg]; rfl) hmg
  ·rw [hY] at hY'
   obtain rfl:=Option.some.inj hY'
   refine ⟨hlo,⟨k',?_,fun l L e k'' he=>?_⟩,fun x c hx h1 h2=>?_⟩
   ·rw [hj]
    refine ⟨OwnL.perm hp2.symm ⟨fun c=>c = b ∨ B1 c,B2,.inr ⟨h0,by show T0 < nb; omega,b,cap,hmT',hsep⟩,hO2.stable (fun _ _=>rfl) (fun it hit hne=>hmo _ (by have:=hr1 it hit hne; omega)),fun c hc h9=>?_,fun c=>?_⟩,fun c o hc ho=>?_,fun κ h1 h2=>?_,fun κ h1=>?_⟩
    ·rcases hc with rfl | hc
     ·exact hbB ((hBB c).2 (.inr h9))
     ·exact hdj c hc h9
    ·show (B c ∨ c = b) ↔ (c = b ∨ B1 c) ∨ B2 c
     rw [hBB c]
     constructor
     ·rintro ((h | h) | h)
      ·exact .inl (.inr h)
      ·exact .inr h
      ·exact .inl (.inl h)
     ·rintro ((h | h) | h)
      ·exact .inr h
      ·exact .inl (.inl h)
      ·exact .inl (.inr h)
    ·rcases hc with hc | rfl
     ·exact hBF c o hc ho
     ·exact hnF o ho
    ·rw [hmo κ (by omega)]
     exact hfree κ (by omega) h2
    ·rw [hmo κ (by omega)]
     exact hm0 κ h1
   ·rw [hgetgh] at he
    injection he with e1 e2 e3 e4
    exact ⟨by rw [← e1,hYl],by rw [← e2,hYL],by rw [← e3,hYs],e4.symm⟩
   ·obtain ⟨hxg,e1⟩:=hblkτ x hx h1
    rw [e1] at h1
    rw [hmo x (by omega)] at h2
    have hd:=hdis x c hx h1 h2
    refine ⟨fun h=>?_,hd.2⟩
    rcases h with h | rfl
    ·exact hd.1 h
    ·exact hxg (hR.inj x g c hx hgn h1 (by rw [hg]; rfl) h2 hmg)
def bndOf (us : List Value) (j : Nat) : Option (Option Nat):=match us[j]? with
 | some (.slice (some ad) _ _)=>some (some ad.block)
 | _=>none
theorem cells_own {w : World} {m : Names} {T0 : Nat} {Bs : Nat → Blocks} {us0 : List Value} (hT : T0 + us0.length < nb) (hm : ∀ j,j < us0.length → m (T0 + j) = bndOf us0 j) : ∀ (cs : List D) (us : List Value) (j : Nat),us0.drop j = us → us.length = cs.length → (∀ (k : Nat) (d : D) (u : Value),cs[k]? = some d → us[k]? = some u → treC d = true ∧ Sep w (Bs (j + k)) d u) →
  (∀ i i' b,i < cs.length → i' < cs.length → Bs (j + i) b → Bs (j + i') b → i = i') → OwnL (itsC (T0 + ·) j cs) w m (fun c=>∃ k,k < cs.length ∧ Bs (j + k) c)
 | [],us,j,_,_,_,_=>fun b ⟨k,hk,_⟩=>by simp at hk
 | d :: cs,[],j,_,hl,_,_=>by simp at hl
 | d :: cs,u :: us,j,hu,hl,hf,hd=>by
  obtain ⟨ht,hs⟩:=hf 0 d u rfl rfl
  rw [Nat.add_zero] at hs
  have huj : us0[j]? = some u:=by
   have : (us0.drop j)[0]? = some u:=by rw [hu]; rfl
   rw [List.getElem?_drop,Nat.add_zero] at this
   exact this
  have hjl:=(List.getElem?_eq_some_iff.1 huj).1
  have ih:=cells_own hT hm cs us (j + 1) (by rw [← List.drop_drop,hu]; rfl) (by simpa using hl) (fun k d u hd hu=>by
   have:=hf (k + 1) d u (by simpa using hd) (by simpa using hu)
   rw [show j + (k + 1) = j + 1 + k by omega] at this
   exact this) (fun i i' b hi hi' hb hb'=>by
   rw [show j + 1 + i = j + (i + 1) by omega] at hb
   rw [show j + 1 + i' = j + (i' + 1) by omega] at hb'
   have:=hd (i + 1) (i' + 1) b (by simpa using hi) (by simpa using hi') hb hb'
   omega)
  have h0 : OwnL (itC (T0 + j) d) w m (Bs j):=by
   cases d with
   | v x=>
    cases hs with
    | v _ _ hB=>exact hB
   | sl s es=>
    refine ⟨Bs j,noBlocks,?_,fun _ hb=>hb,fun _ _ hb=>hb,fun b=>⟨.inl,fun h=>h.elim id (fun h=>h.elim)⟩⟩
    cases hs with
    | sl0 _ _ a cap hB=>exact .inl ⟨rfl,hB⟩
    | sl _ Bs' _ _ b cap cur T hs h0 hle hlen hb hcap h1 hr hd' hn hB=>
     refine .inr ⟨h0,by show T0 + j < nb; omega,b,cap,?_,.sl _ Bs' s es b cap cur T hs h0 hle hlen hb hcap h1 hr hd' hn hB⟩
     rw [hm j hjl]
     unfold bndOf
     rw [huj]
   | _=>cases ht
  rw [itsC]
  refine OwnL.join h0 ih (fun b hb ⟨k,hk,hb'⟩=>?_) (fun b=>?_)
  ·rw [show j + 1 + k = j + (k + 1) by omega] at hb'
   have:=hd 0 (k + 1) b (by simp) (by simpa using hk) hb hb'
   omega
  ·constructor
   ·rintro ⟨k,hk,hb⟩
    cases k with
    | zero=>exact .inl hb
    | succ k=>exact .inr ⟨k,by simpa using hk,by rw [show j + 1 + k = j + (k + 1) by omega]; exact hb⟩
   ·rintro (hb | ⟨k,hk,hb⟩)
    ·exact ⟨0,by simp,hb⟩
    ·exact ⟨k + 1,by simpa using hk,by rw [show j + (k + 1) = j + 1 + k by omega]; exact hb⟩
theorem wk_unfold {kk k p : Nat} {σ : Env} {fm : Fm} {m0 : Names} (k' t g κ s : Nat) (es es' : List D) (rest : List It) (hgh : σ gh = .gho 0 [.fam (famOf fm p m0)] 0 k) (htn : t < gh) (ht : σ t = .kow κ s es.length) (hgn : nb ≤ g) (hg : σ g = .free) (h0 : es ≠ []) (hle' : es'.length = es.length)
  (hlen' : ∀ (e : D),e ∈ es' → e.cells.length = s) (hcl : (D.flat es').length = (D.flat es).length) (hcells : ∀ (j : Nat) (d : D),(D.flat es)[j]? = some d → treC d = true ∧ (D.flat es')[j]? = some (kC (fm.top k + j) d))
  (hp1 : (fm.its k).Perm (⟨κ,s,es⟩ :: rest)) (hp2 : (fm.its k').Perm (itsC (fm.top k + ·) 0 (D.flat es) ++ rest)) (hr1 : ∀ it,it ∈ rest → it.es ≠ [] → it.κ < fm.top k) (htop : fm.top k' = fm.top k + (D.flat es).length) (hnb : fm.top k' ≤ 900000) (hpt : p ≤ fm.top k) :
  Wk kk σ (Env.put [(gh,.gho 0 [.fam (famOf fm p m0)] 0 k'),(g,.row s es'),(t,.own g s es.length)] σ):=by
 rintro G a w rfl ⟨hdf,F,m,hR⟩
 have hn1 : nb = 1000000:=rfl
 have hg1 : gh = 999999:=rfl
 obtain ⟨Y,B,hY,hE,hj,hY0,hYL,hYl,hYs,hOwn,hBF,hfree,hm0⟩:=fam_at hR.ext hgh
 obtain ⟨T0,hT0⟩ : ∃ T0,T0 = fm.top k:=⟨_,rfl⟩
 rw [← hT0] at hp2 hr1 htop hpt hfree hcells
 have hmg : m g = none:=by have:=hR.blks g hgn; rw [hg] at this; exact this
 obtain ⟨B1,B2,ht1,hO2,hdj,hBB⟩:=hOwn.perm hp1
 rcases ht1 with ⟨h,_⟩ | ⟨_,hκ,b,cap0,hmκ,hsep⟩
 ·exact absurd h h0
 obtain ⟨hlo,hJk,hdis⟩:=hE.yes Y hY
 have hsl:=hR.slots t (by omega)
 rw [ht] at hsl
 obtain ⟨cap,hxt,hlec,hcap'⟩ : ∃ cap,a.tmps.getD t undef = .slice (some ⟨b,0,none⟩) es.length cap ∧ es.length ≤ cap ∧ ∀ cur T,w.heap[b]? = some (.cells cur T (0,0)) → cap * s ≤ cur.size:=by
  generalize a.tmps.getD t undef = x at hsl
  generalize hel : es.length = n at hsl
  cases hsl with
  | kow _ _ _ _ b2 cap cur2 T2 hκ2 hg2 hs2 hle2 hb2 hcap2=>
   have hmκ : m κ = some (some b):=hmκ
   rw [hmκ] at hg2
   obtain rfl : b = b2:=by injection hg2 with hg2; injection hg2
   exact ⟨cap,rfl,hle2,fun cur T hb=>by
    rw [hb2] at hb
    obtain ⟨rfl,_⟩ : cur2 = cur ∧ T2 = T:=by injection hb with hb; injection hb with h1 h2; exact ⟨h1,h2⟩
    exact hcap2⟩
 have hsep : Sep w B1 (.sl s es) (.slice (some ⟨b,0,none⟩) es.length cap0):=hsep
 generalize hel : es.length = n0 at hsep
 cases hsep with
 | sl0 _ _ _ _ _=>exact absurd rfl h0
 | sl _ Bs _ _ _ _ cur T hs _ hle hlen hb hcap h1 hr hd hn hB=>
 have hcap2:=hcap' cur T hb
 have hfl : (D.flat es).length = es.length * s:=flat_len hlen
 have hml : es.length * s ≤ cur.size:=Nat.le_trans (Nat.mul_le_mul_right s hle) hcap
 obtain ⟨us,hus⟩ : ∃ us,us = cur.toList.take (es.length * s):=⟨_,rfl⟩
 rw [← hus] at h1 hr
 have hul : us.length = (D.flat es).length:=by
  have hcl : cur.toList.length = cur.size:=rfl
  rw [hus,List.length_take,hfl]
  omega
 obtain ⟨m',hm'⟩ : ∃ m' : Names,m' = fun x=>if x = g then some (some b) else if T0 ≤ x ∧ x < T0 + us.length then bndOf us (x - T0) else m x:=⟨_,rfl⟩
 have hmg' : m' g = some (some b):=by rw [hm']; exact if_pos rfl
 have hmb : ∀ j,j < us.length → m' (T0 + j) = bndOf us j:=fun j hj=>by
  rw [hm']
  show (if T0 + j = g then some (some b) else if T0 ≤ T0 + j ∧ T0 + j < T0 + us.length then bndOf us (T0 + j - T0) else m (T0 + j)) = _
  rw [if_neg (by omega),if_pos ⟨by omega,by omega⟩,Nat.add_sub_cancel_left]
 have hmo : ∀ x,x ≠ g → (x < T0 ∨ T0 + us.length ≤ x) → m' x = m x:=fun x h1 h2=>by
  rw [hm']
  show (if x = g then some (some b) else if T0 ≤ x ∧ x < T0 + us.length then bndOf us (x - T0) else m x) = _
  rw [if_neg h1,if_neg (by omega)]
 have hmm : ∀ x q,m x = some q → m' x = some q:=fun x q hq=>by
  rw [hmo x (fun e=>by rw [e,hmg] at hq; cases hq) (Classical.byContradiction fun h=>by rw [hfree x (by omega) (by omega)] at hq; cases hq)]
  exact hq
 have hb1 : B1 b:=(hB b).2 (.inl rfl)
 have hbB : B b:=(hBB b).2 (.inl hb1)
 have hOc : OwnL (itsC (T0 + ·) 0 (D.flat es)) w m' (fun c=>∃ k,k < (D.flat es).length ∧ Bs (0 + k) c):=
  cells_own (us0:=us) (by omega) hmb (D.flat es) us 0 rfl hul (fun k d u hk hu=>by rw [Nat.zero_add]; exact ⟨(hcells k d hk).1,hr k d u hk hu⟩) (fun i i' c hi hi' h2 h3=>hd i i' c hi hi' (by rw [Nat.zero_add] at h2; exact h2) (by rw [Nat.zero_add] at h3; exact h3))
 have hget : ∀ x,x ≠ gh → x ≠ g → x ≠ t → Env.put [(gh,D.gho 0 [.fam (famOf fm p m0)] 0 k'),(g,D.row s es'),(t,D.own g s es.length)] σ x = σ x:=fun x h1 h2 h3=>by
  show ((σ.set gh _).set g _).set t _ x = σ x
  rw [Env.set_ne _ _ _ _ h3,Env.set_ne _ _ _ _ h2,Env.set_ne _ _ _ _ h1]
 have hgett : Env.put [(gh,D.gho 0 [.fam (famOf fm p m0)] 0 k'),(g,D.row s es'),(t,D.own g s es.length)] σ t = .own g s es.length:=Env.set_same _ _ _
 have hgetg : Env.put [(gh,D.gho 0 [.fam (famOf fm p m0)] 0 k'),(g,D.row s es'),(t,D.own g s es.length)] σ g = .row s es':=by
  show ((σ.set gh _).set g _).set t _ g = _
  rw [Env.set_ne _ _ _ _ (by omega),Env.set_same]
 have hgetgh : Env.put [(gh,D.gho 0 [.fam (famOf fm p m0)] 0 k'),(g,D.row s es'),(t,D.own g s es.length)] σ gh = .gho 0 [.fam (famOf fm p m0)] 0 k':=by
  show ((σ.set gh _).set g _).set t _ gh = _
  rw [Env.set_ne _ _ _ _ (by omega),Env.set_ne _ _ _ _ (by omega),Env.set_same]
 generalize Env.put [(gh,D.gho 0 [.fam (famOf fm p m0)] 0 k'),(g,D.row s es'),(t,D.own g s es.length)] σ = τ at hget hgett hgetg hgetgh ⊢
 have hbig : ∀ x,nb ≤ x → x ≠ g → τ x = σ x ∧ m' x = m x:=fun x hx hxg=>⟨hget x (by omega) hxg (by omega),hmo x hxg (.inr (by omega))⟩
 refine ⟨hdf,F,m',hR.size,hR.nle,fun x hx=>?_,fun x hx=>?_,fun x y c hx hy h1 h2 h3 h4=>?_,hR.wf,hR.chg,fun x c hx h1 h2=>?_,fun i hi=>?_,hR.nlt,fun c=>B c ∧ c ≠ b,?_⟩
 ·by_cases e : x = t
  ·subst e
   rw [hgett,hxt]
   exact .own m' g s _ b cap cur T hmg' hs hlec hb hcap2
  ·by_cases e2 : x = gh
   ·subst e2; rw [hgetgh]; exact .gho _ _ _ _ _ _
   ·rw [hget x e2 (by omega) e]
    exact (hR.slots x hx).names hmm
 ·by_cases e : x = g
  ·subst e
   rw [hgetg]
   refine .inr ⟨b,cur,T,hmg',hb,hs,hlen',by rw [hle']; exact hml,?_,fun o ho=>hBF b o hbB ho⟩
   rw [hle',← hus]
   refine ⟨by rw [hul,hcl],h1,fun j d' u hd' hu=>?_⟩
   have hjl : j < (D.flat es).length:=by rw [← hcl]; exact (List.getElem?_eq_some_iff.1 hd').1
   obtain ⟨d,hdj'⟩ : ∃ d,(D.flat es)[j]? = some d:=⟨_,List.getElem?_eq_getElem hjl⟩
   obtain ⟨htd,hd2⟩:=hcells j d hdj'
   rw [hd2] at hd'
   obtain rfl:=Option.some.inj hd'
   have hsj:=hr j d u hdj' hu
   cases d with
   | v y=>
    cases hsj with
    | v _ _ _=>exact .v _ _
   | sl s2 e2=>
    show Fz w F m' (kD (T0 + j) s2 e2) u
    unfold kD
    cases hsj with
    | sl0 _ _ a' c' _=>rw [if_pos rfl]; exact .sl0 _ _ _ _
    | sl _ Bs2 _ _ bj capj curj Tj hsj0 he0 hlej hlenj hbj hcapj _ _ _ _ _=>
     rw [if_neg he0]
     refine .kow m' (T0 + j) s2 _ bj capj curj Tj (by omega) ?_ hsj0 hlej hbj hcapj
     rw [hmb j (by omega)]
     unfold bndOf
     rw [hu]
   | _=>cases htd
  ·obtain ⟨e1,e2⟩:=hbig x hx e
   rw [e1]
   exact (hR.blks x hx).stable (Chg.refl w F noBlocks) hmm (fun h=>by have:=hR.blks x hx; rw [h] at this; rw [e2]; exact this) (fun _ _ _=>id)
 ·by_cases ex : x = g
  ·by_cases ey : y = g
   ·rw [ex,ey]
   ·obtain ⟨e1,e2⟩:=hbig y hy ey
    rw [e1] at h2
    rw [e2] at h4
    rw [ex,hmg'] at h3
    obtain rfl : b = c:=by injection h3 with h3; injection h3
    exact absurd hbB (hdis y b hy h2 h4).1
  ·obtain ⟨e1,e2⟩:=hbig x hx ex
   rw [e1] at h1
   rw [e2] at h3
   by_cases ey : y = g
   ·rw [ey,hmg'] at h4
    obtain rfl : b = c:=by injection h4 with h4; injection h4
    exact absurd hbB (hdis x b hx h1 h3).1
   ·obtain ⟨e3,e4⟩:=hbig y hy ey
    rw [e3] at h2
    rw [e4] at h4
    exact hR.inj x y c hx hy h1 h2 h3 h4
 ·by_cases ex : x = g
  ·rw [ex,hmg'] at h2
   obtain rfl : b = c:=by injection h2 with h2; injection h2
   exact hE.own b hbB
  ·obtain ⟨e1,e2⟩:=hbig x hx ex
   rw [e1] at h1
   rw [e2] at h2
   exact hR.own x c hx h1 h2
 ·have h1:=hR.par i hi
  have e : nb + i ≠ g:=fun e=>h1.1 (by rw [e]; exact hg)
  obtain ⟨e1,e2⟩:=hbig (nb + i) (Nat.le_add_right _ _) e
  exact ⟨by rw [e1]; exact h1.1,by rw [e2]; exact h1.2⟩
 ·refine ⟨fun q hq=>?_,fun c hc=>hE.own c hc.1,fun h=>(by rw [hY] at h; cases h),fun Y' hY'=>?_,hE.low⟩
  ·obtain ⟨k1,k2,k3,k4⟩:=hE.kept q hq
   exact ⟨k1,k2,k3,fun h=>k4 h.1⟩
  ·rw [hY] at hY'
   obtain rfl:=Option.some.inj hY'
   refine ⟨hlo,⟨k',?_,fun l L e k'' he=>?_⟩,fun x c hx h1 h2=>?_⟩
   ·rw [hj]
    refine ⟨(OwnL.join hOc (hO2.stable (fun _ _=>rfl) (fun it hit hne=>hmo _ (by have:=hr1 it hit hne; omega) (.inl (hr1 it hit hne)))) (fun c ⟨k,hk,hc⟩ h9=>hdj c ((hB c).2 (.inr ⟨k,hk,by rw [Nat.zero_add] at hc; exact hc⟩)) h9) (fun c=>?_)).perm hp2.symm,fun c o hc ho=>hBF c o hc.1 ho,fun x h1 h2=>?_,fun x h1=>?_⟩
    ·show (B c ∧ c ≠ b) ↔ _
     rw [hBB c,hB c]
     constructor
     ·rintro ⟨(h | ⟨k,hk,h⟩) | h,hne⟩
      ·exact absurd h hne
      ·exact .inl ⟨k,hk,by rw [Nat.zero_add]; exact h⟩
      ·exact .inr h
     ·rintro (⟨k,hk,h⟩ | h)
      ·rw [Nat.zero_add] at h
       exact ⟨.inl (.inr ⟨k,hk,h⟩),fun e=>hn k hk (by rw [← e]; exact h)⟩
      ·exact ⟨.inr h,fun e=>hdj c (by rw [e]; exact hb1) h⟩
    ·rw [hmo x (by omega) (.inr (by omega))]
     exact hfree x (by omega) h2
    ·rw [hmo x (by omega) (.inl (by omega))]
     exact hm0 x h1
   ·rw [hgetgh] at he
    injection he with e1 e2 e3 e4
    exact ⟨by rw [← e1,hYl],by rw [← e2,hYL],by rw [← e3,hYs],e4.symm⟩
   ·by_cases ex : x = g
    ·rw [ex,hmg'] at h2
     obtain rfl : b = c:=by injection h2 with h2; injection h2
     exact ⟨fun h=>h.2 rfl,by omega⟩
    ·obtain ⟨e1,e2⟩:=hbig x hx ex
     rw [e1] at h1
     rw [e2] at h2
     exact ⟨fun h=>(hdis x c hx h1 h2).1 h.1,(hdis x c hx h1 h2).2⟩
end Go.Proofs.Ytedmegmhjmabcaa
