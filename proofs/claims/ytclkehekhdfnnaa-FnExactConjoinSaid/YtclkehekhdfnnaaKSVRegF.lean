/-
  A row of one's own becomes a tree under a key, and the other way round. No condition.
-/
import Derived.Test.YtclkehekhdfnnaaKSVReg
set_option maxHeartbeats 4000000
set_option maxRecDepth 100000
set_option linter.unusedVariables false
set_option linter.unusedSimpArgs false
namespace Go.Proofs.Ytclkehekhdfnnaa
open Go.RowKit
def kC (κ : Nat) : D → D
 | .sl s es=>kD κ s es
 | d=>d
def itC (κ : Nat) : D → List It
 | .sl s es=>[⟨κ,s,es⟩]
 | _=>[]
def itsC (key : Nat → Nat) : Nat → List D → List It
 | _,[]=>[]
 | j,d :: l=>itC (key j) d ++ itsC key (j + 1) l
def treC : D → Bool
 | .v _=>true
 | .sl _ _=>true
 | _=>false
theorem Sep.recap {w : World} {B : Blocks} {s : Nat} {es : List D} {b n cap cap' : Nat} (h : Sep w B (.sl s es) (.slice (some ⟨b,0,none⟩) n cap)) (h0 : es ≠ []) (hle : n ≤ cap') (hc : ∀ cur T,w.heap[b]? = some (.cells cur T (0,0)) → cap' * s ≤ cur.size) : Sep w B (.sl s es) (.slice (some ⟨b,0,none⟩) n cap'):=by
 cases h with
 | sl0 _ _ _ _ _=>exact absurd rfl h0
 | sl _ Bs _ _ _ _ cur T hs h0 hle' hlen hb hcap h1 hr hd hn hB=>exact .sl B Bs s es b cap' cur T hs h0 hle hlen hb (hc cur T hb) h1 hr hd hn hB
theorem cells_sep {w : World} {F : Cells} {m : Names} {key : Nat → Nat} : ∀ (cs : List D) (us : List Value) (j : Nat) (B : Blocks),us.length = cs.length → (∀ (k : Nat) (d : D) (u : Value),cs[k]? = some d → us[k]? = some u → treC d = true ∧ Fz w F m (kC (key (j + k)) d) u) → OwnL (itsC key j cs) w m B →
  ∃ Bs : Nat → Blocks,(∀ (k : Nat) (d : D) (u : Value),cs[k]? = some d → us[k]? = some u → Sep w (Bs k) d u) ∧ (∀ i j b,i < cs.length → j < cs.length → Bs i b → Bs j b → i = j) ∧ ∀ b,B b ↔ ∃ k,k < cs.length ∧ Bs k b
 | [],us,j,B,_,_,hO=>⟨fun _=>noBlocks,fun k d u h=>by simp at h,fun i j b h=>by simp at h,fun b=>⟨fun hb=>(hO b hb).elim,fun ⟨k,hk,_⟩=>by simp at hk⟩⟩
 | d :: cs,[],j,B,hl,_,_=>by simp at hl
 | d :: cs,u :: us,j,B,hl,hf,hO=>by
  obtain ⟨ht,hfz⟩:=hf 0 d u rfl rfl
  rw [itsC] at hO
  obtain ⟨B1,B2,hO1,hO2,hdj,hBB⟩:=hO.split
  obtain ⟨Bs,h1,h2,h3⟩:=cells_sep cs us (j + 1) B2 (by simpa using hl) (fun k d u hd hu=>by
   have:=hf (k + 1) d u (by simpa using hd) (by simpa using hu)
   rw [show j + (k + 1) = j + 1 + k by omega] at this
   exact this) hO2
  have hd0 : Sep w B1 d u:=by
   cases d with
   | v x=>
    cases hfz
    exact .v B1 _ (fun b hb=>hO1 b hb)
   | sl s es=>
    have hfz : Fz w F m (kD (key (j + 0)) s es) u:=hfz
    unfold kD at hfz
    obtain ⟨B3,B4,ht,h4,_,h6⟩:=hO1
    have e : ∀ b,B1 b ↔ B3 b:=fun b=>(h6 b).trans ⟨fun h=>h.elim id (fun h=>(h4 b h).elim),.inl⟩
    by_cases h0 : es = []
    ·rw [if_pos h0] at hfz
     subst h0
     rcases ht with ⟨_,ht⟩ | ⟨hn,_⟩
     ·cases hfz with
      | sl0 _ _ a cap=>exact .sl0 B1 s a cap (fun b hb=>ht b ((e b).1 hb))
      | sl _ _ _ b off cap _ _ _ _ _ _=>exact .sl0 B1 s _ cap (fun b hb=>ht b ((e b).1 hb))
     ·exact absurd rfl hn
    ·rw [if_neg h0] at hfz
     rcases ht with ⟨hn,_⟩ | ⟨_,_,b,cap,hg,hs⟩
     ·exact absurd hn h0
     ·generalize hel : es.length = n at hfz
      cases hfz with
      | kow _ _ _ _ b2 cap2 cur T hκ hg2 hs2 hle2 hb2 hcap2=>
       simp only [Nat.add_zero] at hg2
       rw [hg] at hg2
       obtain rfl : b = b2:=by injection hg2 with hg2; injection hg2
       simp only [hel] at hs
       exact (hs.recap h0 hle2 (fun cur' T' hb'=>by
        rw [hb2] at hb'
        obtain ⟨rfl,_⟩ : cur = cur' ∧ T = T':=by injection hb' with hb'; injection hb' with h1 h2; exact ⟨h1,h2⟩
        exact hcap2)).eqv e
   | _=>cases ht
  refine ⟨fun k=>match k with | 0=>B1 | k + 1=>Bs k,fun k d' u' hd hu=>?_,fun i i' b hi hi' hb hb'=>?_,fun b=>?_⟩
  ·cases k with
   | zero=>
    obtain rfl : d = d':=by simpa using hd
    obtain rfl : u = u':=by simpa using hu
    exact hd0
   | succ k=>exact h1 k d' u' (by simpa using hd) (by simpa using hu)
  ·cases i with
   | zero=>
    cases i' with
    | zero=>rfl
    | succ i'=>exact (hdj b hb ((h3 b).2 ⟨i',by simpa using hi',hb'⟩)).elim
   | succ i=>
    cases i' with
    | zero=>exact (hdj b hb' ((h3 b).2 ⟨i,by simpa using hi,hb⟩)).elim
    | succ i'=>rw [h2 i i' b (by simpa using hi) (by simpa using hi') hb hb']
  ·rw [hBB b,h3 b]
   constructor
   ·rintro (h | ⟨k,hk,h⟩)
    ·exact ⟨0,by simp,h⟩
    ·exact ⟨k + 1,by simpa using hk,h⟩
   ·rintro ⟨k,hk,h⟩
    cases k with
    | zero=>exact .inl h
    | succ k=>exact .inr ⟨k,by simpa using hk,h⟩
theorem Names.fold {m : Names} {κ : Nat} {q : Option Nat} (hn : m κ = none) : ∀ g p,m g = some p → (fun x=>if x = κ then some q else m x) g = some p:=fun g p h=>by
 show (if g = κ then some q else m g) = some p
 rw [if_neg (fun e=>by rw [e,hn] at h; cases h)]
 exact h
theorem wk_fold {kk k p : Nat} {σ : Env} {fm : Fm} {m0 : Names} (k' t g s : Nat) (es es' : List D) (key : Nat → Nat) (rest : List It) (hgh : σ gh = .gho 0 [.fam (famOf fm p m0)] 0 k) (htn : t < gh) (ht : σ t = .own g s es.length) (hgn : nb ≤ g) (hg : σ g = .row s es') (h0 : es ≠ []) (hle' : es'.length = es.length)
  (hlen : ∀ (e : D),e ∈ es → e.cells.length = s) (hcl : (D.flat es').length = (D.flat es).length) (hcells : ∀ (j : Nat) (d : D),(D.flat es)[j]? = some d → treC d = true ∧ (D.flat es')[j]? = some (kC (key j) d))
  (hp1 : (fm.its k).Perm (itsC key 0 (D.flat es) ++ rest)) (hp2 : (fm.its k').Perm (⟨fm.top k,s,es⟩ :: rest)) (hr1 : ∀ it,it ∈ rest → it.es ≠ [] → it.κ < fm.top k) (htop : fm.top k' = fm.top k + 1) (hnb : fm.top k' ≤ 900000) (hpt : p ≤ fm.top k) :
  Wk kk σ (Env.put [(gh,.gho 0 [.fam (famOf fm p m0)] 0 k'),(g,.any),(t,.kow (fm.top k) s es.length)] σ):=by
 rintro G a w rfl ⟨hdf,F,m,hR⟩
 have hn1 : nb = 1000000:=rfl
 have hg1 : gh = 999999:=rfl
 obtain ⟨Y,B,hY,hE,hj,hY0,hYL,hYl,hYs,hOwn,hBF,hfree,hm0⟩:=fam_at hR.ext hgh
 obtain ⟨T0,hT0⟩ : ∃ T0,T0 = fm.top k:=⟨_,rfl⟩
 rw [← hT0] at hp2 hr1 htop hpt hfree ⊢
 have hmT : m T0 = none:=hfree T0 (Nat.le_refl _) (by omega)
 have hblk:=hR.blks g hgn
 rw [hg] at hblk
 rcases hblk with ⟨he,_⟩ | ⟨b,cur,T,hmg,hb,hs,hlen',hsz,hcc,hnF⟩
 ·exact absurd (List.length_eq_zero_iff.1 (by rw [← hle',he]; rfl)) h0
 have hsl:=hR.slots t (by omega)
 rw [ht] at hsl
 obtain ⟨cap,hxt,hlec,hcap⟩ : ∃ cap,a.tmps.getD t undef = .slice (some ⟨b,0,none⟩) es.length cap ∧ es.length ≤ cap ∧ cap * s ≤ cur.size:=by
  generalize a.tmps.getD t undef = x at hsl
  generalize hel : es.length = n at hsl
  cases hsl with
  | own _ _ _ _ b2 cap cur2 T2 hg2 hs2 hle2 hb2 hcap2=>
   rw [hmg] at hg2
   obtain rfl : b = b2:=by injection hg2 with hg2; injection hg2
   rw [hb] at hb2
   obtain ⟨rfl,_⟩ : cur = cur2 ∧ T = T2:=by injection hb2 with hb2; injection hb2 with h1 h2; exact ⟨h1,h2⟩
   exact ⟨cap,rfl,hle2,hcap2⟩
  | own0 _ _ _ a hg2=>rw [hmg] at hg2; cases hg2
 obtain ⟨B1,B2,hO1,hO2,hdj,hBB⟩:=(hOwn.perm hp1).split
 obtain ⟨hlo,hJk,hdis⟩:=hE.yes Y hY
 have hbB : ¬ B b:=(hdis g b hgn (by rw [hg]; rfl) hmg).1
 have hfl : (D.flat es).length = es.length * s:=flat_len hlen
 have hml : es.length * s ≤ cur.size:=Nat.le_trans (Nat.mul_le_mul_right s hlec) hcap
 have hul : (cur.toList.take (es.length * s)).length = (D.flat es).length:=by
  have hcl : cur.toList.length = cur.size:=rfl
  rw [List.length_take,hfl]
  omega
 rw [hle'] at hcc
 obtain ⟨Bs,q1,q2,q3⟩:=cells_sep (w:=w) (F:=F) (m:=m) (key:=key) (D.flat es) (cur.toList.take (es.length * s)) 0 B1 hul (fun j d u hd hu=>by
  obtain ⟨h1,h2⟩:=hcells j d hd
  rw [Nat.zero_add]
  exact ⟨h1,hcc.fz j _ u h2 hu⟩) hO1
 have hsep : Sep w (fun c=>c = b ∨ B1 c) (.sl s es) (.slice (some ⟨b,0,none⟩) es.length cap):=
  .sl _ Bs s es b cap cur T hs h0 hlec hlen hb hcap hcc.one q1 q2 (fun j hj h=>hbB ((hBB b).2 (.inl ((q3 b).2 ⟨j,hj,h⟩)))) (fun c=>by
   constructor
   ·rintro (h | h)
    ·exact .inl h
    ·exact .inr ((q3 c).1 h)
   ·rintro (h | h)
    ·exact .inl h
    ·exact .inr ((q3 c).2 h))
 have hmm:=Names.fold (q:=some b) hmT
 obtain ⟨m',hm'⟩ : ∃ m' : Names,m' = fun x=>if x = T0 then some (some b) else m x:=⟨_,rfl⟩
 rw [← hm'] at hmm
 have hmo : ∀ x,x ≠ T0 → m' x = m x:=fun x hx=>by rw [hm']; exact if_neg hx
 have hmT' : m' T0 = some (some b):=by rw [hm']; exact if_pos rfl
 have hget : ∀ x,x ≠ gh → x ≠ g → x ≠ t → Env.put [(gh,D.gho 0 [.fam (famOf fm p m0)] 0 k'),(g,D.any),(t,D.kow T0 s es.length)] σ x = σ x:=fun x h1 h2 h3=>by
  show ((σ.set gh _).set g _).set t _ x = σ x
  rw [Env.set_ne _ _ _ _ h3,Env.set_ne _ _ _ _ h2,Env.set_ne _ _ _ _ h1]
 have hgett : Env.put [(gh,D.gho 0 [.fam (famOf fm p m0)] 0 k'),(g,D.any),(t,D.kow T0 s es.length)] σ t = .kow T0 s es.length:=Env.set_same _ _ _
 have hgetg : Env.put [(gh,D.gho 0 [.fam (famOf fm p m0)] 0 k'),(g,D.any),(t,D.kow T0 s es.length)] σ g = .any:=by
  show ((σ.set gh _).set g _).set t _ g = _
  rw [Env.set_ne _ _ _ _ (by omega),Env.set_same]
 have hgetgh : Env.put [(gh,D.gho 0 [.fam (famOf fm p m0)] 0 k'),(g,D.any),(t,D.kow T0 s es.length)] σ gh = .gho 0 [.fam (famOf fm p m0)] 0 k':=by
  show ((σ.set gh _).set g _).set t _ gh = _
  rw [Env.set_ne _ _ _ _ (by omega),Env.set_ne _ _ _ _ (by omega),Env.set_same]
 generalize Env.put [(gh,D.gho 0 [.fam (famOf fm p m0)] 0 k'),(g,D.any),(t,D.kow T0 s es.length)] σ = τ at hget hgett hgetg hgetgh ⊢
 have hblkτ : ∀ x,nb ≤ x → (τ x).isBlk = true → x ≠ g ∧ τ x = σ x:=fun x hx h=>by
  have hxg : x ≠ g:=fun e=>by rw [e,hgetg] at h; cases h
  exact ⟨hxg,hget x (by omega) hxg (by omega)⟩
 refine ⟨hdf,F,m',hR.size,hR.nle,fun x hx=>?_,fun x hx=>?_,fun x y c hx hy h1 h2 h3 h4=>?_,hR.wf,hR.chg,fun x c hx h1 h2=>?_,fun i hi=>?_,hR.nlt,fun c=>B c ∨ c = b,?_⟩
 ·by_cases e : x = t
  ·subst e
   rw [hgett,hxt]
   exact .kow m' T0 s _ b cap cur T (by omega) hmT' hs hlec hb hcap
  ·by_cases e2 : x = gh
   ·subst e2; rw [hgetgh]; exact .gho _ _ _ _ _ _
   ·rw [hget x e2 (by omega) e]
    exact (hR.slots x hx).names hmm
 ·by_cases e : x = g
  ·subst e; rw [hgetg]; trivial
  ·rw [hget x (by omega) e (by omega)]
   exact (hR.blks x hx).stable (Chg.refl w F noBlocks) hmm (fun h=>by have:=hR.blks x hx; rw [h] at this; rw [hmo x (by omega)]; exact this) (fun _ _ _=>id)
 ·obtain ⟨_,e1⟩:=hblkτ x hx h1
  obtain ⟨_,e2⟩:=hblkτ y hy h2
  rw [e1] at h1
  rw [e2] at h2
  rw [hmo x (by omega)] at h3
  rw [hmo y (by omega)] at h4
  exact hR.inj x y c hx hy h1 h2 h3 h4
 ·obtain ⟨_,e1⟩:=hblkτ x hx h1
  rw [e1] at h1
  rw [hmo x (by omega)] at h2
  exact hR.own x c hx h1 h2
 ·have h1:=hR.par i hi
  refine ⟨?_,by rw [hmo (nb + i) (by omega)]; exact h1.2⟩
  by_cases e : nb + i = g
  ·rw [e,hgetg]; intro h; cases h
  ·rw [hget _ (by omega) e (by omega)]; exact h1.1
 ·refine ⟨fun q hq=>?_,fun c hc=>?_,fun h=>(by rw [hY] at h; cases h),fun Y' hY'=>?_,hE.low⟩
  ·obtain ⟨k1,k2,k3,k4⟩:=hE.kept q hq
   refine ⟨k1,k2,k3,fun h=>?_⟩
   rcases h with h | h
   ·exact k4 h
   ·rw [h,hb] at k1
    rw [← Option.some.inj k1] at k2
    cases k2
  ·rcases hc with hc | rfl
   ·exact hE.own c hc
   ·exact hR.own g c hgn (by rw [hg]; rfl) hmg
  ·rw [hY] at hY'
   obtain rfl:=Option.some.inj hY'
   refine ⟨hlo,⟨k',?_,fun l L e k'' he=>?_⟩,fun x c hx h1 h2=>?_⟩
   ·rw [hj]
    refine ⟨OwnL.perm hp2.symm ⟨fun c=>c = b ∨ B1 c,B2,.inr ⟨h0,by show T0 < nb; omega,b,cap,hmT',hsep⟩,hO2.stable (fun _ _=>rfl) (fun it hit hne=>hmo _ (by have:=hr1 it hit hne; omega)),fun c hc h9=>?_,fun c=>?_⟩,fun c o hc ho=>?_,fun κ h1 h2=>?_,fun κ h1=>?_⟩
    ·rcases hc with rfl | hc
     ·exact hbB ((hBB c).2 (.inr h9))
     ·exact hdj c hc h9
    ·show (B c ∨ c = b) ↔ (c = b ∨ B1 c) ∨ B2 c
     rw [hBB c]
     constructor
     ·rintro ((h | h) | h)
      ·exact .inl (.inr h)
      ·exact .inr h
      ·exact .inl (.inl h)
     ·rintro ((h | h) | h)
      ·exact .inr h
      ·exact .inl (.inl h)
      ·exact .inl (.inr h)
    ·rcases hc with hc | rfl
     ·exact hBF c o hc ho
     ·exact hnF o ho
    ·rw [hmo κ (by omega)]
     exact hfree κ (by omega) h2
    ·rw [hmo κ (by omega)]
     exact hm0 κ h1
   ·rw [hgetgh] at he
    injection he with e1 e2 e3 e4
    exact ⟨by rw [← e1,hYl],by rw [← e2,hYL],by rw [← e3,hYs],e4.symm⟩
   ·obtain ⟨hxg,e1⟩:=hblkτ x hx h1
    rw [e1] at h1
    rw [hmo x (by omega)] at h2
    have hd:=hdis x c hx h1 h2
    refine ⟨fun h=>?_,hd.2⟩
    rcases h with h | rfl
    ·exact hd.1 h
    ·exact hxg (hR.inj x g c hx hgn h1 (by rw [hg]; rfl) h2 hmg)
def bndOf (us : List Value) (j : Nat) : Option (Option Nat):=match us[j]? with
 | some (.slice (some ad) _ _)=>some (some ad.block)
 | _=>none
end Go.Proofs.Ytclkehekhdfnnaa
