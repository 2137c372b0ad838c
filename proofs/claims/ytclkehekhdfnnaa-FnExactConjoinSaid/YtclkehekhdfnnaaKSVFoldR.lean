/-
  A row of one's own that hangs in an element of another row becomes a tree under a key. No condition.
-/
import Derived.Test.YtclkehekhdfnnaaKSVRegF
set_option maxHeartbeats 4000000
set_option maxRecDepth 100000
set_option linter.unusedVariables false
set_option linter.unusedSimpArgs false
namespace Go.Proofs.Ytclkehekhdfnnaa
open Go.RowKit
theorem wk_foldR {kk k p : Nat} {σ : Env} {fm : Fm} {m0 : Names} (k' q g s sq j0 : Nat) (es es' er er' : List D) (key : Nat → Nat) (rest : List It) (hgh : σ gh = .gho 0 [.fam (famOf fm p m0)] 0 k) (hqn : nb ≤ q) (hq : σ q = .row sq er) (hqg : q ≠ g) (hj0 : (D.flat er)[j0]? = some (.own g s es.length)) (her : ∀ d,d ∈ er' → d.cells.length = sq) (hel' : er'.length = er.length) (hfe : D.flat er' = (D.flat er).set j0 (.kow (fm.top k) s es.length)) (hgn : nb ≤ g) (hg : σ g = .row s es') (h0 : es ≠ []) (hle' : es'.length = es.length)
  (hlen : ∀ (e : D),e ∈ es → e.cells.length = s) (hcl : (D.flat es').length = (D.flat es).length) (hcells : ∀ (j : Nat) (d : D),(D.flat es)[j]? = some d → treC d = true ∧ (D.flat es')[j]? = some (kC (key j) d))
  (hp1 : ∀ w m B,OwnL (fm.its k) w m B → OwnL (itsC key 0 (D.flat es) ++ rest) w m B) (hp2 : (fm.its k').Perm (⟨fm.top k,s,es⟩ :: rest)) (hr1 : ∀ it,it ∈ rest → it.es ≠ [] → it.κ < fm.top k) (htop : fm.top k' = fm.top k + 1) (hnb : fm.top k' ≤ 900000) (hpt : p ≤ fm.top k) :
  Wk kk σ (Env.put [(gh,.gho 0 [.fam (famOf fm p m0)] 0 k'),(g,.any),(q,.row sq er')] σ):=by
 rintro G a w rfl ⟨hdf,F,m,hR⟩
 have hn1 : nb = 1000000:=rfl
 have hg1 : gh = 999999:=rfl
 obtain ⟨Y,B,hY,hE,hj,hY0,hYL,hYl,hYs,hOwn,hBF,hfree,hm0⟩:=fam_at hR.ext hgh
 obtain ⟨T0,hT0⟩ : ∃ T0,T0 = fm.top k:=⟨_,rfl⟩
 rw [← hT0] at hp2 hr1 htop hpt hfree hfe
 have hmT : m T0 = none:=hfree T0 (Nat.le_refl _) (by omega)
 have hblk:=hR.blks g hgn
 rw [hg] at hblk
 rcases hblk with ⟨he,_⟩ | ⟨b,cur,T,hmg,hb,hs,hlen',hsz,hcc,hnF⟩
 ·exact absurd (List.length_eq_zero_iff.1 (by rw [← hle',he]; rfl)) h0
 have hblq:=hR.blks q hqn
 rw [hq] at hblq
 rcases hblq with ⟨he,_⟩ | ⟨bq,curq,Tq,hmq,hbq,hsq,hlenq,hszq,hccq,hnFq⟩
 ·rw [he] at hj0; simp [D.flat] at hj0
 obtain ⟨uq,huq⟩ : ∃ uq,uq = curq.toList.take (er.length * sq):=⟨_,rfl⟩
 rw [← huq] at hccq
 obtain ⟨x0,hx0⟩ : ∃ x0,uq[j0]? = some x0:=⟨_,List.getElem?_eq_getElem (by rw [hccq.len]; exact (List.getElem?_eq_some_iff.1 hj0).1)⟩
 have hsl:=hccq.fz j0 _ x0 hj0 hx0
 obtain ⟨cap,hxt,hlec,hcap⟩ : ∃ cap,x0 = .slice (some ⟨b,0,none⟩) es.length cap ∧ es.length ≤ cap ∧ cap * s ≤ cur.size:=by
  generalize hel : es.length = n at hsl
  cases hsl with
  | own _ _ _ _ b2 cap cur2 T2 hg2 hs2 hle2 hb2 hcap2=>
   rw [hmg] at hg2
   obtain rfl : b = b2:=by injection hg2 with hg2; injection hg2
   rw [hb] at hb2
   obtain ⟨rfl,_⟩ : cur = cur2 ∧ T = T2:=by injection hb2 with hb2; injection hb2 with h1 h2; exact ⟨h1,h2⟩
   exact ⟨cap,rfl,hle2,hcap2⟩
  | own0 _ _ _ a hg2=>rw [hmg] at hg2; cases hg2
 obtain ⟨B1,B2,hO1,hO2,hdj,hBB⟩:=(hp1 _ _ _ hOwn).split
 obtain ⟨hlo,hJk,hdis⟩:=hE.yes Y hY
 have hbB : ¬ B b:=(hdis g b hgn (by rw [hg]; rfl) hmg).1
 have hfl : (D.flat es).length = es.length * s:=flat_len hlen
 have hml : es.length * s ≤ cur.size:=Nat.le_trans (Nat.mul_le_mul_right s hlec) hcap
 have hul : (cur.toList.take (es.length * s)).length = (D.flat es).length:=by
  have hcl : cur.toList.length = cur.size:=rfl
  rw [List.length_take,hfl]
  omega
 rw [hle'] at hcc
 obtain ⟨Bs,q1,q2,q3⟩:=cells_sep (w:=w) (F:=F) (m:=m) (key:=key) (D.flat es) (cur.toList.take (es.length * s)) 0 B1 hul (fun j d u hd hu=>by
  obtain ⟨h1,h2⟩:=hcells j d hd
  rw [Nat.zero_add]
  exact ⟨h1,hcc.fz j _ u h2 hu⟩) hO1
 have hsep : Sep w (fun c=>c = b ∨ B1 c) (.sl s es) (.slice (some ⟨b,0,none⟩) es.length cap):=
  .sl _ Bs s es b cap cur T hs h0 hlec hlen hb hcap hcc.one q1 q2 (fun j hj h=>hbB ((hBB b).2 (.inl ((q3 b).2 ⟨j,hj,h⟩)))) (fun c=>by
   constructor
   ·rintro (h | h)
    ·exact .inl h
    ·exact .inr ((q3 c).1 h)
   ·rintro (h | h)
    ·exact .inl h
    ·exact .inr ((q3 c).2 h))
 have hmm:=Names.fold (q:=some b) hmT
 obtain ⟨m',hm'⟩ : ∃ m' : Names,m' = fun x=>if x = T0 then some (some b) else m x:=⟨_,rfl⟩
 rw [← hm'] at hmm
 have hmo : ∀ x,x ≠ T0 → m' x = m x:=fun x hx=>by rw [hm']; exact if_neg hx
 have hmT' : m' T0 = some (some b):=by rw [hm']; exact if_pos rfl
 have hE1 : Env.put [(gh,D.gho 0 [.fam (famOf fm p m0)] 0 k'),(g,D.any),(q,D.row sq er')] σ = ((σ.set gh (.gho 0 [.fam (famOf fm p m0)] 0 k')).set g .any).set q (.row sq er'):=rfl
 have hget : ∀ x,x ≠ gh → x ≠ g → x ≠ q → Env.put [(gh,D.gho 0 [.fam (famOf fm p m0)] 0 k'),(g,D.any),(q,D.row sq er')] σ x = σ x:=fun x h1 h2 h3=>by
  rw [hE1,Env.set_ne _ _ _ _ h3,Env.set_ne _ _ _ _ h2,Env.set_ne _ _ _ _ h1]
 have hgetq : Env.put [(gh,D.gho 0 [.fam (famOf fm p m0)] 0 k'),(g,D.any),(q,D.row sq er')] σ q = .row sq er':=Env.set_same _ _ _
 have hgetg : Env.put [(gh,D.gho 0 [.fam (famOf fm p m0)] 0 k'),(g,D.any),(q,D.row sq er')] σ g = .any:=by
  rw [hE1,Env.set_ne _ _ _ _ hqg.symm,Env.set_same]
 have hgetgh : Env.put [(gh,D.gho 0 [.fam (famOf fm p m0)] 0 k'),(g,D.any),(q,D.row sq er')] σ gh = .gho 0 [.fam (famOf fm p m0)] 0 k':=by
  rw [hE1,Env.set_ne _ _ _ _ (by omega),Env.set_ne _ _ _ _ (by omega),Env.set_same]
 generalize Env.put [(gh,D.gho 0 [.fam (famOf fm p m0)] 0 k'),(g,D.any),(q,D.row sq er')] σ = τ at hget hgetq hgetg hgetgh ⊢
 have hblkτ : ∀ x,nb ≤ x → (τ x).isBlk = true → x ≠ g ∧ (σ x).isBlk = true:=fun x hx h=>by
  have hxg : x ≠ g:=fun e=>by rw [e,hgetg] at h; cases h
  refine ⟨hxg,?_⟩
  by_cases hxq : x = q
  ·rw [hxq,hq]; rfl
  ·rw [← hget x (by omega) hxg hxq]; exact h
 refine ⟨hdf,F,m',hR.size,hR.nle,fun x hx=>?_,fun x hx=>?_,fun x y c hx hy h1 h2 h3 h4=>?_,hR.wf,hR.chg,fun x c hx h1 h2=>?_,fun i hi=>?_,hR.nlt,fun c=>B c ∨ c = b,?_⟩
 ·by_cases e2 : x = gh
  ·subst e2; rw [hgetgh]; exact .gho _ _ _ _ _ _
  ·rw [hget x e2 (by omega) (by omega)]
   exact (hR.slots x hx).names hmm
 ·by_cases e : x = g
  ·subst e; rw [hgetg]; trivial
  ·by_cases e3 : x = q
   ·subst e3
    rw [hgetq]
    refine .inr ⟨bq,curq,Tq,hmm _ _ hmq,hbq,hsq,her,by rw [hel']; exact hszq,?_,hnFq⟩
    rw [hel',← huq,hfe]
    refine ⟨by rw [List.length_set]; exact hccq.len,hccq.one,fun j d u hd hu=>?_⟩
    rw [List.getElem?_set] at hd
    split at hd
    ·rename_i hij
     subst hij
     split at hd
     ·obtain rfl : D.kow T0 s es.length = d:=by simpa using hd
      rw [hx0] at hu
      obtain rfl:=Option.some.inj hu
      rw [hxt]
      exact .kow m' T0 s _ b cap cur T (by omega) hmT' hs hlec hb hcap
     ·cases hd
    ·exact (hccq.fz j d u hd hu).names hmm
   ·rw [hget x (by omega) e e3]
    exact (hR.blks x hx).stable (Chg.refl w F noBlocks) hmm (fun h=>by have:=hR.blks x hx; rw [h] at this; rw [hmo x (by omega)]; exact this) (fun _ _ _=>id)
 ·replace h1:=(hblkτ x hx h1).2
  replace h2:=(hblkτ y hy h2).2
  rw [hmo x (by omega)] at h3
  rw [hmo y (by omega)] at h4
  exact hR.inj x y c hx hy h1 h2 h3 h4
 ·replace h1:=(hblkτ x hx h1).2
  rw [hmo x (by omega)] at h2
  exact hR.own x c hx h1 h2
 ·have h1:=hR.par i hi
  refine ⟨?_,by rw [hmo (nb + i) (by omega)]; exact h1.2⟩
  by_cases e : nb + i = g
  ·rw [e,hgetg]; intro h; cases h
  ·by_cases e3 : nb + i = q
   ·rw [e3,hgetq]; intro h; cases h
   ·rw [hget _ (by omega) e e3]; exact h1.1
 ·refine ⟨fun q1 hq1=>?_,fun c hc=>?_,fun h=>(by rw [hY] at h; cases h),fun Y' hY'=>?_,hE.low⟩
  ·obtain ⟨k1,k2,k3,k4⟩:=hE.kept q1 hq1
   refine ⟨k1,k2,k3,fun h=>?_⟩
   rcases h with h | h
   ·exact k4 h
   ·rw [h,hb] at k1
    rw [← Option.some.inj k1] at k2
    cases k2
  ·rcases hc with hc | rfl
   ·exact hE.own c hc
   ·exact hR.own g c hgn (by rw [hg]; rfl) hmg
  ·rw [hY] at hY'
   obtain rfl:=Option.some.inj hY'
   refine ⟨hlo,⟨k',?_,fun l L e k'' he=>?_⟩,fun x c hx h1 h2=>?_⟩
   ·rw [hj]
    refine ⟨OwnL.perm hp2.symm ⟨fun c=>c = b ∨ B1 c,B2,.inr ⟨h0,by show T0 < nb; omega,b,cap,hmT',hsep⟩,hO2.stable (fun _ _=>rfl) (fun it hit hne=>hmo _ (by have:=hr1 it hit hne; omega)),fun c hc h9=>?_,fun c=>?_⟩,fun c o hc ho=>?_,fun κ h1 h2=>?_,fun κ h1=>?_⟩
    ·rcases hc with rfl | hc
     ·exact hbB ((hBB c).2 (.inr h9))
     ·exact hdj c hc h9
    ·show (B c ∨ c = b) ↔ (c = b ∨ B1 c) ∨ B2 c
     rw [hBB c]
     constructor
     ·rintro ((h | h) | h)
      ·exact .inl (.inr h)
      ·exact .inr h
      ·exact .inl (.inl h)
     ·rintro ((h | h) | h)
      ·exact .inr h
      ·exact .inl (.inl h)
      ·exact .inl (.inr h)
    ·rcases hc with hc | rfl
     ·exact hBF c o hc ho
     ·exact hnF o ho
    ·rw [hmo κ (by omega)]
     exact hfree κ (by omega) h2
    ·rw [hmo κ (by omega)]
     exact hm0 κ h1
   ·rw [hgetgh] at he
    injection he with e1 e2 e3 e4
    exact ⟨by rw [← e1,hYl],by rw [← e2,hYL],by rw [← e3,hYs],e4.symm⟩
   ·obtain ⟨hxg,e1⟩:=hblkτ x hx h1
    replace h1:=e1
    rw [hmo x (by omega)] at h2
    have hd:=hdis x c hx h1 h2
    refine ⟨fun h=>?_,hd.2⟩
    rcases h with h | rfl
    ·exact hd.1 h
    ·exact hxg (hR.inj x g c hx hgn h1 (by rw [hg]; rfl) h2 hmg)
theorem wk_ghoK {kk k k' p : Nat} {σ : Env} {fm : Fm} {m0 : Names} (hgh : σ gh = .gho 0 [.fam (famOf fm p m0)] 0 k) (htop : fm.top k' = fm.top k) (hp : ∀ w m B,OwnL (fm.its k) w m B → OwnL (fm.its k') w m B) :
  Wk kk σ (Env.put [(gh,.gho 0 [.fam (famOf fm p m0)] 0 k')] σ):=by
 rintro G a w rfl ⟨hdf,F,m,hR⟩
 have hn1 : nb = 1000000:=rfl
 have hg1 : gh = 999999:=rfl
 obtain ⟨Y,B,hY,hE,hj,hY0,hYL,hYl,hYs,hOwn,hBF,hfree,hm0⟩:=fam_at hR.ext hgh
 have hget : ∀ x,x ≠ gh → Env.put [(gh,D.gho 0 [.fam (famOf fm p m0)] 0 k')] σ x = σ x:=fun x h1=>Env.set_ne _ _ _ _ h1
 have hgetgh : Env.put [(gh,D.gho 0 [.fam (famOf fm p m0)] 0 k')] σ gh = .gho 0 [.fam (famOf fm p m0)] 0 k':=by
  show (σ.set gh _) gh = _
  exact Env.set_same _ _ _
 generalize Env.put [(gh,D.gho 0 [.fam (famOf fm p m0)] 0 k')] σ = τ at hget hgetgh ⊢
 obtain ⟨hlo,hJk,hdis⟩:=hE.yes Y hY
 refine ⟨hdf,F,m,hR.size,hR.nle,fun x hx=>?_,fun x hx=>?_,fun x y c hx hy h1 h2 h3 h4=>?_,hR.wf,hR.chg,fun x c hx h1 h2=>?_,fun i hi=>?_,hR.nlt,B,?_⟩
 ·by_cases e2 : x = gh
  ·subst e2; rw [hgetgh]; exact .gho _ _ _ _ _ _
  ·rw [hget x e2]; exact hR.slots x hx
 ·rw [hget x (by omega)]; exact hR.blks x hx
 ·rw [hget x (by omega)] at h1
  rw [hget y (by omega)] at h2
  exact hR.inj x y c hx hy h1 h2 h3 h4
 ·rw [hget x (by omega)] at h1
  exact hR.own x c hx h1 h2
 ·have h1:=hR.par i hi
  exact ⟨by rw [hget _ (by omega)]; exact h1.1,h1.2⟩
 ·refine ⟨hE.kept,hE.own,fun h=>(by rw [hY] at h; cases h),fun Y' hY'=>?_,hE.low⟩
  rw [hY] at hY'
  obtain rfl:=Option.some.inj hY'
  refine ⟨hlo,⟨k',?_,fun l L e k'' he=>?_⟩,fun x c hx h1 h2=>hdis x c hx (by rw [hget x (by omega)] at h1; exact h1) h2⟩
  ·rw [hj]
   exact ⟨hp _ _ _ hOwn,hBF,by rw [htop]; exact hfree,hm0⟩
  ·rw [hgetgh] at he
   injection he with e1 e2 e3 e4
   exact ⟨by rw [← e1,hYl],by rw [← e2,hYL],by rw [← e3,hYs],e4.symm⟩
end Go.Proofs.Ytclkehekhdfnnaa
