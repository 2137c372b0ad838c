/-
  Renaming of names that keeps keys, and lists of slots and names by it. No condition.
-/
import Derived.Test.YtclkehekhdfnnaaKSVReg
set_option maxHeartbeats 4000000
set_option maxRecDepth 100000
set_option linter.unusedVariables false
set_option linter.unusedSimpArgs false
namespace Go.Proofs.Ytclkehekhdfnnaa
open Go.RowKit
mutual
def D.rnk (L : List Nat) : D → D
 | .any=>.any
 | .v x=>.v x
 | .sl s es=>.sl s es
 | .nul=>.nul
 | .agg cs=>.agg (D.rnkL L cs)
 | .tup cs=>.tup (D.rnkL L cs)
 | .ifc t d=>.ifc t (D.rnk L d)
 | .bnd t name d=>.bnd t name (D.rnk L d)
 | .mv f d=>.mv f (D.rnk L d)
 | .fn f cs=>.fn f (D.rnkL L cs)
 | .ptr cs=>.ptr cs
 | .ref g o=>match nameOf L g with
  | some g'=>.ref g' o
  | none=>.free
 | .own g s n=>match nameOf L g with
  | some g'=>.own g' s n
  | none=>.free
 | .owo g s o n=>match nameOf L g with
  | some g'=>.owo g' s o n
  | none=>.free
 | .eref g s i o=>match nameOf L g with
  | some g'=>.eref g' s i o
  | none=>.free
 | .obj cs=>.obj (D.rnkL L cs)
 | .row s es=>.row s (D.rnkL L es)
 | .free=>.free
 | .gho l L e k=>.gho l L e k
 | .kow κ s n=>.kow κ s n
 | .fam St=>.fam St
def D.rnkL (L : List Nat) : List D → List D
 | []=>[]
 | d :: l=>D.rnk L d :: D.rnkL L l
end
theorem D.rnkL_map (L : List Nat) : ∀ l : List D,D.rnkL L l = l.map (D.rnk L)
 | []=>rfl
 | d :: l=>by rw [D.rnkL,D.rnkL_map L l]; rfl
theorem Fz.unrnk {w : World} {F : Cells} {m : Names} {d' : D} {x : Value} (h : Fz w F m d' x) : ∀ {m' : Names} {L : List Nat},(∀ g g',nameOf L g = some g' → m' g = m g') → (∀ g,g < nb → m' g = m g) → ∀ {d : D},d.rnk L = d' → Fz w F m' d x:=by
 have cs_at : ∀ {L : List Nat} {cs : List D} {i : Nat} {d : D},cs[i]? = some d → (D.rnkL L cs)[i]? = some (d.rnk L):=by
  intro L cs i d hd
  rw [D.rnkL_map,List.getElem?_map,hd]
  rfl
 have nm : ∀ {L : List Nat} {g : Nat} {f : Nat → D} {e : D},(match nameOf L g with
   | some g'=>f g'
   | none=>.free) = e → e ≠ .free → ∃ g',nameOf L g = some g' ∧ f g' = e:=by
  intro L g f e he hne
  cases hg : nameOf L g with
  | none=>rw [hg] at he; exact absurd he.symm hne
  | some g'=>rw [hg] at he; exact ⟨g',rfl,he⟩
 induction h with
 | any m x=>intro m' L _ _ d he; cases d <;> first | exact .any m' x | (rw [D.rnk] at he; first | (cases he; done) | (obtain ⟨_,_,h⟩:=nm he (by intro h; cases h); cases h))
 | v m x=>intro m' L _ _ d he; cases d <;> rw [D.rnk] at he <;> first | (cases he; exact .v m' x) | (cases he; done) | (obtain ⟨_,_,h⟩:=nm he (by intro h; cases h); cases h)
 | sl0 m s a cap=>intro m' L _ _ d he; cases d <;> rw [D.rnk] at he <;> first | (cases he; exact .sl0 m' s a cap) | (cases he; done) | (obtain ⟨_,_,h⟩:=nm he (by intro h; cases h); cases h)
 | sl m s es b off cap u hs hle hlen hu hr ih=>intro m' L _ _ d he; cases d <;> rw [D.rnk] at he <;> first | (cases he; exact .sl m' s es b off cap u hs hle hlen hu hr) | (cases he; done) | (obtain ⟨_,_,h⟩:=nm he (by intro h; cases h); cases h)
 | nul m a=>intro m' L _ _ d he; cases d <;> first | exact .nul m' a | (rw [D.rnk] at he; first | (cases he; done) | (obtain ⟨_,_,h⟩:=nm he (by intro h; cases h); cases h))
 | agg m cs us hl h1 hr ih=>
  intro m' L hm hlow d he
  cases d with
  | agg cs0=>
   rw [D.rnk] at he
   obtain rfl : D.rnkL L cs0 = cs:=by injection he
   exact .agg m' cs0 us (by rw [hl,D.rnkL_map,List.length_map]) h1 (fun i d u hd hu=>ih i _ u (cs_at hd) hu hm hlow rfl)
  | _=>rw [D.rnk] at he; first | (cases he; done) | (obtain ⟨_,_,h⟩:=nm he (by intro h; cases h); cases h)
 | tup m cs us hl hr ih=>
  intro m' L hm hlow d he
  cases d with
  | tup cs0=>
   rw [D.rnk] at he
   obtain rfl : D.rnkL L cs0 = cs:=by injection he
   exact .tup m' cs0 us (by rw [hl,D.rnkL_map,List.length_map]) (fun i d u hd hu=>ih i _ u (cs_at hd) hu hm hlow rfl)
  | _=>rw [D.rnk] at he; first | (cases he; done) | (obtain ⟨_,_,h⟩:=nm he (by intro h; cases h); cases h)
 | ifc m t d0 x h ih=>
  intro m' L hm hlow d he
  cases d with
  | ifc t' d1=>
   rw [D.rnk] at he
   obtain ⟨rfl,h1⟩ : t' = t ∧ d1.rnk L = d0:=by injection he with h1 h2; exact ⟨h1,h2⟩
   exact .ifc m' t' d1 x (ih hm hlow h1)
  | _=>rw [D.rnk] at he; first | (cases he; done) | (obtain ⟨_,_,h⟩:=nm he (by intro h; cases h); cases h)
 | bnd m t name d0 x h ih=>
  intro m' L hm hlow d he
  cases d with
  | bnd t' name' d1=>
   rw [D.rnk] at he
   obtain ⟨rfl,rfl,h1⟩ : t' = t ∧ name' = name ∧ d1.rnk L = d0:=by injection he with h1 h2 h3; exact ⟨h1,h2,h3⟩
   exact .bnd m' t' name' d1 x (ih hm hlow h1)
  | _=>rw [D.rnk] at he; first | (cases he; done) | (obtain ⟨_,_,h⟩:=nm he (by intro h; cases h); cases h)
 | mv m f d0 x h ih=>
  intro m' L hm hlow d he
  cases d with
  | mv f' d1=>
   rw [D.rnk] at he
   obtain ⟨rfl,h1⟩ : f' = f ∧ d1.rnk L = d0:=by injection he with h1 h2; exact ⟨h1,h2⟩
   exact .mv m' f' d1 x (ih hm hlow h1)
  | _=>rw [D.rnk] at he; first | (cases he; done) | (obtain ⟨_,_,h⟩:=nm he (by intro h; cases h); cases h)
 | fn m f cs us hl hr ih=>
  intro m' L hm hlow d he
  cases d with
  | fn f' cs0=>
   rw [D.rnk] at he
   obtain ⟨rfl,rfl⟩ : f' = f ∧ D.rnkL L cs0 = cs:=by injection he with h1 h2; exact ⟨h1,h2⟩
   exact .fn m' f' cs0 us (by rw [hl,D.rnkL_map,List.length_map]) (fun i d u hd hu=>ih i _ u (cs_at hd) hu hm hlow rfl)
  | _=>rw [D.rnk] at he; first | (cases he; done) | (obtain ⟨_,_,h⟩:=nm he (by intro h; cases h); cases h)
 | ptr m cs b off u hu hr ih=>intro m' L _ _ d he; cases d <;> rw [D.rnk] at he <;> first | (cases he; exact .ptr m' cs b off u hu hr) | (cases he; done) | (obtain ⟨_,_,h⟩:=nm he (by intro h; cases h); cases h)
 | ref m g o b hg=>
  intro m' L hm hlow d he
  cases d with
  | ref g0 o0=>
   rw [D.rnk] at he
   obtain ⟨g',h1,h2⟩:=nm he (by intro h; cases h)
   obtain ⟨rfl,rfl⟩ : g' = g ∧ o0 = o:=by injection h2 with h2 h3; exact ⟨h2,h3⟩
   exact .ref m' g0 o0 b ((hm g0 g' h1).trans hg)
  | _=>rw [D.rnk] at he; first | (cases he; done) | (obtain ⟨_,_,h⟩:=nm he (by intro h; cases h); cases h)
 | own m g s n b cap cur U hg hs hle hb hcap=>
  intro m' L hm hlow d he
  cases d with
  | own g0 s0 n0=>
   rw [D.rnk] at he
   obtain ⟨g',h1,h2⟩:=nm he (by intro h; cases h)
   obtain ⟨rfl,rfl,rfl⟩ : g' = g ∧ s0 = s ∧ n0 = n:=by injection h2 with h2 h3 h4; exact ⟨h2,h3,h4⟩
   exact .own m' g0 s0 n0 b cap cur U ((hm g0 g' h1).trans hg) hs hle hb hcap
  | _=>rw [D.rnk] at he; first | (cases he; done) | (obtain ⟨_,_,h⟩:=nm he (by intro h; cases h); cases h)
 | own0 m g s a hg=>
  intro m' L hm hlow d he
  cases d with
  | own g0 s0 n0=>
   rw [D.rnk] at he
   obtain ⟨g',h1,h2⟩:=nm he (by intro h; cases h)
   obtain ⟨rfl,rfl,rfl⟩ : g' = g ∧ s0 = s ∧ n0 = 0:=by injection h2 with h2 h3 h4; exact ⟨h2,h3,h4⟩
   exact .own0 m' g0 s0 a ((hm g0 g' h1).trans hg)
  | _=>rw [D.rnk] at he; first | (cases he; done) | (obtain ⟨_,_,h⟩:=nm he (by intro h; cases h); cases h)
 | owo m g s o n b cap cur U hg hs hle hb hcap=>
  intro m' L hm hlow d he
  cases d with
  | owo g0 s0 o0 n0=>
   rw [D.rnk] at he
   obtain ⟨g',h1,h2⟩:=nm he (by intro h; cases h)
   obtain ⟨rfl,rfl,rfl,rfl⟩ : g' = g ∧ s0 = s ∧ o0 = o ∧ n0 = n:=by injection h2 with h2 h3 h4 h5; exact ⟨h2,h3,h4,h5⟩
   exact .owo m' g0 s0 o0 n0 b cap cur U ((hm g0 g' h1).trans hg) hs hle hb hcap
  | _=>rw [D.rnk] at he; first | (cases he; done) | (obtain ⟨_,_,h⟩:=nm he (by intro h; cases h); cases h)
 | owo0 m g s o a cap p hg=>
  intro m' L hm hlow d he
  cases d with
  | owo g0 s0 o0 n0=>
   rw [D.rnk] at he
   obtain ⟨g',h1,h2⟩:=nm he (by intro h; cases h)
   obtain ⟨rfl,rfl,rfl,rfl⟩ : g' = g ∧ s0 = s ∧ o0 = o ∧ n0 = 0:=by injection h2 with h2 h3 h4 h5; exact ⟨h2,h3,h4,h5⟩
   exact .owo0 m' g0 s0 o0 a cap p ((hm g0 g' h1).trans hg)
  | _=>rw [D.rnk] at he; first | (cases he; done) | (obtain ⟨_,_,h⟩:=nm he (by intro h; cases h); cases h)
 | eref m g s i o b hg=>
  intro m' L hm hlow d he
  cases d with
  | eref g0 s0 i0 o0=>
   rw [D.rnk] at he
   obtain ⟨g',h1,h2⟩:=nm he (by intro h; cases h)
   obtain ⟨rfl,rfl,rfl,rfl⟩ : g' = g ∧ s0 = s ∧ i0 = i ∧ o0 = o:=by injection h2 with h2 h3 h4 h5; exact ⟨h2,h3,h4,h5⟩
   exact .eref m' g0 s0 i0 o0 b ((hm g0 g' h1).trans hg)
  | _=>rw [D.rnk] at he; first | (cases he; done) | (obtain ⟨_,_,h⟩:=nm he (by intro h; cases h); cases h)
 | gho m l L e k x=>intro m' L' _ _ d he; cases d <;> first | (rw [D.rnk] at he; cases he; exact .gho m' l L e k x) | (rw [D.rnk] at he; first | (cases he; done) | (obtain ⟨_,_,h⟩:=nm he (by intro h; cases h); cases h))
 | kow m κ s n b cap cur U hκ hg hs hle hb hcap=>
  intro m' L' hm hlow d he
  cases d with
  | kow κ0 s0 n0=>
   rw [D.rnk] at he
   cases he
   exact .kow m' _ _ _ b cap cur U hκ ((hlow _ hκ).trans hg) hs hle hb hcap
  | _=>rw [D.rnk] at he; first | (cases he; done) | (obtain ⟨_,_,h⟩:=nm he (by intro h; cases h); cases h)
theorem isBlk_rnk (R : List Nat) (d : D) : (d.rnk R).isBlk = d.isBlk:=by
 cases d <;> rw [D.rnk] <;> first | rfl | (split <;> rfl)
theorem flat_rnkL (R : List Nat) (es : List D) : D.flat (D.rnkL R es) = D.rnkL R (D.flat es):=by
 have hc : ∀ e : D,(e.rnk R).cells = D.rnkL R e.cells:=by
  intro e
  cases e with
  | ref g o=>rw [D.rnk]; simp only [D.rnkL,D.rnk,show (D.ref g o).cells = [D.ref g o] from rfl]; cases nameOf R g <;> rfl
  | own g s n=>rw [D.rnk]; simp only [D.rnkL,D.rnk,show (D.own g s n).cells = [D.own g s n] from rfl]; cases nameOf R g <;> rfl
  | owo g s o n=>rw [D.rnk]; simp only [D.rnkL,D.rnk,show (D.owo g s o n).cells = [D.owo g s o n] from rfl]; cases nameOf R g <;> rfl
  | eref g s i o=>rw [D.rnk]; simp only [D.rnkL,D.rnk,show (D.eref g s i o).cells = [D.eref g s i o] from rfl]; cases nameOf R g <;> rfl
  | _=>rw [D.rnk]; rfl
 rw [D.rnkL_map,D.rnkL_map,D.flat,D.flat,List.flatMap_map,List.map_flatMap]
 congr 1
 funext e
 rw [hc,D.rnkL_map]
theorem cells_rnk (R : List Nat) (e : D) : (e.rnk R).cells = D.rnkL R e.cells:=by
 have:=flat_rnkL R [e]
 simpa [D.flat,D.rnkL] using this
theorem CellsOK.unrnk {w : World} {F : Cells} {m : Names} {cs : List D} {us : List Value} {R : List Nat} {m' : Names} (h : CellsOK w F m (D.rnkL R cs) us) (hm : ∀ g g',nameOf R g = some g' → m' g = m g') (hlow : ∀ g,g < nb → m' g = m g) : CellsOK w F m' cs us:=by
 refine ⟨by rw [h.len,D.rnkL_map,List.length_map],h.one,fun j d u hd hu=>(h.fz j (d.rnk R) u (by rw [D.rnkL_map,List.getElem?_map,hd]; rfl) hu).unrnk hm hlow rfl⟩
theorem Blk.unrnk {w : World} {F : Cells} {m : Names} {d : D} {R : List Nat} {g g' : Nat} {m' : Names} (hb : d.isBlk = true) (h : Blk w F m g' (d.rnk R)) (hm : ∀ g g',nameOf R g = some g' → m' g = m g') (hlow : ∀ g,g < nb → m' g = m g) (hg : m' g = m g') : Blk w F m' g d:=by
 cases d with
 | obj cs=>
  rw [D.rnk] at h
  obtain ⟨b,cur,U,h1,h2,h3,h4⟩:=h
  exact ⟨b,cur,U,hg.trans h1,h2,h3.unrnk hm hlow,h4⟩
 | row s es=>
  rw [D.rnk] at h
  rcases h with ⟨h1,h2⟩ | ⟨b,cur,U,h1,h2,h3,h4,h5,h6,h7⟩
  ·left
   rw [D.rnkL_map] at h1
   exact ⟨by simpa using h1,hg.trans h2⟩
  ·have hl : (D.rnkL R es).length = es.length:=by rw [D.rnkL_map,List.length_map]
   right
   rw [hl,flat_rnkL] at h6
   rw [hl] at h5
   refine ⟨b,cur,U,hg.trans h1,h2,h3,fun e he=>?_,h5,h6.unrnk hm hlow,h7⟩
   have:=h4 (e.rnk R) (by rw [D.rnkL_map]; exact List.mem_map_of_mem he)
   rwa [cells_rnk,D.rnkL_map,List.length_map] at this
 | _=>cases hb
theorem Wk.namesK {σ τ : Env} {k : Nat} {L : List Nat} (hL : Can k L) (hslot : ∀ t,t < nb → τ t = .any ∨ σ t = (τ t).rnk L) (hname : ∀ i g,L[i]? = some g → τ (nb + i) = .any ∨ ((τ (nb + i)).nmd = true ∧ σ g = (τ (nb + i)).rnk L)) (hout : ∀ g,nb + L.length ≤ g → τ g = .free) : Wk k σ τ:=by
 rintro G a w rfl ⟨hd,F,m,h⟩
 obtain ⟨mm,mm1,mm0⟩ : ∃ mm : Names,(∀ g,nb ≤ g → mm g = (nameOf L g).bind m) ∧ ∀ g,g < nb → mm g = m g:=⟨fun g=>if g < nb then m g else (nameOf L g).bind m,fun g hg=>if_neg (by omega),fun g hg=>if_pos hg⟩
 refine ⟨hd,F,mm,?_⟩
 have hm : ∀ g g',nameOf L g = some g' → mm g = m g':=fun g g' hg=>by
  have hge : nb ≤ g:=Nat.le_of_not_lt (fun hlt=>by unfold nameOf at hg; rw [if_pos hlt] at hg; cases hg)
  rw [mm1 g hge,hg]
  rfl
 have hat : ∀ i g,L[i]? = some g → mm (nb + i) = m g:=fun i g hg=>by rw [mm1 _ (Nat.le_add_right _ _),nameOf_at,hg]; rfl
 have split : ∀ g,nb ≤ g → (∃ (i : Nat) (g' : Nat),g = nb + i ∧ L[i]? = some g') ∨ nb + L.length ≤ g:=by
  intro g hg
  by_cases hl : g - nb < L.length
  ·exact .inl ⟨g - nb,_,by omega,List.getElem?_eq_getElem hl⟩
  ·exact .inr (by omega)
 have blk : ∀ i g,L[i]? = some g → (τ (nb + i)).isBlk = true → (σ g).isBlk = true:=by
  intro i g hi hb
  rcases hname i g hi with e | ⟨_,e⟩
  ·rw [e] at hb; cases hb
  ·rw [e,isBlk_rnk]; exact hb
 refine ⟨h.size,h.nle,fun t ht=>?_,fun g hg=>?_,fun g1 g2 b hg1 hg2 hb1 hb2 hm1 hm2=>?_,h.wf,h.chg,fun g b hg hb hmg=>?_,fun i hi=>?_,h.nlt,?_⟩
 ·rcases hslot t ht with e | e
  ·rw [e]; exact .any _ _
  ·exact (h.slots t ht).unrnk hm mm0 e.symm
 ·rcases split g hg with ⟨i,g',rfl,hi⟩ | ho
  ·rcases hname i g' hi with e | ⟨hk,e⟩
   ·rw [e]; trivial
   ·have hb:=h.blks g' (hL.ge g' (List.mem_of_getElem? hi))
    rw [e] at hb
    cases hv : τ (nb + i) with
    | any=>trivial
    | free=>
     rw [hv,D.rnk] at hb
     show mm (nb + i) = none
     rw [hat i g' hi]
     exact hb
    | obj cs=>rw [hv] at hb; exact hb.unrnk rfl hm mm0 (hat i g' hi)
    | row s es=>rw [hv] at hb; exact hb.unrnk rfl hm mm0 (hat i g' hi)
    | _=>rw [hv] at hk; cases hk
  ·rw [hout g ho]
   show mm g = none
   rw [mm1 g hg]
   unfold nameOf
   rw [if_neg (by omega),List.getElem?_eq_none (by omega)]
   rfl
 ·rcases split g1 hg1 with ⟨i,g1',rfl,hi⟩ | ho
  ·rcases split g2 hg2 with ⟨j,g2',rfl,hj⟩ | ho
   ·rw [hat i g1' hi] at hm1
    rw [hat j g2' hj] at hm2
    have e:=h.inj g1' g2' b (hL.ge _ (List.mem_of_getElem? hi)) (hL.ge _ (List.mem_of_getElem? hj)) (blk i g1' hi hb1) (blk j g2' hj hb2) hm1 hm2
    subst e
    rw [(List.getElem?_inj (List.getElem?_eq_some_iff.1 hi).1 hL.nd).1 (hi.trans hj.symm)]
   ·rw [hout g2 ho] at hb2; cases hb2
  ·rw [hout g1 ho] at hb1; cases hb1
 ·rcases split g hg with ⟨i,g',rfl,hi⟩ | ho
  ·rw [hat i g' hi] at hmg
   exact h.own g' b (hL.ge _ (List.mem_of_getElem? hi)) (blk i g' hi hb) hmg
  ·rw [hout g ho] at hb; cases hb
 ·obtain ⟨h1,h2⟩:=h.par i hi
  have hi':=hL.fix i hi
  refine ⟨fun e=>?_,by rw [← h2]; exact hat i _ hi'⟩
  rcases hname i _ hi' with e' | ⟨_,e'⟩
  ·rw [e] at e'; cases e'
  ·rw [e,D.rnk] at e'; exact h1 e'
 ·refine h.ext.step h.blks (Chg.refl w F noBlocks) h.wf (fun _ hb=>hb.elim) (fun l L' e k he=>?_) (fun g b hg hb hmg=>?_) mm0
  ·rcases hslot gh (by decide) with e' | e'
   ·rw [e'] at he; cases he
   ·rw [e',he,D.rnk]
  ·rcases split g hg with ⟨i,g',rfl,hi⟩ | ho
   ·rw [hat i g' hi] at hmg
    exact .inl ⟨g',hL.ge _ (List.mem_of_getElem? hi),blk i g' hi hb,hmg⟩
   ·rw [hout g ho] at hb; cases hb
def agrK1 (σ : Env) (L : List Nat) (p : Nat × D) : Prop:=
 if p.1 < nb then σ p.1 = p.2.rnk L else match L[p.1 - nb]? with
  | some g=>p.2.nmd = true ∧ σ g = p.2.rnk L
  | none=>False
def agrK (σ : Env) (L : List Nat) : List (Nat × D) → Prop
 | []=>True
 | p :: l=>agrK1 σ L p ∧ agrK σ L l
theorem Wk.listK {σ : Env} {k c : Nat} (L : List Nat) {l : List (Nat × D)} (hc : L.length = c) (hL : canB k L = true) (hh : hold (agrK σ L l)) : Wk k σ (ofL c l):=by
 have h : agrK σ L l:=hh
 clear hh
 have key : (∀ t,t < nb → ofL c l t = .any ∨ σ t = (ofL c l t).rnk L) ∧ (∀ i g,L[i]? = some g → ofL c l (nb + i) = .any ∨ ((ofL c l (nb + i)).nmd = true ∧ σ g = (ofL c l (nb + i)).rnk L)) ∧ ∀ g,nb + L.length ≤ g → ofL c l g = .free:=by
  subst hc
  induction l with
  | nil=>
   refine ⟨fun t ht=>.inl ?_,fun i g hi=>.inl ?_,fun g hg=>?_⟩
   ·show base _ t = _; unfold base; rw [if_pos ht]
   ·have:=(List.getElem?_eq_some_iff.1 hi).1
    show base _ _ = _; unfold base; rw [if_neg (by omega),if_pos (by omega)]
   ·show base _ _ = _; unfold base; rw [if_neg (by omega),if_neg (by omega)]
  | cons p l ih=>
   obtain ⟨h1,h2,h3⟩:=ih h.2
   have hp:=h.1
   unfold agrK1 at hp
   have hlt : p.1 < nb + L.length:=by
    split at hp
    ·omega
    ·split at hp
     ·rename_i g hg; have:=(List.getElem?_eq_some_iff.1 hg).1; omega
     ·exact hp.elim
   refine ⟨fun t ht=>?_,fun i g hi=>?_,fun g hg=>?_⟩
   ·by_cases e : t = p.1
    ·subst e; rw [if_pos ht] at hp; rw [ofL,Env.set_same]; exact .inr hp
    ·rw [ofL,Env.set_ne _ _ _ _ e]; exact h1 t ht
   ·by_cases e : nb + i = p.1
    ·rw [← e,if_neg (by omega),show nb + i - nb = i by omega,hi] at hp
     rw [ofL,e,Env.set_same]; exact .inr hp
    ·rw [ofL,Env.set_ne _ _ _ _ e]; exact h2 i g hi
   ·rw [ofL,Env.set_ne _ _ _ _ (by omega)]; exact h3 g hg
 exact Wk.namesK (can_of hL) key.1 key.2.1 key.2.2
theorem rnk_pur (L : List Nat) : ∀ (d : D),d.pur = true → d.rnk L = d
 | .agg cs,h=>by rw [D.rnk,rnkL_pur L cs h]
 | .tup cs,h=>by rw [D.rnk,rnkL_pur L cs h]
 | .kow _ _ _,h=>by cases h
 | .any,_=>rfl
 | .v _,_=>rfl
 | .sl _ _,_=>rfl
 | .nul,_=>rfl
 | .ifc t d,h=>by rw [D.rnk,rnk_pur L d h]
 | .bnd t name d,h=>by rw [D.rnk,rnk_pur L d h]
 | .mv f d,h=>by rw [D.rnk,rnk_pur L d h]
 | .fn f cs,h=>by rw [D.rnk,rnkL_pur L cs h]
 | .ptr _,_=>rfl
 | .ref _ _,h=>by cases h
 | .own _ _ _,h=>by cases h
 | .owo _ _ _ _,h=>by cases h
 | .eref _ _ _ _,h=>by cases h
 | .obj _,h=>by cases h
 | .row _ _,h=>by cases h
 | .free,h=>by cases h
 | .gho _ _ _ _,h=>by cases h
 | .fam _,h=>by cases h
  where rnkL_pur (L : List Nat) : ∀ (l : List D),D.purL l = true → D.rnkL L l = l
 | [],_=>rfl
 | d :: l,h=>by
  rw [D.purL,Bool.and_eq_true] at h
  rw [D.rnkL,rnk_pur L d h.1,rnkL_pur L l h.2]
theorem rnk_low (L : List Nat) : ∀ (d : D),d.low = true → d.rnk L = d
 | .agg cs,h=>by rw [D.rnk,rnkL_low L cs h]
 | .tup cs,h=>by rw [D.rnk,rnkL_low L cs h]
 | .kow _ _ _,_=>rfl
 | .any,_=>rfl
 | .v _,_=>rfl
 | .sl _ _,_=>rfl
 | .nul,_=>rfl
 | .ifc t d,h=>by rw [D.rnk,rnk_pur L d h]
 | .bnd t name d,h=>by rw [D.rnk,rnk_pur L d h]
 | .mv f d,h=>by rw [D.rnk,rnk_pur L d h]
 | .fn f cs,h=>by rw [D.rnk,rnk_pur.rnkL_pur L cs h]
 | .ptr _,_=>rfl
 | .ref _ _,h=>by cases h
 | .own _ _ _,h=>by cases h
 | .owo _ _ _ _,h=>by cases h
 | .eref _ _ _ _,h=>by cases h
 | .obj _,h=>by cases h
 | .row _ _,h=>by cases h
 | .free,h=>by cases h
 | .gho _ _ _ _,h=>by cases h
 | .fam _,h=>by cases h
  where rnkL_low (L : List Nat) : ∀ (l : List D),D.lowL l = true → D.rnkL L l = l
 | [],_=>rfl
 | d :: l,h=>by
  rw [D.lowL,Bool.and_eq_true] at h
  rw [D.rnkL,rnk_low L d h.1,rnkL_low L l h.2]
attribute [go_sem] D.rnk D.rnkL agrK1 agrK
end Go.Proofs.Ytclkehekhdfnnaa
