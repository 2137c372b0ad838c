/-
  Lists of numbers as plain data. No condition.
-/
import Derived.KernelRfl
import Derived.Test.YtjngffbghkafaaaGreatJSVGo
import Derived.Test.YtjngffbghkafaaaGreatRows
import Derived.Test.YtjngffbghkafaaaGreatJSVGi
set_option maxHeartbeats 4000000
set_option maxRecDepth 100000
set_option linter.unusedVariables false
set_option linter.unusedSimpArgs false
namespace Go.Proofs.YtjngffbghkafaaaGreat
open Go.RowKit
def intsD (l : List Int) : D:=.sl 1 (l.map I)
theorem ints_pur : ∀ l : List Int,D.purL (l.map I) = true
 | []=>rfl
 | p :: l=>by rw [List.map_cons,D.purL,ints_pur l]; rfl
theorem ints_ren (L : List Nat) (l : List Int) : D.renL L (l.map I) = l.map I:=ren_pure.renL_pure L _ (ints_pur l)
attribute [go_sem] ints_pur ints_ren intsD
end Go.Proofs.YtjngffbghkafaaaGreat
set_option maxHeartbeats 4000000
set_option maxRecDepth 100000
set_option linter.unusedVariables false
set_option linter.unusedSimpArgs false
namespace Go.Proofs.YtjngffbghkafaaaGreat
open Go.RowKit
def flatRow (d : D) : Prop:=∃ s es,d = .row s es ∧ ∀ c,c ∈ D.flat es → ∃ x,c = .v x
inductive Lent (H : List D) : D → D → Prop
 | same (d : D) (h : d.pur = true) : Lent H d d
 | own (i s : Nat) (es : List D) (h : H[i]? = some (.row s es)) : Lent H (.own (nb + i) s es.length) (.sl s es)
 | agg (cs ds : List D) (hl : cs.length = ds.length) (h : ∀ (i : Nat) (c d : D),cs[i]? = some c → ds[i]? = some d → Lent H c d) : Lent H (.agg cs) (.agg ds)
 | tup (cs ds : List D) (hl : cs.length = ds.length) (h : ∀ (i : Nat) (c d : D),cs[i]? = some c → ds[i]? = some d → Lent H c d) : Lent H (.tup cs) (.tup ds)
def lentF (F : Cells) (m : Names) (n : Nat) : Cells:=fun b o=>F b o ∨ ∃ i,i < n ∧ m (nb + i) = some (some b)
theorem lent_fz {w : World} {F : Cells} {m : Names} {H : List D} (hH : ∀ (i : Nat) (d : D),H[i]? = some d → flatRow d ∧ Blk w F m (nb + i) d) {c d : D} (hl : Lent H c d) :
  ∀ {x : Value},Fz w F m c x → Fz w (lentF F m H.length) noNames d x:=by
 have keep : ∀ {d : D} {x : Value},Fz w F m d x → Fz w (lentF F m H.length) m d x:=fun h=>h.still (T:=fun _=>True) ⟨rfl,rfl,rfl,Nat.le_refl _,fun _ _ h=>(h trivial).elim,fun _ cur _ _ h=>⟨cur,h,rfl⟩,fun _ _ h=>⟨Or.inl h,rfl⟩,fun _ _ _ _ h=>(h trivial).elim,Nat.le_refl _⟩
 induction hl with
 | same d hp=>intro x h; exact (keep h).pure hp noNames
 | own i s es hi=>
  intro x h
  obtain ⟨⟨s',es',he,hflat⟩,hB⟩:=hH i _ hi
  cases he
  have hlt : i < H.length:=(List.getElem?_eq_some_iff.1 hi).1
  generalize hn : es.length = n at h
  cases h with
  | own _ _ _ _ b cap cur U hg hs hle hb hcap=>
   subst hn
   rcases hB with ⟨_,hm⟩ | ⟨b',cur',T,hm,hb',hs',hlen,hsz,hc,hF⟩
   ·rw [hg] at hm; cases hm
   ·rw [hg] at hm
    obtain rfl : b = b':=by injection hm with hm; injection hm
    rw [hb] at hb'
    obtain ⟨rfl,rfl⟩ : cur = cur' ∧ U = T:=by injection hb' with hb'; injection hb' with h1 h2; exact ⟨h1,h2⟩
    have hc' : CellsOK w (lentF F m H.length) noNames (D.flat es) (cur.toList.take (es.length * s)):=⟨hc.len,hc.one,fun j d u hd hu=>by
     obtain ⟨y,rfl⟩:=hflat d (List.mem_of_getElem? hd)
     have:=hc.fz j _ u hd hu
     cases this
     exact .v _ _⟩
    refine Fz.ofCells hs hle hlen hc' (fun j v hj=>⟨?_,Or.inr ⟨i,hlt,hg⟩⟩)
    have hj2 : j < es.length * s:=by
     have:=(List.getElem?_eq_some_iff.1 hj).1
     rw [List.length_take] at this
     omega
    rw [List.getElem?_take_of_lt hj2] at hj
    rw [Nat.zero_add,cell_of_row w b j cur U (0,0) hb,← Array.getElem?_toList]
    exact hj
  | own0 _ _ _ a hg=>
   obtain rfl : es = []:=List.length_eq_zero_iff.1 hn
   exact .sl0 _ s a 0
 | agg cs ds hl h ih=>
  intro x h
  cases h with
  | agg _ _ us hl' h1 hr=>
   exact .agg _ _ us (hl'.trans hl) h1 (fun i d u hd hu=>by
    have hlt : i < cs.length:=by rw [hl]; exact (List.getElem?_eq_some_iff.1 hd).1
    have hc:=List.getElem?_eq_getElem hlt
    exact ih i _ d hc hd (hr i _ u hc hu))
 | tup cs ds hl h ih=>
  intro x h
  cases h with
  | tup _ _ us hl' hr=>
   exact .tup _ _ us (hl'.trans hl) (fun i d u hd hu=>by
    have hlt : i < cs.length:=by rw [hl]; exact (List.getElem?_eq_some_iff.1 hd).1
    have hc:=List.getElem?_eq_getElem hlt
    exact ih i _ d hc hd (hr i _ u hc hu))
mutual
def D.noSl : D → Bool
 | .v _=>true
 | .nul=>true
 | .own _ _ _=>true
 | .agg cs=>D.noSlL cs
 | .tup cs=>D.noSlL cs
 | _=>false
def D.noSlL : List D → Bool
 | []=>true
 | d :: l=>D.noSl d && D.noSlL l
end
theorem D.noSlL_iff : ∀ {l : List D},D.noSlL l = true ↔ ∀ d,d ∈ l → d.noSl = true
 | []=>by simp [D.noSlL]
 | d :: l=>by rw [D.noSlL,Bool.and_eq_true,D.noSlL_iff (l:=l)]; simp
theorem fz_noSl {w : World} {F F' : Cells} {m : Names} {d : D} {x : Value} (h : Fz w F m d x) : d.noSl = true → Fz w F' m d x:=by
 induction h with
 | any m x=>intro hp; cases hp
 | v m x=>intro _; exact .v m x
 | sl0 m s a cap=>intro hp; cases hp
 | sl m s es b off cap u hs hle hlen hu hr ih=>intro hp; cases hp
 | nul m a=>intro _; exact .nul m a
 | agg m cs us hl h1 hr ih=>intro hp; exact .agg m cs us hl h1 (fun i d u hd hu=>ih i d u hd hu (D.noSlL_iff.1 hp d (List.mem_of_getElem? hd)))
 | tup m cs us hl hr ih=>intro hp; exact .tup m cs us hl (fun i d u hd hu=>ih i d u hd hu (D.noSlL_iff.1 hp d (List.mem_of_getElem? hd)))
 | ifc m t d x h ih=>intro hp; cases hp
 | bnd m t name d x h ih=>intro hp; cases hp
 | mv m f d x h ih=>intro hp; cases hp
 | fn m f cs us hl hr ih=>intro hp; cases hp
 | ptr m cs b off u hu hr ih=>intro hp; cases hp
 | ref m g o b hg=>intro hp; cases hp
 | own m g s n b cap cur U hg hs hle hb hcap=>intro _; exact .own m g s n b cap cur U hg hs hle hb hcap
 | own0 m g s a hg=>intro _; exact .own0 m g s a hg
 | owo m g s o n b cap cur U hg hs hle hb hcap=>intro hp; cases hp
 | owo0 m g s o a cap p hg=>intro hp; cases hp
 | eref m g s i o b hg=>intro hp; cases hp
 | gho m l L e k x=>intro hp; cases hp
theorem blk_same {w w' : World} {F F' : Cells} {m m' : Names} {g g' : Nat} {d : D} (hd : flatRow d) (h : Blk w F m g d) (hm : m' g' = m g) (hb : ∀ b,m g = some (some b) → w'.heap[b]? = w.heap[b]? ∧ ∀ o,¬ F' b o) : Blk w' F' m' g' d:=by
 obtain ⟨s,es,rfl,hflat⟩:=hd
 rcases h with ⟨h1,h2⟩ | ⟨b,cur,T,h1,h2,hs,hlen,hsz,hc,_⟩
 ·exact Or.inl ⟨h1,hm.trans h2⟩
 ·refine Or.inr ⟨b,cur,T,hm.trans h1,(hb b h1).1.trans h2,hs,hlen,hsz,⟨hc.len,hc.one,fun j d u hd hu=>?_⟩,(hb b h1).2⟩
  obtain ⟨y,rfl⟩:=hflat d (List.mem_of_getElem? hd)
  have:=hc.fz j _ u hd hu
  cases this
  exact .v _ _
theorem Does.lent {P : Program} {f : FuncId} {H ds ds1 H' : List D} {r : D} (h : Does P f [] ds1 r H') (hl : ds.length = ds1.length) (hL : ∀ (i : Nat) (c d : D),ds[i]? = some c → ds1[i]? = some d → Lent H c d)
  (hH : ∀ d,d ∈ H → flatRow d) (hH' : ∀ d,d ∈ H' → flatRow d) (hr : r.noSl = true) :
  Does P f H ds (r.ren ((List.range H'.length).map (fun i=>nb + H.length + i))) (H ++ H'):=by
 intro w F m xs hxs _ hwf hds hH0 hm0 hinj
 have hHB : ∀ (i : Nat) (d : D),H[i]? = some d → flatRow d ∧ Blk w F m (nb + i) d:=fun i d hd=>⟨hH d (List.mem_of_getElem? hd),(hH0 i d hd).2⟩
 have hblk : ∀ i b,i < H.length → m (nb + i) = some (some b) → b < w.heap.size ∧ ∀ o,¬ F b o:=by
  intro i b hi hb
  obtain ⟨⟨s,es,he,_⟩,hB⟩:=hHB i _ (List.getElem?_eq_getElem hi)
  rw [he] at hB
  rcases hB with ⟨_,hm⟩ | ⟨b',cur,T,hm,hb',_,_,_,_,hF⟩
  ·rw [hb] at hm; cases hm
  ·rw [hb] at hm
   obtain rfl : b = b':=by injection hm with hm; injection hm
   exact ⟨(Array.getElem?_eq_some_iff.1 hb').1,hF⟩
 refine (h w (lentF F m H.length) noNames xs (hxs.trans hl) (Nat.zero_le _) (fun b o hbo=>?_) (fun i d x hd hx=>?_) (fun i d hd=>by simp at hd) (fun _ _=>rfl) (fun i j b hi=>by simp at hi)).mono ?_
 ·rcases hbo with hbo | ⟨i,hi,hb⟩
  ·exact hwf b o hbo
  ·exact (hblk i b hi hb).1
 ·have hlt : i < ds.length:=by rw [hl]; exact (List.getElem?_eq_some_iff.1 hd).1
  have hc:=List.getElem?_eq_getElem hlt
  exact lent_fz hHB (hL i _ d hc hd) (hds i _ x hc hx)
 ·rintro e w' ⟨x,F1,m1,rfl,c,wf1,_,hm1,hx,hB,hinj1,hnew⟩
  have hsame : ∀ b,b < w.heap.size → w'.heap[b]? = w.heap[b]?:=fun b hb=>c.block b hb (fun ⟨i,hi,_⟩=>by simp at hi)
  have hlo : ∀ i,i < H.length → (fun g=>if g < nb then none else if g < nb + H.length then m g else m1 (g - H.length)) (nb + i) = m (nb + i):=fun i hi=>by
   show (if nb + i < nb then none else if nb + i < nb + H.length then m (nb + i) else m1 (nb + i - H.length)) = _
   rw [if_neg (by omega),if_pos (by omega)]
  have hhi : ∀ j,(fun g=>if g < nb then none else if g < nb + H.length then m g else m1 (g - H.length)) (nb + (H.length + j)) = m1 (nb + j):=fun j=>by
   show (if nb + (H.length + j) < nb then none else if nb + (H.length + j) < nb + H.length then m (nb + (H.length + j)) else m1 (nb + (H.length + j) - H.length)) = _
   rw [if_neg (by omega),if_neg (by omega),show nb + (H.length + j) - H.length = nb + j by omega]
  refine ⟨x,fun b o=>F1 b o ∧ ¬ ∃ i,i < H.length ∧ m (nb + i) = some (some b),fun g=>if g < nb then none else if g < nb + H.length then m g else m1 (g - H.length),rfl,⟨c.os,c.tape,c.output,c.size,fun b hb _=>hsame b hb,c.shape,fun b o hbo=>?_,fun b o hbo hb hn=>?_,c.drawn⟩,fun b o hbo=>wf1 b o hbo.1,hlo,fun g hg=>?_,?_,fun i d hd=>?_,fun i j b d d' hd hd' hdb hdb' hi hj=>?_,fun i d b hd hdb hi=>?_⟩
  ·refine ⟨⟨(c.keep b o (Or.inl hbo)).1,fun ⟨i,hi,hb⟩=>(hblk i b hi hb).2 o hbo⟩,(c.keep b o (Or.inl hbo)).2⟩
  ·rcases c.back b o hbo.1 hb (fun ⟨i,hi,_⟩=>by simp at hi) with hF | hF
   ·exact hF
   ·exact absurd hF hbo.2
  ·show (if g < nb then none else if g < nb + H.length then m g else m1 (g - H.length)) = none
   rw [List.length_append] at hg
   by_cases h1 : g < nb
   ·rw [if_pos h1]
   ·rw [if_neg h1,if_neg (by omega)]
    exact hm1 _ (Or.inr (by omega))
  ·have h1 : Fz w' (fun b o=>F1 b o ∧ ¬ ∃ i,i < H.length ∧ m (nb + i) = some (some b)) m1 r x:=fz_noSl hx hr
   refine h1.ren (fun g p hg=>?_)
   have hgr : nb ≤ g ∧ g < nb + H'.length:=by
    apply Decidable.byContradiction
    intro hn
    have:=hm1 g (by omega)
    rw [hg] at this
    cases this
   refine ⟨nb + H.length + (g - nb),?_,?_⟩
   ·unfold nameOf
    rw [if_neg (by omega),List.getElem?_map,List.getElem?_range (by omega)]
    rfl
   ·have:=hhi (g - nb)
    rw [show nb + (H.length + (g - nb)) = nb + H.length + (g - nb) by omega,show nb + (g - nb) = g by omega] at this
    exact this.trans hg
  ·by_cases hi : i < H.length
   ·rw [List.getElem?_append_left hi] at hd
    obtain ⟨hfr,hBi⟩:=hHB i d hd
    refine ⟨fun he=>(by obtain ⟨s,es,h1,_⟩:=hfr; rw [he] at h1; cases h1),blk_same hfr hBi (hlo i hi) (fun b hb=>⟨hsame b (hblk i b hi hb).1,fun o ho=>ho.2 ⟨i,hi,hb⟩⟩)⟩
   ·rw [List.getElem?_append_right (by omega)] at hd
    obtain ⟨hne,hBi⟩:=hB _ d hd
    refine ⟨hne,?_⟩
    have e : nb + i = nb + (H.length + (i - H.length)):=by omega
    rw [e]
    refine blk_same (hH' d (List.mem_of_getElem? hd)) hBi (hhi _) (fun b hb=>⟨rfl,fun o ho=>?_⟩)
    obtain ⟨s,es,he,_⟩:=hH' d (List.mem_of_getElem? hd)
    rw [he] at hBi
    rcases hBi with ⟨_,h2⟩ | ⟨b',cur,T,h2,_,_,_,_,_,hF⟩
    ·rw [hb] at h2; cases h2
    ·rw [hb] at h2
     obtain rfl : b = b':=by injection h2 with h2; injection h2
     exact hF o ho.1
  ·have low : ∀ (i b : Nat),i < H.length → (fun g=>if g < nb then none else if g < nb + H.length then m g else m1 (g - H.length)) (nb + i) = some (some b) → b < w.heap.size:=fun i b hi hb=>(hblk i b hi ((hlo i hi).symm.trans hb)).1
   have high : ∀ (i b : Nat) (d : D),¬ i < H.length → (H ++ H')[i]? = some d → d.isBlk = true → (fun g=>if g < nb then none else if g < nb + H.length then m g else m1 (g - H.length)) (nb + i) = some (some b) → H'[i - H.length]? = some d ∧ m1 (nb + (i - H.length)) = some (some b) ∧ w.heap.size ≤ b:=by
    intro i b d hi hd hdb hb
    rw [List.getElem?_append_right (by omega)] at hd
    have e : nb + i = nb + (H.length + (i - H.length)):=by omega
    rw [e,hhi] at hb
    refine ⟨hd,hb,?_⟩
    rcases hnew _ d b hd hdb hb with ⟨j,hj,_⟩ | h2
    ·simp at hj
    ·exact h2
   by_cases h1 : i < H.length
   ·by_cases h2 : j < H.length
    ·exact hinj i j b h1 h2 ((hlo i h1).symm.trans hi) ((hlo j h2).symm.trans hj)
    ·have a1:=low i b h1 hi
     have a2:=(high j b d' h2 hd' hdb' hj).2.2
     omega
   ·by_cases h2 : j < H.length
    ·have a1:=low j b h2 hj
     have a2:=(high i b d h1 hd hdb hi).2.2
     omega
    ·have a1:=high i b d h1 hd hdb hi
     have a2:=high j b d' h2 hd' hdb' hj
     have:=hinj1 _ _ b d d' a1.1 a2.1 hdb hdb' a1.2.1 a2.2.1
     omega
  ·by_cases h1 : i < H.length
   ·exact Or.inl ⟨i,h1,(hlo i h1).symm.trans hi⟩
   ·rw [List.getElem?_append_right (by omega)] at hd
    have e : nb + i = nb + (H.length + (i - H.length)):=by omega
    rw [e] at hi
    have hi':=(hhi _).symm.trans hi
    rcases hnew _ d b hd hdb hi' with ⟨j,hj,_⟩ | h2
    ·simp at hj
    ·exact Or.inr h2
theorem Does.still {P : Program} {f : FuncId} {ds H' : List D} {r r1 : D} (h : Does P f [] ds r H') (hH' : ∀ d,d ∈ H' → flatRow d) (hr : Lent H' r r1) : Does P f [] ds r1 []:=by
 intro w F m xs hxs _ hwf hds hH0 hm0 hinj
 refine (h w F m xs hxs (Nat.zero_le _) hwf hds hH0 hm0 hinj).mono ?_
 rintro e w' ⟨x,F1,m1,rfl,c,wf1,_,hm1,hx,hB,hinj1,hnew⟩
 have hHB : ∀ (i : Nat) (d : D),H'[i]? = some d → flatRow d ∧ Blk w' F1 m1 (nb + i) d:=fun i d hd=>⟨hH' d (List.mem_of_getElem? hd),(hB i d hd).2⟩
 have hblk : ∀ i b,i < H'.length → m1 (nb + i) = some (some b) → b < w'.heap.size ∧ w.heap.size ≤ b:=by
  intro i b hi hb
  have hget:=List.getElem?_eq_getElem hi
  obtain ⟨⟨s,es,he,_⟩,hBi⟩:=hHB i _ hget
  have hisb : (H'[i]).isBlk = true:=by rw [he]; rfl
  rw [he] at hBi
  refine ⟨?_,?_⟩
  ·rcases hBi with ⟨_,hm⟩ | ⟨b',cur,T,hm,hb',_⟩
   ·rw [hb] at hm; cases hm
   ·rw [hb] at hm
    obtain rfl : b = b':=by injection hm with hm; injection hm
    exact (Array.getElem?_eq_some_iff.1 hb').1
  ·rcases hnew i _ b hget hisb hb with ⟨j,hj,_⟩ | h2
   ·simp at hj
   ·exact h2
 refine ⟨x,lentF F1 m1 H'.length,noNames,rfl,⟨c.os,c.tape,c.output,c.size,c.block,c.shape,fun b o hbo=>⟨Or.inl (c.keep b o hbo).1,(c.keep b o hbo).2⟩,fun b o hbo hb hn=>?_,c.drawn⟩,fun b o hbo=>?_,fun i hi=>by simp at hi,fun _ _=>rfl,lent_fz hHB hr hx,fun i d hd=>by simp at hd,fun i j b d d' hd=>by simp at hd,fun i d b hd=>by simp at hd⟩
 ·rcases hbo with hbo | ⟨i,hi,hib⟩
  ·exact c.back b o hbo hb hn
  ·have:=(hblk i b hi hib).2
   omega
 ·rcases hbo with hbo | ⟨i,hi,hib⟩
  ·exact wf1 b o hbo
  ·exact (hblk i b hi hib).1
theorem Lent.one {H : List D} {a b : D} (h : Lent H a b) : ∀ (i : Nat) (c d : D),[a][i]? = some c → [b][i]? = some d → Lent H c d:=by
 intro i c d hc hd
 rcases i with _ | i
 ·obtain rfl : a = c:=by simpa using hc
  obtain rfl : b = d:=by simpa using hd
  exact h
 ·simp at hc
theorem Lent.cons {H as1 bs : List D} {a b : D} (h : Lent H a b) (ht : ∀ (i : Nat) (c d : D),as1[i]? = some c → bs[i]? = some d → Lent H c d) : ∀ (i : Nat) (c d : D),(a :: as1)[i]? = some c → (b :: bs)[i]? = some d → Lent H c d:=by
 intro i c d hc hd
 rcases i with _ | i
 ·obtain rfl : a = c:=by simpa using hc
  obtain rfl : b = d:=by simpa using hd
  exact h
 ·exact ht i c d (by simpa using hc) (by simpa using hd)
theorem Lent.nil {H : List D} : ∀ (i : Nat) (c d : D),([] : List D)[i]? = some c → ([] : List D)[i]? = some d → Lent H c d:=fun i c d hc=>by simp at hc
theorem Lent.row {H : List D} {s n : Nat} {es : List D} (i : Nat) (h : H[i]? = some (.row s es)) (hn : es.length = n) (g : Nat) (hg : g = nb + i) : Lent H (.own g s n) (.sl s es):=by
 subst hn
 subst hg
 exact .own i s es h
end Go.Proofs.YtjngffbghkafaaaGreat
set_option maxRecDepth 100000
namespace Go.Proofs.YtjngffbghkafaaaGreat
open Go.RowKit
def allOf (w : World) : Cells:=fun b _=>b < w.heap.size
theorem calls_of {P : Program} {f : FuncId} {ds : List D} (h : Does P f [] ds (Bo true) []) (w : World) (xs : List Value) (hl : xs.length = ds.length)
  (hx : ∀ (i : Nat) (d : D) (x : Value),ds[i]? = some d → xs[i]? = some x → Fz w (allOf w) noNames d x) : Calls P f xs.toArray w fun e W'=>e = .returned (.bool true) ∧ Below w.heap.size w W':=by
 refine (h w (allOf w) noNames xs hl (Nat.le_refl _) (fun b o h=>h) hx (fun i d h=>by simp at h) (fun _ _=>rfl) (fun i j b hi=>by simp at hi)).mono ?_
 rintro e w' ⟨x,F',m',rfl,c,_,_,_,hx,_⟩
 obtain rfl:=hx.v_eq
 exact ⟨rfl,c.os,c.tape,c.output,c.size,fun k hk=>c.block k hk (fun ⟨i,hi,_⟩=>by simp at hi)⟩
end Go.Proofs.YtjngffbghkafaaaGreat
namespace Go.Proofs.YtjngffbghkafaaaGreat
open Go.RowKit
section
variable {P : Program} {G : Ctx} {σ τ : Env} {a : Act} {w : World}
def frzU2 (σ : Env) (t u g s : Nat) (es : List D) : Upd:=[(g,.any),(t,(σ t).frz g s es),(u,(σ u).frz g s es)]
theorem Rel.frz2 {t u g s : Nat} {es : List D} (hR : Rel G τ a w) (ht : t < nb) (hu : u < nb) (hg : nb ≤ g) (hr : τ g = .row s es) (hp : D.purL es = true) : Rel G (Env.put (frzU2 τ t u g s es) τ) a w:=by
 obtain ⟨hd,F,m,h⟩:=hR
 obtain ⟨F',h1,h2⟩:=h.freeze hg hr hp
 refine ⟨hd,F',m,(h1.recast ht (fun l L e k he=>by rw [Env.set_ne _ _ _ _ (by omega)]; exact D.frz_gho he) (h2 _ _ (h.slots t ht))).recast hu (fun l L e k he=>?_) (h2 _ _ (h.slots u hu))⟩
 by_cases e1 : u = t
 ·subst e1
  rw [Env.set_same]
  exact he
 ·rw [Env.set_ne _ _ _ _ e1,Env.set_ne _ _ _ _ (by omega)]
  exact D.frz_gho he
theorem pre_frz2 {t u g s : Nat} {es : List D} (ht : t < nb) (hu : u < nb) (hg : nb ≤ g) (hr : σ g = .row s es) (hp : D.purL es = true) : PreOK σ (frzU2 σ t u g s es) [t,u,g] [g,t,u]:=by
 refine ⟨fun p hpp=>?_,fun G τ a x hag hR=>?_⟩
 ·simp only [frzU2,List.mem_cons,List.not_mem_nil,or_false] at hpp
  rcases hpp with rfl | rfl | rfl
  ·exact List.mem_cons_self ..
  ·exact List.mem_cons_of_mem _ (List.mem_cons_self ..)
  ·exact List.mem_cons_of_mem _ (List.mem_cons_of_mem _ (List.mem_cons_self ..))
 ·have h1:=hag t (List.mem_cons_self ..)
  have h3:=hag u (List.mem_cons_of_mem _ (List.mem_cons_self ..))
  have h2:=hag g (List.mem_cons_of_mem _ (List.mem_cons_of_mem _ (List.mem_cons_self ..)))
  have:=hR.frz2 (t:=t) (u:=u) ht hu hg (h2.trans hr) hp
  rw [show frzU2 τ t u g s es = frzU2 σ t u g s es by unfold frzU2; rw [h1,h3]] at this
  exact this
end
attribute [go_sem] frzU2
end Go.Proofs.YtjngffbghkafaaaGreat
namespace Go.Proofs.YtjngffbghkafaaaGreat
open Go.RowKit
noncomputable section
def r_Z38_0 : List GI:=[gi 2 (.box 2 2000002 (.t 0) (some 5)),gi 4 (.mov 4 (.k (.v (.bool false))))]
def r_Z38_1 : List GI:=[gk 5 1048576]
def r_Z38_2 : List GI:=[gs 10 2 5,gt 11 5,gc 12 9 [.t 10,.t 11],gt 5 12]
def r_Z38_3 : List GI:=[gt 13 5,gd 14 .lss 13 0]
def r_Z38_4 : List GI:=[gi 4 (.mov 4 (.k (.v (.bool true))))]
def r_Z38_5 : List GI:=[gt 15 1,gt 16 5,gc 17 10 [.t 15,.t 16],gt 5 17]
def r_Z38_6 : List GI:=[gt 18 5,gd 19 .lss 18 0]
def r_Z38_7 : List GI:=[gi 4 (.mov 4 (.k (.v (.bool true))))]
def r_Z38_8 : List GI:=[gs 20 2 5,gc 21 12 [.t 20],gt 22 1,gc 23 13 [.t 22],gc 24 11 [.t 21,.t 23],gt 6 24]
def r_Z38_9 : List GI:=[gs 25 2 5,gc 26 12 [.t 25],gi 7 (.alloc 7 2000007 [I 0,I 0,.nul,.nul,.nul]),g0 (.sto 7 (.t 26) (some 5))]
def r_Z38_10 : List GI:=[gt 27 1,gc 28 13 [.t 27],gt 8 28]
def r_Z38_11 : List GI:=[gs 29 7 5,gt 30 8,gc 31 14 [.t 29,.t 30],gt 9 31]
def r_Z38_12 : List GI:=[gt 32 9,gt 33 6,gb 34 .neq 32 33]
def r_Z38_13 : List GI:=[gi 4 (.mov 4 (.k (.v (.bool false))))]
def r_Z38_14 : List GI:=[gs 35 7 5,gs 36 2 5,gc 37 12 [.t 36],gc 38 15 [.t 35,.t 37],gi 39 (.un 39 UnOp.not (.t 38))]
def r_Z38_15 : List GI:=[gi 4 (.mov 4 (.k (.v (.bool false))))]
def r_Z38_16 : List GI:=[gt 40 8,gt 41 1,gc 42 13 [.t 41],gc 43 16 [.t 40,.t 42],gi 44 (.un 44 UnOp.not (.t 43))]
def r_Z38_17 : List GI:=[gi 4 (.mov 4 (.k (.v (.bool false))))]
def r_Z38_18 : List GI:=[gi 4 (.mov 4 (.k (.v (.bool true))))]
def dc_Z38 : DC:=.seq (.z r_Z38_0) (.seq (.z r_Z38_1) (.seq (.z r_Z38_2) (.seq (.seq (.z r_Z38_3) (.cond (.t 14) (.seq (.z r_Z38_4) .ret) .skip)) (.seq (.z r_Z38_5) (.seq (.seq (.z r_Z38_6) (.cond (.t 19) (.seq (.z r_Z38_7) .ret) .skip)) (.seq (.z r_Z38_8) (.seq (.z r_Z38_9) (.seq (.z r_Z38_10) (.seq (.z r_Z38_11) (.seq (.seq (.z r_Z38_12) (.cond (.t 34) (.seq (.z r_Z38_13) .ret) .skip)) (.seq (.seq (.reg r_Z38_14 (some [0,0,2,7,15])) (.cond (.t 39) (.seq (.z r_Z38_15) .ret) .skip)) (.seq (.seq (.z r_Z38_16) (.cond (.t 44) (.seq (.z r_Z38_17) .ret) .skip)) (.seq (.z r_Z38_18) .ret)))))))))))))
theorem c_Z38 : cfun Tryz.prog [] 3 = some (45,dc_Z38,[(Res.tmp 4)]):=by kernel_rfl
end
end Go.Proofs.YtjngffbghkafaaaGreat
