/-
  Rows of one's own, lent to a call that takes what stands still: they come back unchanged. No condition.
-/
import Derived.Test.YtclkehekhdfnnaaJSVLib
set_option maxHeartbeats 4000000
set_option maxRecDepth 100000
set_option linter.unusedVariables false
set_option linter.unusedSimpArgs false
namespace Go.Proofs.Ytclkehekhdfnnaa
open Go.RowKit
def flatRow (d : D) : Prop:=∃ s es,d = .row s es ∧ ∀ c,c ∈ D.flat es → ∃ x,c = .v x
inductive Lent (H : List D) : D → D → Prop
 | same (d : D) (h : d.pur = true) : Lent H d d
 | own (i s : Nat) (es : List D) (h : H[i]? = some (.row s es)) : Lent H (.own (nb + i) s es.length) (.sl s es)
 | agg (cs ds : List D) (hl : cs.length = ds.length) (h : ∀ (i : Nat) (c d : D),cs[i]? = some c → ds[i]? = some d → Lent H c d) : Lent H (.agg cs) (.agg ds)
 | tup (cs ds : List D) (hl : cs.length = ds.length) (h : ∀ (i : Nat) (c d : D),cs[i]? = some c → ds[i]? = some d → Lent H c d) : Lent H (.tup cs) (.tup ds)
def lentF (F : Cells) (m : Names) (n : Nat) : Cells:=fun b o=>F b o ∨ ∃ i,i < n ∧ m (nb + i) = some (some b)
theorem lent_fz {w : World} {F : Cells} {m : Names} {H : List D} (hH : ∀ (i : Nat) (d : D),H[i]? = some d → flatRow d ∧ Blk w F m (nb + i) d) {c d : D} (hl : Lent H c d) :
  ∀ {x : Value},Fz w F m c x → Fz w (lentF F m H.length) noNames d x:=by
 have keep : ∀ {d : D} {x : Value},Fz w F m d x → Fz w (lentF F m H.length) m d x:=fun h=>h.still (T:=fun _=>True) ⟨rfl,rfl,rfl,Nat.le_refl _,fun _ _ h=>(h trivial).elim,fun _ cur _ _ h=>⟨cur,h,rfl⟩,fun _ _ h=>⟨Or.inl h,rfl⟩,fun _ _ _ _ h=>(h trivial).elim,Nat.le_refl _⟩
 induction hl with
 | same d hp=>intro x h; exact (keep h).pure hp noNames
 | own i s es hi=>
  intro x h
  obtain ⟨⟨s',es',he,hflat⟩,hB⟩:=hH i _ hi
  cases he
  have hlt : i < H.length:=(List.getElem?_eq_some_iff.1 hi).1
  generalize hn : es.length = n at h
  cases h with
  | own _ _ _ _ b cap cur U hg hs hle hb hcap=>
   subst hn
   rcases hB with ⟨_,hm⟩ | ⟨b',cur',T,hm,hb',hs',hlen,hsz,hc,hF⟩
   ·rw [hg] at hm; cases hm
   ·rw [hg] at hm
    obtain rfl : b = b':=by injection hm with hm; injection hm
    rw [hb] at hb'
    obtain ⟨rfl,rfl⟩ : cur = cur' ∧ U = T:=by injection hb' with hb'; injection hb' with h1 h2; exact ⟨h1,h2⟩
    have hc' : CellsOK w (lentF F m H.length) noNames (D.flat es) (cur.toList.take (es.length * s)):=⟨hc.len,hc.one,fun j d u hd hu=>by
     obtain ⟨y,rfl⟩:=hflat d (List.mem_of_getElem? hd)
     have:=hc.fz j _ u hd hu
     cases this
     exact .v _ _⟩
    refine Fz.ofCells hs hle hlen hc' (fun j v hj=>⟨?_,Or.inr ⟨i,hlt,hg⟩⟩)
    have hj2 : j < es.length * s:=by
     have:=(List.getElem?_eq_some_iff.1 hj).1
     rw [List.length_take] at this
     omega
    rw [List.getElem?_take_of_lt hj2] at hj
    rw [Nat.zero_add,cell_of_row w b j cur U (0,0) hb,← Array.getElem?_toList]
    exact hj
  | own0 _ _ _ a hg=>
   obtain rfl : es = []:=List.length_eq_zero_iff.1 hn
   exact .sl0 _ s a 0
 | agg cs ds hl h ih=>
  intro x h
  cases h with
  | agg _ _ us hl' h1 hr=>
   exact .agg _ _ us (hl'.trans hl) h1 (fun i d u hd hu=>by
    have hlt : i < cs.length:=by rw [hl]; exact (List.getElem?_eq_some_iff.1 hd).1
    have hc:=List.getElem?_eq_getElem hlt
    exact ih i _ d hc hd (hr i _ u hc hu))
 | tup cs ds hl h ih=>
  intro x h
  cases h with
  | tup _ _ us hl' hr=>
   exact .tup _ _ us (hl'.trans hl) (fun i d u hd hu=>by
    have hlt : i < cs.length:=by rw [hl]; exact (List.getElem?_eq_some_iff.1 hd).1
    have hc:=List.getElem?_eq_getElem hlt
    exact ih i _ d hc hd (hr i _ u hc hu))
theorem Does.still {P : Program} {f : FuncId} {ds H' : List D} {r r1 : D} (h : Does P f [] ds r H') (hH' : ∀ d,d ∈ H' → flatRow d) (hr : Lent H' r r1) : Does P f [] ds r1 []:=by
 intro w F m xs hxs _ hwf hds hH0 hm0 hinj
 refine (h w F m xs hxs (Nat.zero_le _) hwf hds hH0 hm0 hinj).mono ?_
 rintro e w' ⟨x,F1,m1,rfl,c,wf1,_,hm1,hx,hB,hinj1,hnew⟩
 have hHB : ∀ (i : Nat) (d : D),H'[i]? = some d → flatRow d ∧ Blk w' F1 m1 (nb + i) d:=fun i d hd=>⟨hH' d (List.mem_of_getElem? hd),(hB i d hd).2⟩
 have hblk : ∀ i b,i < H'.length → m1 (nb + i) = some (some b) → b < w'.heap.size ∧ w.heap.size ≤ b:=by
  intro i b hi hb
  have hget:=List.getElem?_eq_getElem hi
  obtain ⟨⟨s,es,he,_⟩,hBi⟩:=hHB i _ hget
  have hisb : (H'[i]).isBlk = true:=by rw [he]; rfl
  rw [he] at hBi
  refine ⟨?_,?_⟩
  ·rcases hBi with ⟨_,hm⟩ | ⟨b',cur,T,hm,hb',_⟩
   ·rw [hb] at hm; cases hm
   ·rw [hb] at hm
    obtain rfl : b = b':=by injection hm with hm; injection hm
    exact (Array.getElem?_eq_some_iff.1 hb').1
  ·rcases hnew i _ b hget hisb hb with ⟨j,hj,_⟩ | h2
   ·simp at hj
   ·exact h2
 refine ⟨x,lentF F1 m1 H'.length,noNames,rfl,⟨c.os,c.tape,c.output,c.size,c.block,c.shape,fun b o hbo=>⟨Or.inl (c.keep b o hbo).1,(c.keep b o hbo).2⟩,fun b o hbo hb hn=>?_,c.drawn⟩,fun b o hbo=>?_,fun i hi=>by simp at hi,fun _ _=>rfl,lent_fz hHB hr hx,fun i d hd=>by simp at hd,fun i j b d d' hd=>by simp at hd,fun i d b hd=>by simp at hd⟩
 ·rcases hbo with hbo | ⟨i,hi,hib⟩
  ·exact c.back b o hbo hb hn
  ·have:=(hblk i b hi hib).2
   omega
 ·rcases hbo with hbo | ⟨i,hi,hib⟩
  ·exact wf1 b o hbo
  ·exact (hblk i b hi hib).1
theorem Lent.one {H : List D} {a b : D} (h : Lent H a b) : ∀ (i : Nat) (c d : D),[a][i]? = some c → [b][i]? = some d → Lent H c d:=by
 intro i c d hc hd
 rcases i with _ | i
 ·obtain rfl : a = c:=by simpa using hc
  obtain rfl : b = d:=by simpa using hd
  exact h
 ·simp at hc
theorem Lent.cons {H as1 bs : List D} {a b : D} (h : Lent H a b) (ht : ∀ (i : Nat) (c d : D),as1[i]? = some c → bs[i]? = some d → Lent H c d) : ∀ (i : Nat) (c d : D),(a :: as1)[i]? = some c → (b :: bs)[i]? = some d → Lent H c d:=by
 intro i c d hc hd
 rcases i with _ | i
 ·obtain rfl : a = c:=by simpa using hc
  obtain rfl : b = d:=by simpa using hd
  exact h
 ·exact ht i c d (by simpa using hc) (by simpa using hd)
theorem Lent.nil {H : List D} : ∀ (i : Nat) (c d : D),([] : List D)[i]? = some c → ([] : List D)[i]? = some d → Lent H c d:=fun i c d hc=>by simp at hc
theorem Lent.row {H : List D} {s n : Nat} {es : List D} (i : Nat) (h : H[i]? = some (.row s es)) (hn : es.length = n) (g : Nat) (hg : g = nb + i) : Lent H (.own g s n) (.sl s es):=by
 subst hn
 subst hg
 exact .own i s es h
end Go.Proofs.Ytclkehekhdfnnaa
