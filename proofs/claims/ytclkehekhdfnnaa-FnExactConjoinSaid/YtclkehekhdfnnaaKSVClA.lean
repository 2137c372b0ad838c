/-
  A tree that is being copied off a stack: rows of one's own, each hanging in an element of the one above it; how what is known of them is put otherwise. No condition.
-/
import Derived.Test.YtclkehekhdfnnaaJSVLib
set_option maxHeartbeats 4000000
set_option maxRecDepth 100000
set_option linter.unusedVariables false
set_option linter.unusedSimpArgs false
namespace Go.Proofs.Ytclkehekhdfnnaa
open Go.RowKit
section
variable {P : Program} {σ τ : Env} {k : Nat}
theorem cells_frz (g s : Nat) (es : List D) (e : D) : (e.frz g s es).cells = D.frzL g s es e.cells:=by
 cases e with
 | own a b c=>
  show ((D.own a b c).frz g s es).cells = [(D.own a b c).frz g s es]
  rw [D.frz]
  by_cases h : a = g ∧ b = s ∧ c ≤ es.length
  ·rw [if_pos h]; rfl
  ·rw [if_neg h]; rfl
 | owo a b c d=>
  show ((D.owo a b c d).frz g s es).cells = [(D.owo a b c d).frz g s es]
  rw [D.frz]
  by_cases h : a = g
  ·rw [if_pos h]; rfl
  ·rw [if_neg h]; rfl
 | _=>rfl
theorem flat_frzL (g s : Nat) (es l : List D) : D.flat (D.frzL g s es l) = D.frzL g s es (D.flat l):=by
 rw [D.frzL_map,D.frzL_map,D.flat,D.flat,List.flatMap_map,List.map_flatMap]
 congr 1
 funext e
 rw [cells_frz,D.frzL_map]
mutual
theorem frz_pure (g s : Nat) (es : List D) : ∀ d : D,d.pur = true → d.frz g s es = d
 | .any,_=>rfl
 | .v _,_=>rfl
 | .sl _ _,_=>rfl
 | .nul,_=>rfl
 | .agg cs,h=>by rw [D.frz,frzL_pure g s es cs h]
 | .tup cs,h=>by rw [D.frz,frzL_pure g s es cs h]
 | .ifc t d,h=>by rw [D.frz,frz_pure g s es d h]
 | .bnd t n d,h=>by rw [D.frz,frz_pure g s es d h]
 | .mv f d,h=>by rw [D.frz,frz_pure g s es d h]
 | .fn f cs,h=>by rw [D.frz,frzL_pure g s es cs h]
 | .ptr _,_=>rfl
 | .ref _ _,h=>by cases h
 | .own _ _ _,h=>by cases h
 | .owo _ _ _ _,h=>by cases h
 | .eref _ _ _ _,h=>by cases h
 | .obj _,h=>by cases h
 | .row _ _,h=>by cases h
 | .free,h=>by cases h
 | .gho _ _ _ _,h=>by cases h
 | .kow _ _ _,h=>by cases h
 | .fam _,h=>by cases h
theorem frzL_pure (g s : Nat) (es : List D) : ∀ l : List D,D.purL l = true → D.frzL g s es l = l
 | [],_=>rfl
 | d :: l,h=>by
  rw [D.purL,Bool.and_eq_true] at h
  rw [D.frzL,frz_pure g s es d h.1,frzL_pure g s es l h.2]
end
theorem wk_frzR (q g : Nat) {s sq : Nat} {es er : List D} (hq : nb ≤ q) (hqg : q ≠ g) (hcs : σ q = .row sq er) (hg : nb ≤ g) (hr : σ g = .row s es) (hp : D.purL es = true) : Wk k σ ((σ.set g .any).set q (.row sq (D.frzL g s es er))):=by
 rintro G a w - ⟨hd,F,m,h⟩
 obtain ⟨F',h1,h2⟩:=h.freeze hg hr hp
 have e : (σ.set g .any) q = σ q:=Env.set_ne _ _ _ _ hqg
 have hbl : ((σ.set g .any) q).isBlk = true:=by rw [e,hcs]; rfl
 refine ⟨hd,F',m,h1.turn hq hbl (Chg.refl w F' _) h1.wf ?_ (fun e=>by cases e)⟩
 have h0:=h.blks q hq
 have h3:=h1.blks q hq
 rw [e,hcs] at h3
 rw [hcs] at h0
 rcases h3 with ⟨h4,h5⟩ | ⟨b,cur,T,hm,hb,hs,hl,hsz,hc,hF⟩
 ·subst h4; exact .inl ⟨rfl,h5⟩
 rcases h0 with ⟨h4,h5⟩ | ⟨b0,cur0,T0,hm0,hb0,_,_,_,hc0,_⟩
 ·rw [hm] at h5; cases h5
 obtain rfl : b0 = b:=by rw [hm] at hm0; simpa using hm0.symm
 obtain rfl : cur0 = cur:=by rw [hb] at hb0; injection hb0 with h; injection h with h _ _; exact h.symm
 have hlen : (D.frzL g s es er).length = er.length:=by rw [D.frzL_map,List.length_map]
 refine .inr ⟨b0,cur0,T,hm,hb,hs,fun x hx=>?_,by rw [hlen]; exact hsz,?_,hF⟩
 ·rw [D.frzL_map] at hx
  obtain ⟨x',hx',rfl⟩:=List.mem_map.1 hx
  rw [cells_frz,D.frzL_map,List.length_map]; exact hl x' hx'
 ·rw [hlen,flat_frzL]
  refine ⟨by rw [D.frzL_map,List.length_map]; exact hc0.len,hc0.one,fun j d u hd hu=>?_⟩
  rw [D.frzL_map,List.getElem?_map] at hd
  cases hj : (D.flat er)[j]? with
  | none=>rw [hj] at hd; cases hd
  | some e'=>
   rw [hj] at hd
   obtain rfl : e'.frz g s es = d:=by simpa using hd
   exact h2 _ _ (hc0.fz j e' u hj hu)
theorem wk_cut (g n : Nat) {s : Nat} {es : List D} (hg : nb ≤ g) (hr : σ g = .row s es) (hn : n ≤ es.length) : Wk k σ (σ.set g (.row s (es.take n))):=by
 rintro G a w - ⟨hd,F,m,h⟩
 have h0:=h.blks g hg
 rw [hr] at h0
 refine ⟨hd,F,m,h.turn hg (by rw [hr]; rfl) (Chg.refl w F _) h.wf ?_ (fun e=>by cases e)⟩
 have hl2 : (es.take n).length = n:=by rw [List.length_take]; omega
 rcases h0 with ⟨h4,h5⟩ | ⟨b,cur,T,hm,hb,hs,hl,hsz,hc,hF⟩
 ·subst h4; exact .inl ⟨by simp,h5⟩
 ·obtain ⟨h1,h2,h3⟩:=part_cells hs hl hc 0 n (Nat.zero_le _) hn
  rw [List.drop_zero,Nat.zero_mul,List.drop_zero,Nat.sub_zero] at h3
  rw [List.drop_zero] at h1
  have hle : n * s ≤ es.length * s:=Nat.mul_le_mul_right _ hn
  refine .inr ⟨b,cur,T,hm,hb,hs,h1,by rw [hl2]; omega,?_,hF⟩
  rw [hl2]
  rwa [List.take_take,Nat.min_eq_left hle] at h3
theorem wk_objRow (q : Nat) {s : Nat} {cs : List D} (hq : nb ≤ q) (hcs : σ q = .obj cs) (h0 : 0 < s) (hl : cs.length = s) : Wk k σ (σ.set q (.row s [.agg cs])):=by
 rintro G a w - ⟨hd,F,m,h⟩
 have hb0:=h.blks q hq
 rw [hcs] at hb0
 refine ⟨hd,F,m,h.turn hq (by rw [hcs]; rfl) (Chg.refl w F _) h.wf ?_ (fun e=>by cases e)⟩
 obtain ⟨b,cur,U,hg,hb,hc,hF⟩:=hb0
 have hcl:=hc.len
 have e1 : D.flat [.agg cs] = cs:=by simp [D.flat,D.cells]
 rw [Array.length_toList] at hcl
 refine .inr ⟨b,cur,U,hg,hb,h0,fun e he=>?_,?_,?_,hF⟩
 ·rw [List.mem_singleton.1 he]; exact hl
 ·rw [List.length_singleton]; omega
 ·rw [e1,List.take_of_length_le (by rw [List.length_singleton,Array.length_toList]; omega)]
  exact hc
theorem fz_refe {w : World} {F : Cells} {m : Names} {g s : Nat} {x : Value} (h : Fz w F m (.ref g 0) x) : Fz w F m (.eref g s 0 0) x:=by
 cases h with
 | ref _ _ _ b hg=>
  have:=Fz.eref (w:=w) (F:=F) m g s 0 0 b hg
  rwa [Nat.zero_mul] at this
theorem wk_refe (t : Nat) {g : Nat} (s : Nat) (ht : t < nb) (hr : σ t = .ref g 0) : Wk k σ (σ.set t (.eref g s 0 0)):=by
 rintro G a w - ⟨hd,F,m,h⟩
 have h0:=h.slots t ht
 rw [hr] at h0
 exact ⟨hd,F,m,h.recast ht (fun _ _ _ _ he=>by cases he) (fz_refe h0)⟩
theorem wk_rowe (q : Nat) {g : Nat} (s : Nat) (hq : nb ≤ q) (hr : σ q = .row 1 [.ref g 0]) : Wk k σ (σ.set q (.row 1 [.eref g s 0 0])):=by
 rintro G a w - ⟨hd,F,m,h⟩
 have h0:=h.blks q hq
 rw [hr] at h0
 refine ⟨hd,F,m,h.turn hq (by rw [hr]; rfl) (Chg.refl w F _) h.wf ?_ (fun e=>by cases e)⟩
 rcases h0 with ⟨h4,h5⟩ | ⟨b,cur,T,hm,hb,hs,hl,hsz,hc,hF⟩
 ·cases h4
 ·refine .inr ⟨b,cur,T,hm,hb,hs,fun e he=>?_,hsz,⟨hc.len,hc.one,fun j d u hd hu=>?_⟩,hF⟩
  ·rw [List.mem_singleton.1 he]; rfl
  ·have e1 : D.flat [D.eref g s 0 0] = [D.eref g s 0 0]:=rfl
   have e2 : D.flat [D.ref g 0] = [D.ref g 0]:=rfl
   rw [e1] at hd
   rw [e2] at hc
   cases j with
   | zero=>
    obtain rfl : D.eref g s 0 0 = d:=by simpa using hd
    exact fz_refe (hc.fz 0 _ u rfl hu)
   | succ j=>simp at hd
end
structure Tr where
 α : Type
 s : Nat
 d : α → D
 ks : α → List α
 hole : α → Nat → Nat → D
 size : α → Nat
 pur : ∀ a,(d a).pur = true
 fr : ∀ a g,(hole a g (ks a).length).frz g s ((ks a).map d) = d a
 ren : ∀ a g n L g',nameOf L g = some g' → (hole a g n).ren L = hole a g' n
 one : ∀ a,1 ≤ size a
 sum : ∀ a,1 + ((ks a).map size).sum ≤ size a
namespace Tr
variable (T : Tr)
abbrev Lv:=List (List T.α × Nat × T.α)
theorem purs : ∀ l : List T.α,D.purL (l.map T.d) = true
 | []=>rfl
 | a :: l=>by rw [List.map_cons,D.purL,T.pur a,purs l]; rfl
def er (g i : Nat) : List D:=(List.range i).map fun j=>D.eref g T.s j 0
def pend : T.Lv → List D
 | []=>[]
 | x :: rest=>pend rest ++ T.er (nb + 3 + rest.length) x.2.1
def lvL : Nat → List T.α → T.Lv → List (Nat × D)
 | _,_,[]=>[]
 | up,cs,x :: rest=>(nb + 3 + rest.length,.row T.s ((x.1.map T.d).set x.2.1 (T.hole x.2.2 up cs.length))) :: lvL (nb + 3 + rest.length) x.1 rest
def Wf : List T.α → T.Lv → Prop
 | _,[]=>True
 | cs,x :: rest=>x.1[x.2.1]? = some x.2.2 ∧ T.ks x.2.2 = cs ∧ Wf x.1 rest
def LvOK (σ : Env) : Nat → List T.α → T.Lv → Prop
 | _,_,[]=>True
 | up,cs,x :: rest=>σ (nb + 3 + rest.length) = .row T.s ((x.1.map T.d).set x.2.1 (T.hole x.2.2 up cs.length)) ∧ LvOK σ (nb + 3 + rest.length) x.1 rest
def left : List T.α → Nat → Nat:=fun cs p=>((cs.take p).map T.size).sum
def lefts : T.Lv → Nat
 | []=>0
 | x :: rest=>lefts rest + T.left x.1 x.2.1
variable {T}
theorem er_succ (g i : Nat) : T.er g (i + 1) = T.er g i ++ [.eref g T.s i 0]:=by
 unfold er
 rw [List.range_succ,List.map_append]
 rfl
theorem er_len (g i : Nat) : (T.er g i).length = i:=by unfold er; simp
theorem er_ren {L : List Nat} {g g' : Nat} (h : nameOf L g = some g') (i : Nat) : D.renL L (T.er g i) = T.er g' i:=by
 unfold er
 rw [D.renL_map,List.map_map]
 refine List.map_congr_left fun j _=>?_
 show (D.eref g T.s j 0).ren L = _
 rw [D.ren,h]
theorem renL_append (L : List Nat) (a b : List D) : D.renL L (a ++ b) = D.renL L a ++ D.renL L b:=by
 rw [D.renL_map,D.renL_map,D.renL_map,List.map_append]
theorem pend_ren {L : List Nat} : ∀ lv : T.Lv,(∀ r,r < lv.length → L[3 + r]? = some (nb + 3 + r)) → D.renL L (T.pend lv) = T.pend lv
 | [],_=>rfl
 | x :: rest,h=>by
  have h1:=h rest.length (by simp)
  rw [pend,renL_append,pend_ren rest (fun r hr=>h r (by rw [List.length_cons]; omega)),er_ren (g:=nb + 3 + rest.length) (g':=nb + 3 + rest.length) (by rw [show nb + 3 + rest.length = nb + (3 + rest.length) by omega,nameOf_at,h1]; congr 1; omega)]
theorem agr_lv {σ : Env} {L : List Nat} : ∀ (lv : T.Lv) (up up' : Nat) (cs : List T.α),(∀ r,r < lv.length → L[3 + r]? = some (nb + 3 + r)) → nameOf L up' = some up → T.LvOK σ up cs lv → agr σ L (T.lvL up' cs lv)
 | [],_,_,_,_,_,_=>trivial
 | x :: rest,up,up',cs,h,hu,hok=>by
  have h1:=h rest.length (by simp)
  refine ⟨?_,agr_lv rest _ _ _ (fun r hr=>h r (by rw [List.length_cons]; omega)) (by rw [show nb + 3 + rest.length = nb + (3 + rest.length) by omega,nameOf_at,h1]; congr 1; omega) hok.2⟩
  unfold agr1
  rw [if_neg (by show ¬ nb + 3 + rest.length < nb; omega)]
  have e1 : nb + 3 + rest.length - nb = 3 + rest.length:=by omega
  rw [e1,h1]
  refine ⟨rfl,?_⟩
  show σ (nb + 3 + rest.length) = (D.row T.s _).ren L
  rw [hok.1,D.ren,D.renL_map,List.map_set,T.ren _ _ _ _ _ hu,← D.renL_map,ren_pure.renL_pure _ _ (T.purs _)]
theorem LvOK.congr {σ τ : Env} : ∀ (lv : T.Lv) (up : Nat) (cs : List T.α),(∀ r,r < lv.length → τ (nb + 3 + r) = σ (nb + 3 + r)) → T.LvOK σ up cs lv → T.LvOK τ up cs lv
 | [],_,_,_,_=>trivial
 | x :: rest,up,cs,h,hok=>⟨(h rest.length (by simp)).trans hok.1,LvOK.congr rest _ _ (fun r hr=>h r (by rw [List.length_cons]; omega)) hok.2⟩
theorem ofL_lv : ∀ (lv : T.Lv) (up : Nat) (cs : List T.α) (c : Nat),3 + lv.length ≤ c → (∀ t,t < nb → ofL c (T.lvL up cs lv) t = .any) ∧ (∀ g,nb + c ≤ g → ofL c (T.lvL up cs lv) g = .free) ∧ (∀ g,nb ≤ g → g < nb + 3 → ofL c (T.lvL up cs lv) g = .any) ∧ (∀ r,lv.length ≤ r → 3 + r < c → ofL c (T.lvL up cs lv) (nb + 3 + r) = .any) ∧ T.LvOK (ofL c (T.lvL up cs lv)) up cs lv
 | [],up,cs,c,hc=>by
  refine ⟨fun t ht=>?_,fun g hg=>?_,fun g h1 h2=>?_,fun r h1 h2=>?_,trivial⟩
  ·show base c t = _; unfold base; rw [if_pos ht]
  ·show base c g = _; unfold base; rw [if_neg (by omega),if_neg (by omega)]
  ·show base c g = _; unfold base; rw [if_neg (by omega),if_pos (by rw [List.length_nil] at hc; omega)]
  ·show base c _ = _; unfold base; rw [if_neg (by omega),if_pos (by omega)]
 | x :: rest,up,cs,c,hc=>by
  rw [List.length_cons] at hc
  obtain ⟨h1,h2,h3,h5,h4⟩:=ofL_lv rest (nb + 3 + rest.length) x.1 c (by omega)
  refine ⟨fun t ht=>?_,fun g hg=>?_,fun g ha hb=>?_,fun r ha hb=>?_,?_,?_⟩
  ·rw [lvL,ofL,Env.set_ne _ _ _ _ (by show ¬ t = nb + 3 + rest.length; omega)]; exact h1 t ht
  ·rw [lvL,ofL,Env.set_ne _ _ _ _ (by show ¬ g = nb + 3 + rest.length; omega)]; exact h2 g hg
  ·rw [lvL,ofL,Env.set_ne _ _ _ _ (by show ¬ g = nb + 3 + rest.length; omega)]; exact h3 g ha hb
  ·rw [List.length_cons] at ha
   rw [lvL,ofL,Env.set_ne _ _ _ _ (by show ¬ nb + 3 + r = nb + 3 + rest.length; omega)]; exact h5 r (by omega) hb
  ·rw [lvL,ofL,Env.set_same]
  ·rw [lvL,ofL]
   exact LvOK.congr rest _ _ (fun r hr=>Env.set_ne _ _ _ _ (by show ¬ nb + 3 + r = nb + 3 + rest.length; omega)) h4
def rn : T.Lv → Nat
 | []=>nb + 1
 | _ :: _=>nb + 3
theorem left_succ {cs : List T.α} {i : Nat} {a : T.α} (h : cs[i]? = some a) : T.left cs (i + 1) = T.left cs i + T.size a:=by
 unfold left
 rw [take_next h,List.map_append,List.sum_append,List.map_singleton,List.sum_singleton]
theorem left_all (cs : List T.α) : T.left cs cs.length = (cs.map T.size).sum:=by
 unfold left
 rw [List.take_length]
theorem le_left (l : List T.α) : ∀ i,i ≤ l.length → i ≤ T.left l i
 | 0,_=>Nat.zero_le _
 | i + 1,hi=>by
  have:=le_left l i (by omega)
  have hg:=List.getElem?_eq_getElem (l:=l) (i:=i) (by omega)
  rw [left_succ hg]
  have:=T.one l[i]
  omega
theorem pend_le : ∀ (lv : T.Lv) (cs : List T.α),T.Wf cs lv → (T.pend lv).length ≤ T.lefts lv
 | [],_,_=>Nat.le_refl _
 | x :: rest,cs,h=>by
  rw [pend,lefts,List.length_append,er_len]
  have h1:=pend_le rest _ h.2.2
  have h2:=(List.getElem?_eq_some_iff.1 h.1).1
  have:=le_left x.1 x.2.1 (by omega)
  omega
end Tr
end Go.Proofs.Ytclkehekhdfnnaa
